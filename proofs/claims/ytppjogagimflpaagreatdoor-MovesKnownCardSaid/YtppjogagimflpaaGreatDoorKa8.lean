/-
  Says: what calls answer, as the kernel runs them (level 4).
-/
import Derived.Test.YtppjogagimflpaaGreatDoorKt
import Derived.Test.YtppjogagimflpaaGreatDoorKa0
import Derived.Test.YtppjogagimflpaaGreatDoorKa2
import Derived.Test.YtppjogagimflpaaGreatDoorKa3
import Derived.Test.YtppjogagimflpaaGreatDoorKa4
import Derived.Test.YtppjogagimflpaaGreatDoorKa5
import Derived.Test.YtppjogagimflpaaGreatDoorKs
import Derived.KernelRfl
set_option maxRecDepth 1000000
set_option linter.unusedVariables false
set_option linter.unusedSimpArgs false
namespace Go.Proofs.YtppjogagimflpaaGreatDoor
open Go Go.Vx
attribute [local instance] anySyms

noncomputable def e58 : List Ent := [(12, [va [vu 32,vk .i8 44,vl .i8 43]], vt), (12, [va [vu 30,vk .i8 13,vl .i8 13]], vt), (12, [va [vu 12,vk .i8 15,vl .i8 50]], vt), (12, [va [vu 13,vk .i8 54,vl .i8 57]], vt), (12, [va [vu 15,vk .i8 17,vl .i8 38]], vt), (12, [va [vu 21,vk .i8 55,vl .i8 10]], vt), (12, [va [vu 31,vk .i8 32,vl .i8 53]], vt), (12, [va [vu 39,vk .i8 14,vl .i8 49]], vt), (12, [va [vu 44,vk .i8 37,vl .i8 18]], vt), (12, [va [vu 47,vk .i8 52,vl .i8 33]], vt), (12, [va [vu 14,vk .i8 58,vl .i8 46]], vt), (12, [va [vu 20,vk .i8 29,vl .i8 28]], vt), (12, [va [vu 42,vk .i8 0,vk .i8 0]], vt), (12, [va [vu 36,vk .i8 47,vl .i8 56]], vt), (12, [va [vu 38,vk .i8 19,vl .i8 14]], vt), (12, [va [vu 46,vk .i8 17,vl .i8 14]], vt), (12, [va [vu 5,vk .i8 57,vl .i8 58]], vt), (12, [va [vu 22,vk .i8 26,vl .i8 40]], vt), (12, [va [vu 45,vk .i8 51,vl .i8 21]], vt), (12, [va [vu 29,vk .i8 48,vl .i8 44]], vt), (12, [va [vu 4,vk .i8 51,vl .i8 57]], vt), (12, [va [vu 6,vk .i8 11,vl .i8 1]], vt), (12, [va [vu 7,vk .i8 13,vl .i8 1]], vt), (12, [va [vu 41,vk .i8 30,vl .i8 29]], vt), (12, [va [vu 35,vk .i8 1,vk .i8 0]], vt)]
theorem e58_run (t : Nat → TypeId) : allL (entOk Tryz.prog (valOrc (fun _ => false) (tabG t) (orcL (e0 ++ e1 ++ e2 ++ e7 ++ e12 ++ e14 ++ e15 ++ e17 ++ e18 ++ e19 ++ e20 ++ e21 ++ e28 ++ e38))) (tabG t)) e58 = true := by kernel_rfl

noncomputable def e59 : List Ent := [(12, [va [vu 19,vk .i8 52,vl .i8 45]], vt), (12, [va [vu 1,vk .i8 42,vl .i8 7]], vt), (12, [va [vu 2,vk .i8 0,vl .i8 23]], vt), (12, [va [vu 33,vk .i8 55,vl .i8 10]], vt), (12, [va [vu 43,vk .i8 20,vl .i8 51]], vt), (12, [va [vu 9,vk .i8 54,vl .i8 57]], vt), (12, [va [vu 10,vk .i8 41,vl .i8 31]], vt), (12, [va [vu 11,vk .i8 21,vl .i8 3]], vt), (12, [va [vu 23,vk .i8 9,vl .i8 0]], vt), (12, [va [vu 28,vk .i8 24,vl .i8 51]], vt), (12, [va [vu 37,vk .i8 11,vl .i8 37]], vt), (12, [va [vu 27,vk .i8 40,vl .i8 19]], vt), (12, [va [vu 3,vk .i8 25,vl .i8 28]], vt), (12, [va [vu 25,vk .i8 11,vl .i8 49]], vt), (12, [va [vu 26,vk .i8 43,vl .i8 55]], vt), (12, [va [vu 18,vk .i8 18,vl .i8 50]], vt), (12, [va [vu 17,vk .i8 39,vl .i8 54]], vt), (12, [va [vu 34,vk .i8 17,vl .i8 2]], vt), (12, [va [vu 0,vk .i8 1,vk .i8 0]], vt), (12, [va [vu 40,vk .i8 11,vl .i8 13]], vt), (13, [va [vu 10,vi 16380,vi 10], vs []], vt), (13, [va [vu 12,vi 16378,vi 12], vs [48, 32, 49, 54, 51, 56, 54, 32, 48]], vt), (13, [va [vu 13,vi 16377,vi 13], vs [50, 53, 54, 32, 48, 32, 48]], vt), (13, [va [vu 2,vi 16388,vi 2], vs [56, 32, 48, 32, 48]], vt), (13, [va [vu 3,vi 16387,vi 3], vs [48, 32, 49, 32, 48]], vt), (13, [va [vu 4,vi 16386,vi 4], vs [49, 32, 50, 32, 52, 32]], vt), (13, [va [vu 5,vi 16385,vi 5], vs [49, 32, 32, 50, 32, 52]], vt), (13, [va [vu 8,vi 16382,vi 8], vs [49, 32, 43, 50, 32, 52]], vt), (13, [va [vu 9,vi 16381,vi 9], vs [49, 32, 45, 48, 32, 48]], vt), (13, [va [vu 6,vi 16384,vi 6], vs [48, 49, 32, 50, 32, 52]], vt)]
theorem e59_run (t : Nat → TypeId) : allL (entOk Tryz.prog (valOrc (fun _ => false) (tabG t) (orcL (e0 ++ e1 ++ e7 ++ e12 ++ e14 ++ e15 ++ e16 ++ e17 ++ e18 ++ e19 ++ e20 ++ e21 ++ e22 ++ e28 ++ e38 ++ sE))) (tabG t)) e59 = true := by kernel_rfl

noncomputable def e60 : List Ent := [(13, [va [vu 7,vi 16383,vi 7], vs [49, 32, 50]], vt), (13, [va [vu 0,vi 16390,vi 0], vs [48, 32, 48, 32, 48]], vt), (13, [va [vu 11,vi 16379,vi 11], vs [48, 32, 49, 54, 51, 56, 52, 32, 49, 54, 51, 56, 52]], vt), (13, [va [vu 1,vi 16389,vi 1], vs [55, 32, 45, 51, 32, 51]], vt)]
theorem e60_run (t : Nat → TypeId) : allL (entOk Tryz.prog (valOrc (fun _ => false) (tabG t) (orcL (e38 ++ sE))) (tabG t)) e60 = true := by kernel_rfl

end Go.Proofs.YtppjogagimflpaaGreatDoor
