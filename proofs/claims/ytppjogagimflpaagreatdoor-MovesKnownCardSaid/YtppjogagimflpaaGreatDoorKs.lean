/-
  Says: what the string functions answer, as a table.
-/
import Derived.Test.YtppjogagimflpaaGreatDoorKt
import Derived.KernelRfl
set_option maxRecDepth 1000000
set_option linter.unusedVariables false
set_option linter.unusedSimpArgs false
namespace Go.Proofs.YtppjogagimflpaaGreatDoor
open Go Go.Vx

/-- Parse, Text and the reference's Text. -/
noncomputable def sE : List Ent := [(35, [vs [48, 32, 48, 32, 48]], vp [va [vu 0, vi 0, vi 0], vi 0]), (35, [vs [48, 32, 49, 32, 48]], vp [va [vu 0, vi 0, vi 0], vi 4]), (35, [vs [48, 32, 49, 54, 51, 56, 52, 32, 49, 54, 51, 56, 52]], vp [va [vu 0, vi 16384, vi 16384], vi 0]), (35, [vs [48, 32, 49, 54, 51, 56, 54, 32, 48]], vp [va [vu 0, vi 0, vi 0], vi 4]), (35, [vs [48, 49, 32, 50, 32, 52]], vp [va [vu 0, vi 0, vi 0], vi 4]), (35, [vs [49, 32, 32, 50, 32, 52]], vp [va [vu 0, vi 0, vi 0], vi 4]), (35, [vs [49, 32, 43, 50, 32, 52]], vp [va [vu 0, vi 0, vi 0], vi 4]), (35, [vs [49, 32, 45, 48, 32, 48]], vp [va [vu 0, vi 0, vi 0], vi 4]), (35, [vs [49, 32, 50, 32, 52, 32]], vp [va [vu 0, vi 0, vi 0], vi 4]), (35, [vs [49, 32, 50]], vp [va [vu 0, vi 0, vi 0], vi 4]), (35, [vs [50, 53, 54, 32, 48, 32, 48]], vp [va [vu 0, vi 0, vi 0], vi 4]), (35, [vs [54, 32, 49, 54, 51, 56, 52, 32, 54]], vp [va [vu 6, vi 16384, vi 6], vi 0]), (35, [vs [55, 32, 45, 51, 32, 51]], vp [va [vu 7, vn 2, vi 3], vi 0]), (35, [vs [55, 32, 49, 54, 51, 56, 51, 32, 55]], vp [va [vu 7, vi 16383, vi 7], vi 0]), (35, [vs [56, 32, 48, 32, 48]], vp [va [vu 0, vi 0, vi 0], vi 4]), (35, [vs []], vp [va [vu 0, vi 0, vi 0], vi 4]), (36, [va [vu 0, vi 16390, vi 0]], vs []), (36, [va [vu 10, vi 16380, vi 10]], vs []), (36, [va [vu 11, vi 16379, vi 11]], vs []), (36, [va [vu 12, vi 16378, vi 12]], vs []), (36, [va [vu 13, vi 16377, vi 13]], vs []), (36, [va [vu 1, vi 16389, vi 1]], vs []), (36, [va [vu 2, vi 16388, vi 2]], vs []), (36, [va [vu 3, vi 16387, vi 3]], vs []), (36, [va [vu 4, vi 16386, vi 4]], vs []), (36, [va [vu 5, vi 16385, vi 5]], vs []), (36, [va [vu 6, vi 16384, vi 6]], vs [54, 32, 49, 54, 51, 56, 52, 32, 54]), (36, [va [vu 7, vi 16383, vi 7]], vs [55, 32, 49, 54, 51, 56, 51, 32, 55]), (36, [va [vu 8, vi 16382, vi 8]], vs []), (36, [va [vu 9, vi 16381, vi 9]], vs []), (34, [va [vu 0, vi 0, vi 0]], vs [48, 32, 48, 32, 48]), (34, [va [vu 0, vi 16384, vi 16384]], vs [48, 32, 49, 54, 51, 56, 52, 32, 49, 54, 51, 56, 52]), (34, [va [vu 6, vi 16384, vi 6]], vs [54, 32, 49, 54, 51, 56, 52, 32, 54]), (34, [va [vu 7, vn 2, vi 3]], vs [55, 32, 45, 51, 32, 51]), (34, [va [vu 7, vi 16383, vi 7]], vs [55, 32, 49, 54, 51, 56, 51, 32, 55])]

end Go.Proofs.YtppjogagimflpaaGreatDoor
