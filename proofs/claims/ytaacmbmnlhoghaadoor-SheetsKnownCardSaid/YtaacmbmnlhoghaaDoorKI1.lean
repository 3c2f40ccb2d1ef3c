/-
  Says: what the laws answer at the inputs of SheetsKnown.
-/
import Derived.Test.YtaacmbmnlhoghaaDoorKT
import Derived.KernelRfl
set_option maxRecDepth 1000000
set_option linter.unusedVariables false
set_option linter.unusedSimpArgs false
namespace Go.Proofs.YtaacmbmnlhoghaaDoor
open Go Go.Vx
attribute [local instance] anyKeeps
attribute [local instance] anySyms
def le_0 : List Ent := [(3, [va [vu 0, vu 0], vn 8, va [vi 1, vi 0, vu 1]], vt), (4, [va [vu 0, vu 0], vi 1, vu 0], vt), (6, [va [vu 0, vu 0], va [vi 1, vu 1]], vt), (27, [va [vi 0, vn 0], vi 0], vt)]
theorem li_0 (t : Nat → TypeId) : allL (entOk Tryd.prog (rowOrc (fun _ => false) (tabG t) (orAns (fnAns 8 A8) (orAns (fnAns 15 A15) (orAns (fnAns 17 A17) AV))) rw_1_1) (tabG t)) le_0 = true := by kernel_rfl
def le_1 : List Ent := [(3, [va [vu 1, vu 0], vi 32, va [vi 0, vi 0, vu 2]], vt), (4, [va [vu 1, vu 0], vi 42, vu 1], vt), (6, [va [vu 1, vu 0], va [vi 42, vu 2]], vt), (27, [va [vi 13, vi 0], vi 1], vt)]
theorem li_1 (t : Nat → TypeId) : allL (entOk Tryd.prog (rowOrc (fun _ => false) (tabG t) (orAns (fnAns 8 A8) (orAns (fnAns 15 A15) (orAns (fnAns 17 A17) AV))) rw_2_1) (tabG t)) le_1 = true := by kernel_rfl
def le_2 : List Ent := [(3, [va [vu 2, vu 0], vn 9, va [vi 4, vi 2, vu 0]], vt), (4, [va [vu 2, vu 0], vi 0, vu 2], vt), (6, [va [vu 2, vu 0], va [vi 60, vu 0]], vt), (27, [va [vi 26, vn 1], vi 2], vt)]
theorem li_2 (t : Nat → TypeId) : allL (entOk Tryd.prog (rowOrc (fun _ => false) (tabG t) (orAns (fnAns 8 A8) (orAns (fnAns 15 A15) (orAns (fnAns 17 A17) AV))) rw_3_1) (tabG t)) le_2 = true := by kernel_rfl
def le_3 : List Ent := [(3, [va [vu 3, vu 0], vi 15, va [vi 2, vi 5, vu 0]], vt), (4, [va [vu 3, vu 0], vi 25, vu 3], vt), (6, [va [vu 3, vu 0], va [vi 85, vu 1]], vt), (27, [va [vi 39, vi 3], vi 3], vt)]
theorem li_3 (t : Nat → TypeId) : allL (entOk Tryd.prog (rowOrc (fun _ => false) (tabG t) (orAns (fnAns 8 A8) (orAns (fnAns 15 A15) (orAns (fnAns 17 A17) AV))) rw_4_1) (tabG t)) le_3 = true := by kernel_rfl
def le_4 : List Ent := [(3, [va [vu 4, vu 0], vi 41, va [vi 5, vi 4, vu 1]], vt), (4, [va [vu 4, vu 0], vi 101, vu 0], vt), (6, [va [vu 4, vu 0], va [vi 81, vu 3]], vt), (27, [va [vi 52, vi 9], vi 4], vt)]
theorem li_4 (t : Nat → TypeId) : allL (entOk Tryd.prog (rowOrc (fun _ => false) (tabG t) (orAns (fnAns 8 A8) (orAns (fnAns 15 A15) (orAns (fnAns 17 A17) AV))) rw_5_1) (tabG t)) le_4 = true := by kernel_rfl
def le_5 : List Ent := [(3, [va [vu 5, vu 1], vi 107, va [vi 5, vi 4, vu 2]], vt), (4, [va [vu 5, vu 1], vi 37, vu 1], vt), (6, [va [vu 5, vu 1], va [vi 27, vu 1]], vt), (27, [va [vi 65, vi 15], vi 5], vt)]
theorem li_5 (t : Nat → TypeId) : allL (entOk Tryd.prog (rowOrc (fun _ => false) (tabG t) (orAns (fnAns 8 A8) (orAns (fnAns 15 A15) (orAns (fnAns 17 A17) AV))) rw_1_2) (tabG t)) le_5 = true := by kernel_rfl
def le_6 : List Ent := [(3, [va [vu 6, vu 1], vi 61, va [vi 5, vi 0, vu 1]], vt), (4, [va [vu 6, vu 1], vi 21, vu 2], vt), (6, [va [vu 6, vu 1], va [vi 71, vu 3]], vt), (27, [va [vi 78, vi 9], vi 6], vt)]
theorem li_6 (t : Nat → TypeId) : allL (entOk Tryd.prog (rowOrc (fun _ => false) (tabG t) (orAns (fnAns 8 A8) (orAns (fnAns 15 A15) (orAns (fnAns 17 A17) AV))) rw_2_2) (tabG t)) le_6 = true := by kernel_rfl
def le_7 : List Ent := [(3, [va [vu 7, vu 1], vi 3, va [vi 6, vi 1, vu 3]], vt), (4, [va [vu 7, vu 1], vi 23, vu 3], vt), (6, [va [vu 7, vu 1], va [vi 13, vu 1]], vt), (27, [va [vi 91, vi 11], vi 7], vt)]
theorem li_7 (t : Nat → TypeId) : allL (entOk Tryd.prog (rowOrc (fun _ => false) (tabG t) (orAns (fnAns 8 A8) (orAns (fnAns 15 A15) (orAns (fnAns 17 A17) AV))) rw_3_2) (tabG t)) le_7 = true := by kernel_rfl
def le_8 : List Ent := [(3, [va [vu 8, vu 1], vi 32, va [vi 1, vi 5, vu 2]], vt), (4, [va [vu 8, vu 1], vi 22, vu 0], vt), (6, [va [vu 8, vu 1], va [vi 12, vu 2]], vt), (27, [va [vi 104, vi 0], vi 8], vt)]
theorem li_8 (t : Nat → TypeId) : allL (entOk Tryd.prog (rowOrc (fun _ => false) (tabG t) (orAns (fnAns 8 A8) (orAns (fnAns 15 A15) (orAns (fnAns 17 A17) AV))) rw_4_2) (tabG t)) le_8 = true := by kernel_rfl
def le_9 : List Ent := [(3, [va [vu 9, vu 1], vi 44, va [vi 3, vi 3, vu 4]], vt), (4, [va [vu 9, vu 1], vi 94, vu 1], vt), (6, [va [vu 9, vu 1], va [vi 24, vu 2]], vt), (27, [va [vi 117, vi 12], vi 9], vt)]
theorem li_9 (t : Nat → TypeId) : allL (entOk Tryd.prog (rowOrc (fun _ => false) (tabG t) (orAns (fnAns 8 A8) (orAns (fnAns 15 A15) (orAns (fnAns 17 A17) AV))) rw_5_2) (tabG t)) le_9 = true := by kernel_rfl
def le_10 : List Ent := [(3, [va [vu 10, vu 2], vi 31, va [vi 4, vi 1, vu 1]], vt), (4, [va [vu 10, vu 2], vi 11, vu 2], vt), (6, [va [vu 10, vu 2], va [vi 71, vu 1]], vt), (27, [va [vi 130, vn 0], vi 10], vt)]
theorem li_10 (t : Nat → TypeId) : allL (entOk Tryd.prog (rowOrc (fun _ => false) (tabG t) (orAns (fnAns 8 A8) (orAns (fnAns 15 A15) (orAns (fnAns 17 A17) AV))) rw_1_3) (tabG t)) le_10 = true := by kernel_rfl
def le_11 : List Ent := [(3, [va [vu 11, vu 2], vi 11, va [vi 6, vi 3, vu 1]], vt), (4, [va [vu 11, vu 2], vi 91, vu 3], vt), (6, [va [vu 11, vu 2], va [vi 81, vu 1]], vt), (27, [va [vi 143, vn 0], vi 11], vt)]
theorem li_11 (t : Nat → TypeId) : allL (entOk Tryd.prog (rowOrc (fun _ => false) (tabG t) (orAns (fnAns 8 A8) (orAns (fnAns 15 A15) (orAns (fnAns 17 A17) AV))) rw_2_3) (tabG t)) le_11 = true := by kernel_rfl
def le_12 : List Ent := [(3, [va [vu 12, vu 2], vi 5, va [vi 1, vi 2, vu 0]], vt), (4, [va [vu 12, vu 2], vi 15, vu 0], vt), (6, [va [vu 12, vu 2], va [vi 75, vu 3]], vt), (27, [va [vi 156, vi 13], vi 12], vt)]
theorem li_12 (t : Nat → TypeId) : allL (entOk Tryd.prog (rowOrc (fun _ => false) (tabG t) (orAns (fnAns 8 A8) (orAns (fnAns 15 A15) (orAns (fnAns 17 A17) AV))) rw_3_3) (tabG t)) le_12 = true := by kernel_rfl
def le_13 : List Ent := [(3, [va [vu 13, vu 2], vi 104, va [vi 5, vi 1, vu 4]], vt), (4, [va [vu 13, vu 2], vi 94, vu 1], vt), (6, [va [vu 13, vu 2], va [vi 54, vu 2]], vt), (27, [va [vi 169, vi 12], vi 13], vt)]
theorem li_13 (t : Nat → TypeId) : allL (entOk Tryd.prog (rowOrc (fun _ => false) (tabG t) (orAns (fnAns 8 A8) (orAns (fnAns 15 A15) (orAns (fnAns 17 A17) AV))) rw_4_3) (tabG t)) le_13 = true := by kernel_rfl
def le_14 : List Ent := [(3, [va [vu 14, vu 2], vi 108, va [vi 0, vi 4, vu 3]], vt), (4, [va [vu 14, vu 2], vi 38, vu 2], vt), (6, [va [vu 14, vu 2], va [vi 88, vu 2]], vt), (27, [va [vi 182, vi 16], vi 14], vt)]
theorem li_14 (t : Nat → TypeId) : allL (entOk Tryd.prog (rowOrc (fun _ => false) (tabG t) (orAns (fnAns 8 A8) (orAns (fnAns 15 A15) (orAns (fnAns 17 A17) AV))) rw_5_3) (tabG t)) le_14 = true := by kernel_rfl
def le_15 : List Ent := [(3, [va [vu 15, vu 3], vi 67, va [vi 2, vi 3, vu 2]], vt), (4, [va [vu 15, vu 3], vi 17, vu 3], vt), (6, [va [vu 15, vu 3], va [vi 17, vu 1]], vt), (27, [va [vi 195, vi 15], vi 15], vt)]
theorem li_15 (t : Nat → TypeId) : allL (entOk Tryd.prog (rowOrc (fun _ => false) (tabG t) (orAns (fnAns 8 A8) (orAns (fnAns 15 A15) (orAns (fnAns 17 A17) AV))) rw_1_4) (tabG t)) le_15 = true := by kernel_rfl
def le_16 : List Ent := [(3, [va [vu 16, vu 3], vi 93, va [vi 3, vi 4, vu 3]], vt), (4, [va [vu 16, vu 3], vi 93, vu 0], vt), (6, [va [vu 16, vu 3], va [vi 13, vu 3]], vt), (27, [va [vi 208, vi 1], vi 16], vt)]
theorem li_16 (t : Nat → TypeId) : allL (entOk Tryd.prog (rowOrc (fun _ => false) (tabG t) (orAns (fnAns 8 A8) (orAns (fnAns 15 A15) (orAns (fnAns 17 A17) AV))) rw_2_4) (tabG t)) le_16 = true := by kernel_rfl
def le_17 : List Ent := [(3, [va [vu 17, vu 3], vi 89, va [vi 1, vi 2, vu 4]], vt), (4, [va [vu 17, vu 3], vi 9, vu 1], vt), (6, [va [vu 17, vu 3], va [vi 9, vu 3]], vt), (27, [va [vi 221, vi 17], vi 17], vt)]
theorem li_17 (t : Nat → TypeId) : allL (entOk Tryd.prog (rowOrc (fun _ => false) (tabG t) (orAns (fnAns 8 A8) (orAns (fnAns 15 A15) (orAns (fnAns 17 A17) AV))) rw_3_4) (tabG t)) le_17 = true := by kernel_rfl
def le_18 : List Ent := [(3, [va [vu 18, vu 3], vi 8, va [vi 0, vi 0, vu 3]], vt), (4, [va [vu 18, vu 3], vi 98, vu 2], vt), (6, [va [vu 18, vu 3], va [vi 48, vu 2]], vt), (27, [va [vi 234, vi 16], vi 18], vt)]
theorem li_18 (t : Nat → TypeId) : allL (entOk Tryd.prog (rowOrc (fun _ => false) (tabG t) (orAns (fnAns 8 A8) (orAns (fnAns 15 A15) (orAns (fnAns 17 A17) AV))) rw_4_4) (tabG t)) le_18 = true := by kernel_rfl
def le_19 : List Ent := [(3, [va [vu 19, vu 3], vi 42, va [vi 3, vi 1, vu 2]], vt), (4, [va [vu 19, vu 3], vi 82, vu 3], vt), (6, [va [vu 19, vu 3], va [vi 82, vu 0]], vt), (27, [va [vi 247, vi 10], vi 19], vt)]
theorem li_19 (t : Nat → TypeId) : allL (entOk Tryd.prog (rowOrc (fun _ => false) (tabG t) (orAns (fnAns 8 A8) (orAns (fnAns 15 A15) (orAns (fnAns 17 A17) AV))) rw_5_4) (tabG t)) le_19 = true := by kernel_rfl
def le_20 : List Ent := [(3, [va [vu 20, vu 4], vi 19, va [vi 5, vi 0, vu 4]], vt), (4, [va [vu 20, vu 4], vi 109, vu 0], vt), (6, [va [vu 20, vu 4], va [vi 59, vu 1]], vt), (27, [va [vi 260, vi 7], vi 20], vt)]
theorem li_20 (t : Nat → TypeId) : allL (entOk Tryd.prog (rowOrc (fun _ => false) (tabG t) (orAns (fnAns 8 A8) (orAns (fnAns 15 A15) (orAns (fnAns 17 A17) AV))) rw_1_5) (tabG t)) le_20 = true := by kernel_rfl
def le_21 : List Ent := [(3, [va [vu 21, vu 4], vi 105, va [vi 0, vi 1, vu 0]], vt), (4, [va [vu 21, vu 4], vi 55, vu 1], vt), (6, [va [vu 21, vu 4], va [vi 25, vu 3]], vt), (27, [va [vi 273, vi 13], vi 21], vt)]
theorem li_21 (t : Nat → TypeId) : allL (entOk Tryd.prog (rowOrc (fun _ => false) (tabG t) (orAns (fnAns 8 A8) (orAns (fnAns 15 A15) (orAns (fnAns 17 A17) AV))) rw_2_5) (tabG t)) le_21 = true := by kernel_rfl
def le_22 : List Ent := [(3, [va [vu 22, vu 4], vi 16, va [vi 6, vi 2, vu 1]], vt), (4, [va [vu 22, vu 4], vi 76, vu 2], vt), (6, [va [vu 22, vu 4], va [vi 56, vu 2]], vt), (27, [va [vi 286, vi 4], vi 22], vt)]
theorem li_22 (t : Nat → TypeId) : allL (entOk Tryd.prog (rowOrc (fun _ => false) (tabG t) (orAns (fnAns 8 A8) (orAns (fnAns 15 A15) (orAns (fnAns 17 A17) AV))) rw_3_5) (tabG t)) le_22 = true := by kernel_rfl
def le_23 : List Ent := [(3, [va [vu 23, vu 4], vn 0, va [vi 1, vi 2, vu 4]], vt), (4, [va [vu 23, vu 4], vi 29, vu 3], vt), (6, [va [vu 23, vu 4], va [vi 9, vu 1]], vt), (27, [va [vi 299, vi 7], vi 23], vt)]
theorem li_23 (t : Nat → TypeId) : allL (entOk Tryd.prog (rowOrc (fun _ => false) (tabG t) (orAns (fnAns 8 A8) (orAns (fnAns 15 A15) (orAns (fnAns 17 A17) AV))) rw_4_5) (tabG t)) le_23 = true := by kernel_rfl
def le_24 : List Ent := [(3, [va [vu 24, vu 4], vi 72, va [vi 4, vi 0, vu 2]], vt), (4, [va [vu 24, vu 4], vi 42, vu 0], vt), (6, [va [vu 24, vu 4], va [vi 52, vu 2]], vt), (27, [va [vi 312, vi 0], vi 24], vt)]
theorem li_24 (t : Nat → TypeId) : allL (entOk Tryd.prog (rowOrc (fun _ => false) (tabG t) (orAns (fnAns 8 A8) (orAns (fnAns 15 A15) (orAns (fnAns 17 A17) AV))) rw_5_5) (tabG t)) le_24 = true := by kernel_rfl

end Go.Proofs.YtaacmbmnlhoghaaDoor
