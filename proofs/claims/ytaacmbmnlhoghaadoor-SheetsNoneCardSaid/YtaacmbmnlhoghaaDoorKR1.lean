/-
  Says: rows: units, points and cells of sheets.
-/
import Derived.Test.YtaacmbmnlhoghaaDoorKL0
import Derived.KernelRfl
set_option maxRecDepth 1000000
set_option linter.unusedVariables false
set_option linter.unusedSimpArgs false
namespace Go.Proofs.YtaacmbmnlhoghaaDoor
open Go Go.Vx
attribute [local instance] anySyms
def un_1_1 : List Value := [vi 0, vu 1, vi 0, vu 2, vi 1, vu 2, vi 2, vu 1]
def po_1_1 : List Value := [vi 1, vi 1]
def ce_1_1 : List Value := [vi 0, vi 0, vu 0, vi 0, vi 0, vu 1, vi 0, vi 0, vu 2, vi 0, vi 0, vu 3]
def rw_1_1 : List RowE := [⟨19, [va [vi 1, vi 1]], un_1_1, 43, false, 4, 4, [vi 0]⟩, ⟨20, [va [vi 1, vi 1]], un_1_1, 43, true, 4, BIG, []⟩, ⟨25, [va [vi 1, vi 1]], po_1_1, 55, false, 1, 1, [vi 0]⟩, ⟨9, [va [vi 1, vi 1]], ce_1_1, 25, false, 4, 4, [vi 0]⟩, ⟨10, [va [vi 1, vi 1]], ce_1_1, 25, true, 4, BIG, []⟩]
theorem rr_1_1 (t : Nat → TypeId) : allL (rowOk Tryd.prog (QL t) (tabG t)) rw_1_1 = true := by kernel_rfl
def un_1_2 : List Value := [vi 0, vu 1, vi 0, vu 2, vi 1, vu 2, vi 2, vu 0, vi 2, vu 1, vi 4, vu 1, vi 4, vu 2, vi 5, vu 2, vi 6, vu 1]
def po_1_2 : List Value := [vi 1, vi 1, vi 1, vi 3]
def ce_1_2 : List Value := [vi 0, vi 0, vu 0, vi 0, vi 0, vu 1, vi 0, vi 0, vu 2, vi 0, vi 0, vu 3, vi 0, vi 1, vu 0, vi 0, vi 1, vu 1, vi 0, vi 1, vu 2, vi 0, vi 1, vu 3]
def rw_1_2 : List RowE := [⟨19, [va [vi 1, vi 2]], un_1_2, 43, false, 9, 9, [vi 0]⟩, ⟨20, [va [vi 1, vi 2]], un_1_2, 43, true, 9, BIG, []⟩, ⟨25, [va [vi 1, vi 2]], po_1_2, 55, false, 2, 2, [vi 0]⟩, ⟨9, [va [vi 1, vi 2]], ce_1_2, 25, false, 8, 8, [vi 0]⟩, ⟨10, [va [vi 1, vi 2]], ce_1_2, 25, true, 8, BIG, []⟩]
theorem rr_1_2 (t : Nat → TypeId) : allL (rowOk Tryd.prog (QL t) (tabG t)) rw_1_2 = true := by kernel_rfl
def un_1_3 : List Value := [vi 0, vu 1, vi 0, vu 2, vi 1, vu 2, vi 2, vu 0, vi 2, vu 1, vi 4, vu 1, vi 4, vu 2, vi 5, vu 2, vi 6, vu 0, vi 6, vu 1, vi 8, vu 1, vi 8, vu 2, vi 9, vu 2, vi 10, vu 1]
def po_1_3 : List Value := [vi 1, vi 1, vi 1, vi 3, vi 1, vi 5]
def ce_1_3 : List Value := [vi 0, vi 0, vu 0, vi 0, vi 0, vu 1, vi 0, vi 0, vu 2, vi 0, vi 0, vu 3, vi 0, vi 1, vu 0, vi 0, vi 1, vu 1, vi 0, vi 1, vu 2, vi 0, vi 1, vu 3, vi 0, vi 2, vu 0, vi 0, vi 2, vu 1, vi 0, vi 2, vu 2, vi 0, vi 2, vu 3]
def rw_1_3 : List RowE := [⟨19, [va [vi 1, vi 3]], un_1_3, 43, false, 14, 14, [vi 0]⟩, ⟨20, [va [vi 1, vi 3]], un_1_3, 43, true, 14, BIG, []⟩, ⟨25, [va [vi 1, vi 3]], po_1_3, 55, false, 3, 3, [vi 0]⟩, ⟨9, [va [vi 1, vi 3]], ce_1_3, 25, false, 12, 12, [vi 0]⟩, ⟨10, [va [vi 1, vi 3]], ce_1_3, 25, true, 12, BIG, []⟩]
theorem rr_1_3 (t : Nat → TypeId) : allL (rowOk Tryd.prog (QL t) (tabG t)) rw_1_3 = true := by kernel_rfl
def un_1_4 : List Value := [vi 0, vu 1, vi 0, vu 2, vi 1, vu 2, vi 2, vu 0, vi 2, vu 1, vi 4, vu 1, vi 4, vu 2, vi 5, vu 2, vi 6, vu 0, vi 6, vu 1, vi 8, vu 1, vi 8, vu 2, vi 9, vu 2, vi 10, vu 0, vi 10, vu 1, vi 12, vu 1, vi 12, vu 2, vi 13, vu 2, vi 14, vu 1]
def po_1_4 : List Value := [vi 1, vi 1, vi 1, vi 3, vi 1, vi 5, vi 1, vi 7]
def ce_1_4 : List Value := [vi 0, vi 0, vu 0, vi 0, vi 0, vu 1, vi 0, vi 0, vu 2, vi 0, vi 0, vu 3, vi 0, vi 1, vu 0, vi 0, vi 1, vu 1, vi 0, vi 1, vu 2, vi 0, vi 1, vu 3, vi 0, vi 2, vu 0, vi 0, vi 2, vu 1, vi 0, vi 2, vu 2, vi 0, vi 2, vu 3, vi 0, vi 3, vu 0, vi 0, vi 3, vu 1, vi 0, vi 3, vu 2, vi 0, vi 3, vu 3]
def rw_1_4 : List RowE := [⟨19, [va [vi 1, vi 4]], un_1_4, 43, false, 19, 19, [vi 0]⟩, ⟨20, [va [vi 1, vi 4]], un_1_4, 43, true, 19, BIG, []⟩, ⟨25, [va [vi 1, vi 4]], po_1_4, 55, false, 4, 4, [vi 0]⟩, ⟨9, [va [vi 1, vi 4]], ce_1_4, 25, false, 16, 16, [vi 0]⟩, ⟨10, [va [vi 1, vi 4]], ce_1_4, 25, true, 16, BIG, []⟩]
theorem rr_1_4 (t : Nat → TypeId) : allL (rowOk Tryd.prog (QL t) (tabG t)) rw_1_4 = true := by kernel_rfl
def un_1_5 : List Value := [vi 0, vu 1, vi 0, vu 2, vi 1, vu 2, vi 2, vu 0, vi 2, vu 1, vi 4, vu 1, vi 4, vu 2, vi 5, vu 2, vi 6, vu 0, vi 6, vu 1, vi 8, vu 1, vi 8, vu 2, vi 9, vu 2, vi 10, vu 0, vi 10, vu 1, vi 12, vu 1, vi 12, vu 2, vi 13, vu 2, vi 14, vu 0, vi 14, vu 1, vi 16, vu 1, vi 16, vu 2, vi 17, vu 2, vi 18, vu 1]
def po_1_5 : List Value := [vi 1, vi 1, vi 1, vi 3, vi 1, vi 5, vi 1, vi 7, vi 1, vi 9]
def ce_1_5 : List Value := [vi 0, vi 0, vu 0, vi 0, vi 0, vu 1, vi 0, vi 0, vu 2, vi 0, vi 0, vu 3, vi 0, vi 1, vu 0, vi 0, vi 1, vu 1, vi 0, vi 1, vu 2, vi 0, vi 1, vu 3, vi 0, vi 2, vu 0, vi 0, vi 2, vu 1, vi 0, vi 2, vu 2, vi 0, vi 2, vu 3, vi 0, vi 3, vu 0, vi 0, vi 3, vu 1, vi 0, vi 3, vu 2, vi 0, vi 3, vu 3, vi 0, vi 4, vu 0, vi 0, vi 4, vu 1, vi 0, vi 4, vu 2, vi 0, vi 4, vu 3]
def rw_1_5 : List RowE := [⟨19, [va [vi 1, vi 5]], un_1_5, 43, false, 24, 24, [vi 0]⟩, ⟨20, [va [vi 1, vi 5]], un_1_5, 43, true, 24, BIG, []⟩, ⟨25, [va [vi 1, vi 5]], po_1_5, 55, false, 5, 5, [vi 0]⟩, ⟨9, [va [vi 1, vi 5]], ce_1_5, 25, false, 20, 20, [vi 0]⟩, ⟨10, [va [vi 1, vi 5]], ce_1_5, 25, true, 20, BIG, []⟩]
theorem rr_1_5 (t : Nat → TypeId) : allL (rowOk Tryd.prog (QL t) (tabG t)) rw_1_5 = true := by kernel_rfl
def un_2_1 : List Value := [vi 0, vu 1, vi 0, vu 2, vi 1, vu 0, vi 1, vu 2, vi 2, vu 1, vi 4, vu 1, vi 4, vu 2, vi 5, vu 2, vi 6, vu 1]
def po_2_1 : List Value := [vi 1, vi 1, vi 3, vi 1]
def ce_2_1 : List Value := [vi 0, vi 0, vu 0, vi 0, vi 0, vu 1, vi 0, vi 0, vu 2, vi 0, vi 0, vu 3, vi 1, vi 0, vu 0, vi 1, vi 0, vu 1, vi 1, vi 0, vu 2, vi 1, vi 0, vu 3]
def rw_2_1 : List RowE := [⟨19, [va [vi 2, vi 1]], un_2_1, 43, false, 9, 9, [vi 0]⟩, ⟨20, [va [vi 2, vi 1]], un_2_1, 43, true, 9, BIG, []⟩, ⟨25, [va [vi 2, vi 1]], po_2_1, 55, false, 2, 2, [vi 0]⟩, ⟨9, [va [vi 2, vi 1]], ce_2_1, 25, false, 8, 8, [vi 0]⟩, ⟨10, [va [vi 2, vi 1]], ce_2_1, 25, true, 8, BIG, []⟩]
theorem rr_2_1 (t : Nat → TypeId) : allL (rowOk Tryd.prog (QL t) (tabG t)) rw_2_1 = true := by kernel_rfl
def un_2_2 : List Value := [vi 0, vu 1, vi 0, vu 2, vi 1, vu 0, vi 1, vu 2, vi 2, vu 0, vi 2, vu 1, vi 4, vu 1, vi 4, vu 2, vi 5, vu 2, vi 6, vu 0, vi 6, vu 1, vi 8, vu 1, vi 8, vu 2, vi 9, vu 0, vi 9, vu 2, vi 10, vu 1, vi 12, vu 1, vi 12, vu 2, vi 13, vu 2, vi 14, vu 1]
def po_2_2 : List Value := [vi 1, vi 1, vi 3, vi 1, vi 2, vi 2, vi 1, vi 3, vi 3, vi 3]
def ce_2_2 : List Value := [vi 0, vi 0, vu 0, vi 0, vi 0, vu 1, vi 0, vi 0, vu 2, vi 0, vi 0, vu 3, vi 1, vi 0, vu 0, vi 1, vi 0, vu 1, vi 1, vi 0, vu 2, vi 1, vi 0, vu 3, vi 0, vi 1, vu 0, vi 0, vi 1, vu 1, vi 0, vi 1, vu 2, vi 0, vi 1, vu 3, vi 1, vi 1, vu 0, vi 1, vi 1, vu 1, vi 1, vi 1, vu 2, vi 1, vi 1, vu 3]
def rw_2_2 : List RowE := [⟨19, [va [vi 2, vi 2]], un_2_2, 43, false, 20, 20, [vi 0]⟩, ⟨20, [va [vi 2, vi 2]], un_2_2, 43, true, 20, BIG, []⟩, ⟨25, [va [vi 2, vi 2]], po_2_2, 55, false, 5, 5, [vi 0]⟩, ⟨9, [va [vi 2, vi 2]], ce_2_2, 25, false, 16, 16, [vi 0]⟩, ⟨10, [va [vi 2, vi 2]], ce_2_2, 25, true, 16, BIG, []⟩]
theorem rr_2_2 (t : Nat → TypeId) : allL (rowOk Tryd.prog (QL t) (tabG t)) rw_2_2 = true := by kernel_rfl
def un_2_3 : List Value := [vi 0, vu 1, vi 0, vu 2, vi 1, vu 0, vi 1, vu 2, vi 2, vu 0, vi 2, vu 1, vi 4, vu 1, vi 4, vu 2, vi 5, vu 2, vi 6, vu 0, vi 6, vu 1, vi 8, vu 1, vi 8, vu 2, vi 9, vu 0, vi 9, vu 2, vi 10, vu 0, vi 10, vu 1, vi 12, vu 1, vi 12, vu 2, vi 13, vu 2, vi 14, vu 0, vi 14, vu 1, vi 16, vu 1, vi 16, vu 2, vi 17, vu 0, vi 17, vu 2, vi 18, vu 1, vi 20, vu 1, vi 20, vu 2, vi 21, vu 2, vi 22, vu 1]
def po_2_3 : List Value := [vi 1, vi 1, vi 3, vi 1, vi 2, vi 2, vi 1, vi 3, vi 3, vi 3, vi 2, vi 4, vi 1, vi 5, vi 3, vi 5]
def ce_2_3 : List Value := [vi 0, vi 0, vu 0, vi 0, vi 0, vu 1, vi 0, vi 0, vu 2, vi 0, vi 0, vu 3, vi 1, vi 0, vu 0, vi 1, vi 0, vu 1, vi 1, vi 0, vu 2, vi 1, vi 0, vu 3, vi 0, vi 1, vu 0, vi 0, vi 1, vu 1, vi 0, vi 1, vu 2, vi 0, vi 1, vu 3, vi 1, vi 1, vu 0, vi 1, vi 1, vu 1, vi 1, vi 1, vu 2, vi 1, vi 1, vu 3, vi 0, vi 2, vu 0, vi 0, vi 2, vu 1, vi 0, vi 2, vu 2, vi 0, vi 2, vu 3, vi 1, vi 2, vu 0, vi 1, vi 2, vu 1, vi 1, vi 2, vu 2, vi 1, vi 2, vu 3]
def rw_2_3 : List RowE := [⟨19, [va [vi 2, vi 3]], un_2_3, 43, false, 31, 31, [vi 0]⟩, ⟨20, [va [vi 2, vi 3]], un_2_3, 43, true, 31, BIG, []⟩, ⟨25, [va [vi 2, vi 3]], po_2_3, 55, false, 8, 8, [vi 0]⟩, ⟨9, [va [vi 2, vi 3]], ce_2_3, 25, false, 24, 24, [vi 0]⟩, ⟨10, [va [vi 2, vi 3]], ce_2_3, 25, true, 24, BIG, []⟩]
theorem rr_2_3 (t : Nat → TypeId) : allL (rowOk Tryd.prog (QL t) (tabG t)) rw_2_3 = true := by kernel_rfl
def un_2_4 : List Value := [vi 0, vu 1, vi 0, vu 2, vi 1, vu 0, vi 1, vu 2, vi 2, vu 0, vi 2, vu 1, vi 4, vu 1, vi 4, vu 2, vi 5, vu 2, vi 6, vu 0, vi 6, vu 1, vi 8, vu 1, vi 8, vu 2, vi 9, vu 0, vi 9, vu 2, vi 10, vu 0, vi 10, vu 1, vi 12, vu 1, vi 12, vu 2, vi 13, vu 2, vi 14, vu 0, vi 14, vu 1, vi 16, vu 1, vi 16, vu 2, vi 17, vu 0, vi 17, vu 2, vi 18, vu 0, vi 18, vu 1, vi 20, vu 1, vi 20, vu 2, vi 21, vu 2, vi 22, vu 0, vi 22, vu 1, vi 24, vu 1, vi 24, vu 2, vi 25, vu 0, vi 25, vu 2, vi 26, vu 1, vi 28, vu 1, vi 28, vu 2, vi 29, vu 2, vi 30, vu 1]
def po_2_4 : List Value := [vi 1, vi 1, vi 3, vi 1, vi 2, vi 2, vi 1, vi 3, vi 3, vi 3, vi 2, vi 4, vi 1, vi 5, vi 3, vi 5, vi 2, vi 6, vi 1, vi 7, vi 3, vi 7]
def ce_2_4 : List Value := [vi 0, vi 0, vu 0, vi 0, vi 0, vu 1, vi 0, vi 0, vu 2, vi 0, vi 0, vu 3, vi 1, vi 0, vu 0, vi 1, vi 0, vu 1, vi 1, vi 0, vu 2, vi 1, vi 0, vu 3, vi 0, vi 1, vu 0, vi 0, vi 1, vu 1, vi 0, vi 1, vu 2, vi 0, vi 1, vu 3, vi 1, vi 1, vu 0, vi 1, vi 1, vu 1, vi 1, vi 1, vu 2, vi 1, vi 1, vu 3, vi 0, vi 2, vu 0, vi 0, vi 2, vu 1, vi 0, vi 2, vu 2, vi 0, vi 2, vu 3, vi 1, vi 2, vu 0, vi 1, vi 2, vu 1, vi 1, vi 2, vu 2, vi 1, vi 2, vu 3, vi 0, vi 3, vu 0, vi 0, vi 3, vu 1, vi 0, vi 3, vu 2, vi 0, vi 3, vu 3, vi 1, vi 3, vu 0, vi 1, vi 3, vu 1, vi 1, vi 3, vu 2, vi 1, vi 3, vu 3]
def rw_2_4 : List RowE := [⟨19, [va [vi 2, vi 4]], un_2_4, 43, false, 42, 42, [vi 0]⟩, ⟨20, [va [vi 2, vi 4]], un_2_4, 43, true, 42, BIG, []⟩, ⟨25, [va [vi 2, vi 4]], po_2_4, 55, false, 11, 11, [vi 0]⟩, ⟨9, [va [vi 2, vi 4]], ce_2_4, 25, false, 32, 32, [vi 0]⟩, ⟨10, [va [vi 2, vi 4]], ce_2_4, 25, true, 32, BIG, []⟩]
theorem rr_2_4 (t : Nat → TypeId) : allL (rowOk Tryd.prog (QL t) (tabG t)) rw_2_4 = true := by kernel_rfl
def un_2_5 : List Value := [vi 0, vu 1, vi 0, vu 2, vi 1, vu 0, vi 1, vu 2, vi 2, vu 0, vi 2, vu 1, vi 4, vu 1, vi 4, vu 2, vi 5, vu 2, vi 6, vu 0, vi 6, vu 1, vi 8, vu 1, vi 8, vu 2, vi 9, vu 0, vi 9, vu 2, vi 10, vu 0, vi 10, vu 1, vi 12, vu 1, vi 12, vu 2, vi 13, vu 2, vi 14, vu 0, vi 14, vu 1, vi 16, vu 1, vi 16, vu 2, vi 17, vu 0, vi 17, vu 2, vi 18, vu 0, vi 18, vu 1, vi 20, vu 1, vi 20, vu 2, vi 21, vu 2, vi 22, vu 0, vi 22, vu 1, vi 24, vu 1, vi 24, vu 2, vi 25, vu 0, vi 25, vu 2, vi 26, vu 0, vi 26, vu 1, vi 28, vu 1, vi 28, vu 2, vi 29, vu 2, vi 30, vu 0, vi 30, vu 1, vi 32, vu 1, vi 32, vu 2, vi 33, vu 0, vi 33, vu 2, vi 34, vu 1, vi 36, vu 1, vi 36, vu 2, vi 37, vu 2, vi 38, vu 1]
def po_2_5 : List Value := [vi 1, vi 1, vi 3, vi 1, vi 2, vi 2, vi 1, vi 3, vi 3, vi 3, vi 2, vi 4, vi 1, vi 5, vi 3, vi 5, vi 2, vi 6, vi 1, vi 7, vi 3, vi 7, vi 2, vi 8, vi 1, vi 9, vi 3, vi 9]
def ce_2_5 : List Value := [vi 0, vi 0, vu 0, vi 0, vi 0, vu 1, vi 0, vi 0, vu 2, vi 0, vi 0, vu 3, vi 1, vi 0, vu 0, vi 1, vi 0, vu 1, vi 1, vi 0, vu 2, vi 1, vi 0, vu 3, vi 0, vi 1, vu 0, vi 0, vi 1, vu 1, vi 0, vi 1, vu 2, vi 0, vi 1, vu 3, vi 1, vi 1, vu 0, vi 1, vi 1, vu 1, vi 1, vi 1, vu 2, vi 1, vi 1, vu 3, vi 0, vi 2, vu 0, vi 0, vi 2, vu 1, vi 0, vi 2, vu 2, vi 0, vi 2, vu 3, vi 1, vi 2, vu 0, vi 1, vi 2, vu 1, vi 1, vi 2, vu 2, vi 1, vi 2, vu 3, vi 0, vi 3, vu 0, vi 0, vi 3, vu 1, vi 0, vi 3, vu 2, vi 0, vi 3, vu 3, vi 1, vi 3, vu 0, vi 1, vi 3, vu 1, vi 1, vi 3, vu 2, vi 1, vi 3, vu 3, vi 0, vi 4, vu 0, vi 0, vi 4, vu 1, vi 0, vi 4, vu 2, vi 0, vi 4, vu 3, vi 1, vi 4, vu 0, vi 1, vi 4, vu 1, vi 1, vi 4, vu 2, vi 1, vi 4, vu 3]
def rw_2_5 : List RowE := [⟨19, [va [vi 2, vi 5]], un_2_5, 43, false, 53, 53, [vi 0]⟩, ⟨20, [va [vi 2, vi 5]], un_2_5, 43, true, 53, BIG, []⟩, ⟨25, [va [vi 2, vi 5]], po_2_5, 55, false, 14, 14, [vi 0]⟩, ⟨9, [va [vi 2, vi 5]], ce_2_5, 25, false, 40, 40, [vi 0]⟩, ⟨10, [va [vi 2, vi 5]], ce_2_5, 25, true, 40, BIG, []⟩]
theorem rr_2_5 (t : Nat → TypeId) : allL (rowOk Tryd.prog (QL t) (tabG t)) rw_2_5 = true := by kernel_rfl
def un_3_1 : List Value := [vi 0, vu 1, vi 0, vu 2, vi 1, vu 0, vi 1, vu 2, vi 2, vu 1, vi 4, vu 1, vi 4, vu 2, vi 5, vu 0, vi 5, vu 2, vi 6, vu 1, vi 8, vu 1, vi 8, vu 2, vi 9, vu 2, vi 10, vu 1]
def po_3_1 : List Value := [vi 1, vi 1, vi 3, vi 1, vi 5, vi 1]
def ce_3_1 : List Value := [vi 0, vi 0, vu 0, vi 0, vi 0, vu 1, vi 0, vi 0, vu 2, vi 0, vi 0, vu 3, vi 1, vi 0, vu 0, vi 1, vi 0, vu 1, vi 1, vi 0, vu 2, vi 1, vi 0, vu 3, vi 2, vi 0, vu 0, vi 2, vi 0, vu 1, vi 2, vi 0, vu 2, vi 2, vi 0, vu 3]
def rw_3_1 : List RowE := [⟨19, [va [vi 3, vi 1]], un_3_1, 43, false, 14, 14, [vi 0]⟩, ⟨20, [va [vi 3, vi 1]], un_3_1, 43, true, 14, BIG, []⟩, ⟨25, [va [vi 3, vi 1]], po_3_1, 55, false, 3, 3, [vi 0]⟩, ⟨9, [va [vi 3, vi 1]], ce_3_1, 25, false, 12, 12, [vi 0]⟩, ⟨10, [va [vi 3, vi 1]], ce_3_1, 25, true, 12, BIG, []⟩]
theorem rr_3_1 (t : Nat → TypeId) : allL (rowOk Tryd.prog (QL t) (tabG t)) rw_3_1 = true := by kernel_rfl
def un_3_2 : List Value := [vi 0, vu 1, vi 0, vu 2, vi 1, vu 0, vi 1, vu 2, vi 2, vu 0, vi 2, vu 1, vi 4, vu 1, vi 4, vu 2, vi 5, vu 0, vi 5, vu 2, vi 6, vu 0, vi 6, vu 1, vi 8, vu 1, vi 8, vu 2, vi 9, vu 2, vi 10, vu 0, vi 10, vu 1, vi 12, vu 1, vi 12, vu 2, vi 13, vu 0, vi 13, vu 2, vi 14, vu 1, vi 16, vu 1, vi 16, vu 2, vi 17, vu 0, vi 17, vu 2, vi 18, vu 1, vi 20, vu 1, vi 20, vu 2, vi 21, vu 2, vi 22, vu 1]
def po_3_2 : List Value := [vi 1, vi 1, vi 3, vi 1, vi 5, vi 1, vi 2, vi 2, vi 4, vi 2, vi 1, vi 3, vi 3, vi 3, vi 5, vi 3]
def ce_3_2 : List Value := [vi 0, vi 0, vu 0, vi 0, vi 0, vu 1, vi 0, vi 0, vu 2, vi 0, vi 0, vu 3, vi 1, vi 0, vu 0, vi 1, vi 0, vu 1, vi 1, vi 0, vu 2, vi 1, vi 0, vu 3, vi 2, vi 0, vu 0, vi 2, vi 0, vu 1, vi 2, vi 0, vu 2, vi 2, vi 0, vu 3, vi 0, vi 1, vu 0, vi 0, vi 1, vu 1, vi 0, vi 1, vu 2, vi 0, vi 1, vu 3, vi 1, vi 1, vu 0, vi 1, vi 1, vu 1, vi 1, vi 1, vu 2, vi 1, vi 1, vu 3, vi 2, vi 1, vu 0, vi 2, vi 1, vu 1, vi 2, vi 1, vu 2, vi 2, vi 1, vu 3]
def rw_3_2 : List RowE := [⟨19, [va [vi 3, vi 2]], un_3_2, 43, false, 31, 31, [vi 0]⟩, ⟨20, [va [vi 3, vi 2]], un_3_2, 43, true, 31, BIG, []⟩, ⟨25, [va [vi 3, vi 2]], po_3_2, 55, false, 8, 8, [vi 0]⟩, ⟨9, [va [vi 3, vi 2]], ce_3_2, 25, false, 24, 24, [vi 0]⟩, ⟨10, [va [vi 3, vi 2]], ce_3_2, 25, true, 24, BIG, []⟩]
theorem rr_3_2 (t : Nat → TypeId) : allL (rowOk Tryd.prog (QL t) (tabG t)) rw_3_2 = true := by kernel_rfl

end Go.Proofs.YtaacmbmnlhoghaaDoor
