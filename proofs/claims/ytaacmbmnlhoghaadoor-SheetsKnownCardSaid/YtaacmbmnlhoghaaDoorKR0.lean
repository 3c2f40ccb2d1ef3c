/-
  Says: rows, all of them; what the law asks.
-/
import Derived.Test.YtaacmbmnlhoghaaDoorKR1
import Derived.Test.YtaacmbmnlhoghaaDoorKR2
import Derived.Test.YtaacmbmnlhoghaaDoorKR3
import Derived.Test.YtaacmbmnlhoghaaDoorKC3
import Derived.KernelRfl
set_option maxRecDepth 1000000
set_option linter.unusedVariables false
set_option linter.unusedSimpArgs false
namespace Go.Proofs.YtaacmbmnlhoghaaDoor
open Go Go.Vx
attribute [local instance] anyKeeps
section
attribute [local instance] anySyms
theorem rk_1_1 (t : Nat → TypeId) : RowsOk Tryd.prog (tabG t) rw_1_1 := rowsOk_of (tabs_G t) (size_V t) (floor_V t) (QL_ok t) (rr_1_1 t)
theorem rk_1_2 (t : Nat → TypeId) : RowsOk Tryd.prog (tabG t) rw_1_2 := rowsOk_of (tabs_G t) (size_V t) (floor_V t) (QL_ok t) (rr_1_2 t)
theorem rk_1_3 (t : Nat → TypeId) : RowsOk Tryd.prog (tabG t) rw_1_3 := rowsOk_of (tabs_G t) (size_V t) (floor_V t) (QL_ok t) (rr_1_3 t)
theorem rk_1_4 (t : Nat → TypeId) : RowsOk Tryd.prog (tabG t) rw_1_4 := rowsOk_of (tabs_G t) (size_V t) (floor_V t) (QL_ok t) (rr_1_4 t)
theorem rk_1_5 (t : Nat → TypeId) : RowsOk Tryd.prog (tabG t) rw_1_5 := rowsOk_of (tabs_G t) (size_V t) (floor_V t) (QL_ok t) (rr_1_5 t)
theorem rk_2_1 (t : Nat → TypeId) : RowsOk Tryd.prog (tabG t) rw_2_1 := rowsOk_of (tabs_G t) (size_V t) (floor_V t) (QL_ok t) (rr_2_1 t)
theorem rk_2_2 (t : Nat → TypeId) : RowsOk Tryd.prog (tabG t) rw_2_2 := rowsOk_of (tabs_G t) (size_V t) (floor_V t) (QL_ok t) (rr_2_2 t)
theorem rk_2_3 (t : Nat → TypeId) : RowsOk Tryd.prog (tabG t) rw_2_3 := rowsOk_of (tabs_G t) (size_V t) (floor_V t) (QL_ok t) (rr_2_3 t)
theorem rk_2_4 (t : Nat → TypeId) : RowsOk Tryd.prog (tabG t) rw_2_4 := rowsOk_of (tabs_G t) (size_V t) (floor_V t) (QL_ok t) (rr_2_4 t)
theorem rk_2_5 (t : Nat → TypeId) : RowsOk Tryd.prog (tabG t) rw_2_5 := rowsOk_of (tabs_G t) (size_V t) (floor_V t) (QL_ok t) (rr_2_5 t)
theorem rk_3_1 (t : Nat → TypeId) : RowsOk Tryd.prog (tabG t) rw_3_1 := rowsOk_of (tabs_G t) (size_V t) (floor_V t) (QL_ok t) (rr_3_1 t)
theorem rk_3_2 (t : Nat → TypeId) : RowsOk Tryd.prog (tabG t) rw_3_2 := rowsOk_of (tabs_G t) (size_V t) (floor_V t) (QL_ok t) (rr_3_2 t)
theorem rk_3_3 (t : Nat → TypeId) : RowsOk Tryd.prog (tabG t) rw_3_3 := rowsOk_of (tabs_G t) (size_V t) (floor_V t) (QL_ok t) (rr_3_3 t)
theorem rk_3_4 (t : Nat → TypeId) : RowsOk Tryd.prog (tabG t) rw_3_4 := rowsOk_of (tabs_G t) (size_V t) (floor_V t) (QL_ok t) (rr_3_4 t)
theorem rk_3_5 (t : Nat → TypeId) : RowsOk Tryd.prog (tabG t) rw_3_5 := rowsOk_of (tabs_G t) (size_V t) (floor_V t) (QL_ok t) (rr_3_5 t)
theorem rk_4_1 (t : Nat → TypeId) : RowsOk Tryd.prog (tabG t) rw_4_1 := rowsOk_of (tabs_G t) (size_V t) (floor_V t) (QL_ok t) (rr_4_1 t)
theorem rk_4_2 (t : Nat → TypeId) : RowsOk Tryd.prog (tabG t) rw_4_2 := rowsOk_of (tabs_G t) (size_V t) (floor_V t) (QL_ok t) (rr_4_2 t)
theorem rk_4_3 (t : Nat → TypeId) : RowsOk Tryd.prog (tabG t) rw_4_3 := rowsOk_of (tabs_G t) (size_V t) (floor_V t) (QL_ok t) (rr_4_3 t)
theorem rk_4_4 (t : Nat → TypeId) : RowsOk Tryd.prog (tabG t) rw_4_4 := rowsOk_of (tabs_G t) (size_V t) (floor_V t) (QL_ok t) (rr_4_4 t)
theorem rk_4_5 (t : Nat → TypeId) : RowsOk Tryd.prog (tabG t) rw_4_5 := rowsOk_of (tabs_G t) (size_V t) (floor_V t) (QL_ok t) (rr_4_5 t)
theorem rk_5_1 (t : Nat → TypeId) : RowsOk Tryd.prog (tabG t) rw_5_1 := rowsOk_of (tabs_G t) (size_V t) (floor_V t) (QL_ok t) (rr_5_1 t)
theorem rk_5_2 (t : Nat → TypeId) : RowsOk Tryd.prog (tabG t) rw_5_2 := rowsOk_of (tabs_G t) (size_V t) (floor_V t) (QL_ok t) (rr_5_2 t)
theorem rk_5_3 (t : Nat → TypeId) : RowsOk Tryd.prog (tabG t) rw_5_3 := rowsOk_of (tabs_G t) (size_V t) (floor_V t) (QL_ok t) (rr_5_3 t)
theorem rk_5_4 (t : Nat → TypeId) : RowsOk Tryd.prog (tabG t) rw_5_4 := rowsOk_of (tabs_G t) (size_V t) (floor_V t) (QL_ok t) (rr_5_4 t)
theorem rk_5_5 (t : Nat → TypeId) : RowsOk Tryd.prog (tabG t) rw_5_5 := rowsOk_of (tabs_G t) (size_V t) (floor_V t) (QL_ok t) (rr_5_5 t)
end
noncomputable def AU : FuncId → List Value → Option Value := orAns (fnAns 24 A24) (orAns (fnAns 16 A16) (orAns (fnAns 38 A38) (orAns (fnAns 39 A39) (orAns (fnAns 40 A40) (orAns (fnAns 34 A34) (orAns (fnAns 11 A11) (orAns (fnAns 12 A12) (orAns (fnAns 13 A13) (orAns (fnAns 26 A26) (ansT [(14, [], vt)]))))))))))
theorem AU_ok (t : Nat → TypeId) [Syms] : AnsOk Tryd.prog (tabG t) AU := (a24 t).or ((a16 t).or ((a38 t).or ((a39 t).or ((a40 t).or ((a34 t).or ((a11 t).or ((a12 t).or ((a13 t).or ((a26 t).or (ansT_ok t))))))))))
noncomputable def QU (t : Nat → TypeId) (l : List RowE) : Orc := rowOrc (fun _ => false) (tabG t) AU l
theorem QU_ok (t : Nat → TypeId) {l : List RowE} (h : RowsOk Tryd.prog (tabG t) l) [Syms] : OrcOk Tryd.prog (tabG t) (QU t l) := rowOrc_ok (tabs_G t) (base_G t) (AU_ok t) h

end Go.Proofs.YtaacmbmnlhoghaaDoor
