/-
  Says: the closed statement answers true.
-/
import Derived.Test.YtdnekeegpenioaaDoorKl
import Derived.Test.YtdnekeegpenioaaDoorKa0
import Derived.Test.YtdnekeegpenioaaDoorKa1
import Derived.Test.YtdnekeegpenioaaDoorKa2
import Derived.Test.YtdnekeegpenioaaDoorKa3
import Derived.Test.YtdnekeegpenioaaDoorKa4
import Derived.Test.YtdnekeegpenioaaDoorKa5
import Derived.Test.YtdnekeegpenioaaDoorKa6
import Derived.Test.YtdnekeegpenioaaDoorKa7
import Derived.Test.YtdnekeegpenioaaDoorKa8
import Derived.Test.YtdnekeegpenioaaDoorKa9
import Derived.Test.YtdnekeegpenioaaDoorKa10
import Derived.Test.YtdnekeegpenioaaDoorKa11
import Derived.Test.YtdnekeegpenioaaDoorKa12
import Derived.KernelRfl
set_option maxRecDepth 1000000
set_option linter.unusedVariables false
set_option linter.unusedSimpArgs false
namespace Go.Proofs.YtdnekeegpenioaaDoor
open Go Go.Vx

open Go.RowKit
attribute [local instance] anySyms anyKeeps
theorem mE (t : Nat → TypeId) {Q : Orc} {l : List Ent} (hQ : OrcOk Tryd.prog (tabG t) Q) (h : allL (entOk Tryd.prog Q (tabG t)) l = true) : Ents Tryd.prog (tabG t) l := ents_of (tabs_G t) (size_V t) (floor_V t) hQ h
theorem mD (t : Nat → TypeId) {Q : Orc} {l : List DeepE} (hQ : OrcOk Tryd.prog (tabG t) Q) (h : allL (deepOk Tryd.prog Q (tabG t)) l = true) : DeepsOk Tryd.prog (tabG t) l := deeps_of (tabs_G t) hQ h
theorem mQ (t : Nat → TypeId) {m : Nat} {l : List Ent} {L : List DeepE} (h : Ents Tryd.prog (tabG t) l) (hl : DeepsOk Tryd.prog (tabG t) L) : OrcOk Tryd.prog (tabG t) (deepOrc Tryd.prog (tabG t) (orcL l) m L noCuts) := deepOrc_ok (tabs_G t) (base_G t) (orcL_ok (tabs_G t) h) hl noCuts_ok
theorem mC (t : Nat → TypeId) {m : Nat} {l : List Ent} {L : List DeepE} {C : List CutE} (h : Ents Tryd.prog (tabG t) l) (hl : DeepsOk Tryd.prog (tabG t) L) (hc : CutsL Tryd.prog (tabG t) C) : OrcOk Tryd.prog (tabG t) (deepOrc Tryd.prog (tabG t) (orcL l) m L (cutsL Tryd.prog (tabG t) C)) := deepOrc_ok (tabs_G t) (base_G t) (orcL_ok (tabs_G t) h) hl (cutsL_ok (tabs_G t) hc)
theorem mV (t : Nat → TypeId) {l : List Ent} (h : Ents Tryd.prog (tabG t) l) : OrcOk Tryd.prog (tabG t) (valOrc (fun _ => false) (tabG t) (orcL l)) := valOrc_ok (base_G t) (orcL_ok (tabs_G t) h)
theorem mN (t : Nat → TypeId) : OrcOk Tryd.prog (tabG t) (noOrc (tabG t)) := nothing_known (base_G t)
theorem e0_ok (t : Nat → TypeId) : Ents Tryd.prog (tabG t) e0 := mE t (mN t) (e0_run t)
theorem e1_ok (t : Nat → TypeId) : Ents Tryd.prog (tabG t) e1 := mE t (mN t) (e1_run t)
theorem e2_ok (t : Nat → TypeId) : Ents Tryd.prog (tabG t) e2 := mE t (mN t) (e2_run t)
theorem d3_ok (t : Nat → TypeId) : DeepsOk Tryd.prog (tabG t) d3 := mD t (mN t) (d3_run t)
theorem e4_ok (t : Nat → TypeId) : Ents Tryd.prog (tabG t) e4 := mE t (mV t (Ents.app (e0_ok t) (e1_ok t))) (e4_run t)
theorem e5_ok (t : Nat → TypeId) : Ents Tryd.prog (tabG t) e5 := mE t (mV t (Ents.app (e0_ok t) (e1_ok t))) (e5_run t)
theorem e6_ok (t : Nat → TypeId) : Ents Tryd.prog (tabG t) e6 := mE t (mV t (e0_ok t)) (e6_run t)
theorem e7_ok (t : Nat → TypeId) : Ents Tryd.prog (tabG t) e7 := mE t (mV t (e0_ok t)) (e7_run t)
theorem e8_ok (t : Nat → TypeId) : Ents Tryd.prog (tabG t) e8 := mE t (mV t (e0_ok t)) (e8_run t)
theorem d9_ok (t : Nat → TypeId) : DeepsOk Tryd.prog (tabG t) d9 := mD t (mV t (e0_ok t)) (d9_run t)
theorem e10_ok (t : Nat → TypeId) : Ents Tryd.prog (tabG t) e10 := mE t (mV t (Ents.app (Ents.app (Ents.app (Ents.app (Ents.app (Ents.app (Ents.app (e0_ok t) (e1_ok t)) (e2_ok t)) (e4_ok t)) (e5_ok t)) (e6_ok t)) (e7_ok t)) (e8_ok t))) (e10_run t)
theorem e11_ok (t : Nat → TypeId) : Ents Tryd.prog (tabG t) e11 := mE t (mV t (Ents.app (Ents.app (Ents.app (Ents.app (e0_ok t) (e1_ok t)) (e2_ok t)) (e7_ok t)) (e8_ok t))) (e11_run t)
theorem e12_ok (t : Nat → TypeId) : Ents Tryd.prog (tabG t) e12 := mE t (mV t (Ents.app (Ents.app (Ents.app (Ents.app (e0_ok t) (e1_ok t)) (e2_ok t)) (e7_ok t)) (e8_ok t))) (e12_run t)
theorem e13_ok (t : Nat → TypeId) : Ents Tryd.prog (tabG t) e13 := mE t (mV t (Ents.app (Ents.app (Ents.app (Ents.app (e0_ok t) (e1_ok t)) (e2_ok t)) (e7_ok t)) (e8_ok t))) (e13_run t)
theorem e14_ok (t : Nat → TypeId) : Ents Tryd.prog (tabG t) e14 := mE t (mV t (Ents.app (Ents.app (Ents.app (Ents.app (e0_ok t) (e1_ok t)) (e2_ok t)) (e7_ok t)) (e8_ok t))) (e14_run t)
theorem e15_ok (t : Nat → TypeId) : Ents Tryd.prog (tabG t) e15 := mE t (mV t (Ents.app (Ents.app (Ents.app (Ents.app (e10_ok t) (e11_ok t)) (e12_ok t)) (e13_ok t)) (e14_ok t))) (e15_run t)
theorem e16_ok (t : Nat → TypeId) : Ents Tryd.prog (tabG t) e16 := mE t (mV t (Ents.app (Ents.app (Ents.app (Ents.app (e10_ok t) (e11_ok t)) (e12_ok t)) (e13_ok t)) (e14_ok t))) (e16_run t)
theorem e17_ok (t : Nat → TypeId) : Ents Tryd.prog (tabG t) e17 := mE t (mV t (Ents.app (Ents.app (Ents.app (e7_ok t) (e10_ok t)) (e12_ok t)) (e14_ok t))) (e17_run t)
theorem d18_ok (t : Nat → TypeId) : DeepsOk Tryd.prog (tabG t) d18 := mD t (mQ t (Ents.app (Ents.app (Ents.app (Ents.app (Ents.app (Ents.app (Ents.app (Ents.app (e0_ok t) (e4_ok t)) (e5_ok t)) (e6_ok t)) (e7_ok t)) (e10_ok t)) (e11_ok t)) (e12_ok t)) (e14_ok t)) (d3_ok t)) (d18_run t)
theorem d19_ok (t : Nat → TypeId) : DeepsOk Tryd.prog (tabG t) d19 := mD t (mV t (Ents.app (Ents.app (Ents.app (Ents.app (Ents.app (Ents.app (Ents.app (e4_ok t) (e5_ok t)) (e6_ok t)) (e7_ok t)) (e10_ok t)) (e11_ok t)) (e12_ok t)) (e13_ok t))) (d19_run t)
theorem d20_ok (t : Nat → TypeId) : DeepsOk Tryd.prog (tabG t) d20 := mD t (mV t (Ents.app (Ents.app (Ents.app (Ents.app (Ents.app (Ents.app (Ents.app (Ents.app (e4_ok t) (e5_ok t)) (e6_ok t)) (e7_ok t)) (e10_ok t)) (e11_ok t)) (e12_ok t)) (e13_ok t)) (e14_ok t))) (d20_run t)
theorem d21_ok (t : Nat → TypeId) : DeepsOk Tryd.prog (tabG t) d21 := mD t (mV t (Ents.app (Ents.app (Ents.app (Ents.app (Ents.app (Ents.app (e4_ok t) (e5_ok t)) (e6_ok t)) (e7_ok t)) (e10_ok t)) (e11_ok t)) (e12_ok t))) (d21_run t)
theorem d22_ok (t : Nat → TypeId) : DeepsOk Tryd.prog (tabG t) d22 := mD t (mV t (Ents.app (Ents.app (Ents.app (Ents.app (Ents.app (Ents.app (e4_ok t) (e5_ok t)) (e6_ok t)) (e7_ok t)) (e10_ok t)) (e11_ok t)) (e12_ok t))) (d22_run t)
theorem d23_ok (t : Nat → TypeId) : DeepsOk Tryd.prog (tabG t) d23 := mD t (mV t (Ents.app (Ents.app (Ents.app (Ents.app (Ents.app (Ents.app (Ents.app (e4_ok t) (e5_ok t)) (e6_ok t)) (e7_ok t)) (e10_ok t)) (e11_ok t)) (e12_ok t)) (e13_ok t))) (d23_run t)
theorem d24_ok (t : Nat → TypeId) : DeepsOk Tryd.prog (tabG t) d24 := mD t (mV t (Ents.app (Ents.app (Ents.app (Ents.app (Ents.app (Ents.app (e4_ok t) (e5_ok t)) (e6_ok t)) (e7_ok t)) (e10_ok t)) (e11_ok t)) (e12_ok t))) (d24_run t)
theorem d25_ok (t : Nat → TypeId) : DeepsOk Tryd.prog (tabG t) d25 := mD t (mV t (Ents.app (Ents.app (Ents.app (Ents.app (Ents.app (Ents.app (e4_ok t) (e5_ok t)) (e6_ok t)) (e7_ok t)) (e10_ok t)) (e11_ok t)) (e12_ok t))) (d25_run t)
theorem d26_ok (t : Nat → TypeId) : DeepsOk Tryd.prog (tabG t) d26 := mD t (mV t (Ents.app (Ents.app (Ents.app (Ents.app (Ents.app (Ents.app (Ents.app (Ents.app (e4_ok t) (e5_ok t)) (e6_ok t)) (e7_ok t)) (e10_ok t)) (e11_ok t)) (e12_ok t)) (e13_ok t)) (e14_ok t))) (d26_run t)
theorem d27_ok (t : Nat → TypeId) : DeepsOk Tryd.prog (tabG t) d27 := mD t (mV t (Ents.app (Ents.app (Ents.app (Ents.app (Ents.app (Ents.app (Ents.app (e4_ok t) (e5_ok t)) (e6_ok t)) (e7_ok t)) (e10_ok t)) (e11_ok t)) (e12_ok t)) (e13_ok t))) (d27_run t)
theorem d28_ok (t : Nat → TypeId) : DeepsOk Tryd.prog (tabG t) d28 := mD t (mV t (Ents.app (Ents.app (Ents.app (Ents.app (Ents.app (Ents.app (Ents.app (e4_ok t) (e5_ok t)) (e6_ok t)) (e7_ok t)) (e10_ok t)) (e11_ok t)) (e12_ok t)) (e13_ok t))) (d28_run t)
theorem d29_ok (t : Nat → TypeId) : DeepsOk Tryd.prog (tabG t) d29 := mD t (mV t (Ents.app (Ents.app (Ents.app (Ents.app (Ents.app (Ents.app (Ents.app (e4_ok t) (e5_ok t)) (e6_ok t)) (e7_ok t)) (e10_ok t)) (e11_ok t)) (e12_ok t)) (e13_ok t))) (d29_run t)
theorem d30_ok (t : Nat → TypeId) : DeepsOk Tryd.prog (tabG t) d30 := mD t (mV t (Ents.app (Ents.app (Ents.app (Ents.app (Ents.app (Ents.app (Ents.app (Ents.app (e4_ok t) (e5_ok t)) (e6_ok t)) (e7_ok t)) (e10_ok t)) (e11_ok t)) (e12_ok t)) (e13_ok t)) (e14_ok t))) (d30_run t)
theorem e31_ok (t : Nat → TypeId) : Ents Tryd.prog (tabG t) e31 := mE t (mV t (Ents.app (Ents.app (e4_ok t) (e7_ok t)) (e17_ok t))) (e31_run t)
theorem d32_ok (t : Nat → TypeId) : DeepsOk Tryd.prog (tabG t) d32 := mD t (mQ t (Ents.app (Ents.app (Ents.app (Ents.app (Ents.app (Ents.app (Ents.app (Ents.app (e4_ok t) (e5_ok t)) (e6_ok t)) (e7_ok t)) (e10_ok t)) (e11_ok t)) (e14_ok t)) (e15_ok t)) (e17_ok t)) (DeepsOk.app (d9_ok t) (d18_ok t))) (d32_run t)
theorem d33_ok (t : Nat → TypeId) : DeepsOk Tryd.prog (tabG t) d33 := mD t (mV t (Ents.app (Ents.app (Ents.app (Ents.app (Ents.app (Ents.app (Ents.app (Ents.app (e4_ok t) (e5_ok t)) (e6_ok t)) (e7_ok t)) (e10_ok t)) (e11_ok t)) (e12_ok t)) (e13_ok t)) (e15_ok t))) (d33_run t)
theorem d34_ok (t : Nat → TypeId) : DeepsOk Tryd.prog (tabG t) d34 := mD t (mV t (Ents.app (Ents.app (Ents.app (Ents.app (Ents.app (Ents.app (Ents.app (Ents.app (Ents.app (e4_ok t) (e5_ok t)) (e6_ok t)) (e7_ok t)) (e10_ok t)) (e11_ok t)) (e12_ok t)) (e13_ok t)) (e14_ok t)) (e15_ok t))) (d34_run t)
theorem d35_ok (t : Nat → TypeId) : DeepsOk Tryd.prog (tabG t) d35 := mD t (mV t (Ents.app (Ents.app (Ents.app (Ents.app (Ents.app (Ents.app (Ents.app (Ents.app (Ents.app (Ents.app (e4_ok t) (e5_ok t)) (e6_ok t)) (e7_ok t)) (e10_ok t)) (e11_ok t)) (e12_ok t)) (e13_ok t)) (e14_ok t)) (e15_ok t)) (e16_ok t))) (d35_run t)
theorem d36_ok (t : Nat → TypeId) : DeepsOk Tryd.prog (tabG t) d36 := mD t (mV t (Ents.app (Ents.app (Ents.app (Ents.app (Ents.app (Ents.app (Ents.app (Ents.app (Ents.app (Ents.app (Ents.app (e4_ok t) (e5_ok t)) (e6_ok t)) (e7_ok t)) (e10_ok t)) (e11_ok t)) (e12_ok t)) (e13_ok t)) (e14_ok t)) (e15_ok t)) (e16_ok t)) (e17_ok t))) (d36_run t)
theorem e37_ok (t : Nat → TypeId) : Ents Tryd.prog (tabG t) e37 := mE t (mV t (e31_ok t)) (e37_run t)
theorem d38_ok (t : Nat → TypeId) : DeepsOk Tryd.prog (tabG t) d38 := mD t (mQ t (Ents.app (e4_ok t) (e31_ok t)) (d18_ok t)) (d38_run t)
theorem e39_ok (t : Nat → TypeId) : Ents Tryd.prog (tabG t) e39 := mE t (mQ t (e37_ok t) (DeepsOk.app (DeepsOk.app (DeepsOk.app (d3_ok t) (d18_ok t)) (d32_ok t)) (d38_ok t))) (e39_run t)


end Go.Proofs.YtdnekeegpenioaaDoor
