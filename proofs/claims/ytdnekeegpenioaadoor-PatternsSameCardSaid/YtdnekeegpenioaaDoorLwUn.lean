/-
  Says: the closed statement answers true.
-/
import Derived.Test.YtdnekeegpenioaaDoorKl
import Derived.Test.YtdnekeegpenioaaDoorKa0
import Derived.Test.YtdnekeegpenioaaDoorKa1
import Derived.Test.YtdnekeegpenioaaDoorKa2
import Derived.Test.YtdnekeegpenioaaDoorKa3
import Derived.Test.YtdnekeegpenioaaDoorKa4
import Derived.Test.YtdnekeegpenioaaDoorKa5
import Derived.KernelRfl
set_option maxRecDepth 1000000
set_option linter.unusedVariables false
set_option linter.unusedSimpArgs false
namespace Go.Proofs.YtdnekeegpenioaaDoor
open Go Go.Vx

open Go.RowKit
attribute [local instance] anySyms anyKeeps
theorem mE (t : Nat → TypeId) {Q : Orc} {l : List Ent} (hQ : OrcOk Tryd.prog (tabG t) Q) (h : allL (entOk Tryd.prog Q (tabG t)) l = true) : Ents Tryd.prog (tabG t) l := ents_of (tabs_G t) (size_V t) (floor_V t) hQ h
theorem mD (t : Nat → TypeId) {Q : Orc} {l : List DeepE} (hQ : OrcOk Tryd.prog (tabG t) Q) (h : allL (deepOk Tryd.prog Q (tabG t)) l = true) : DeepsOk Tryd.prog (tabG t) l := deeps_of (tabs_G t) hQ h
theorem mQ (t : Nat → TypeId) {m : Nat} {l : List Ent} {L : List DeepE} (h : Ents Tryd.prog (tabG t) l) (hl : DeepsOk Tryd.prog (tabG t) L) : OrcOk Tryd.prog (tabG t) (deepOrc Tryd.prog (tabG t) (orcL l) m L noCuts) := deepOrc_ok (tabs_G t) (base_G t) (orcL_ok (tabs_G t) h) hl noCuts_ok
theorem mC (t : Nat → TypeId) {m : Nat} {l : List Ent} {L : List DeepE} {C : List CutE} (h : Ents Tryd.prog (tabG t) l) (hl : DeepsOk Tryd.prog (tabG t) L) (hc : CutsL Tryd.prog (tabG t) C) : OrcOk Tryd.prog (tabG t) (deepOrc Tryd.prog (tabG t) (orcL l) m L (cutsL Tryd.prog (tabG t) C)) := deepOrc_ok (tabs_G t) (base_G t) (orcL_ok (tabs_G t) h) hl (cutsL_ok (tabs_G t) hc)
theorem mV (t : Nat → TypeId) {l : List Ent} (h : Ents Tryd.prog (tabG t) l) : OrcOk Tryd.prog (tabG t) (valOrc (fun _ => false) (tabG t) (orcL l)) := valOrc_ok (base_G t) (orcL_ok (tabs_G t) h)
theorem mN (t : Nat → TypeId) : OrcOk Tryd.prog (tabG t) (noOrc (tabG t)) := nothing_known (base_G t)
theorem e0_ok (t : Nat → TypeId) : Ents Tryd.prog (tabG t) e0 := mE t (mN t) (e0_run t)
theorem e1_ok (t : Nat → TypeId) : Ents Tryd.prog (tabG t) e1 := mE t (mN t) (e1_run t)
theorem e2_ok (t : Nat → TypeId) : Ents Tryd.prog (tabG t) e2 := mE t (mV t (e0_ok t)) (e2_run t)
theorem e3_ok (t : Nat → TypeId) : Ents Tryd.prog (tabG t) e3 := mE t (mV t (e0_ok t)) (e3_run t)
theorem e4_ok (t : Nat → TypeId) : Ents Tryd.prog (tabG t) e4 := mE t (mV t (e0_ok t)) (e4_run t)
theorem e5_ok (t : Nat → TypeId) : Ents Tryd.prog (tabG t) e5 := mE t (mV t (e0_ok t)) (e5_run t)
theorem e6_ok (t : Nat → TypeId) : Ents Tryd.prog (tabG t) e6 := mE t (mV t (Ents.app (Ents.app (Ents.app (Ents.app (Ents.app (e0_ok t) (e1_ok t)) (e2_ok t)) (e3_ok t)) (e4_ok t)) (e5_ok t))) (e6_run t)
theorem e7_ok (t : Nat → TypeId) : Ents Tryd.prog (tabG t) e7 := mE t (mV t (Ents.app (Ents.app (Ents.app (e0_ok t) (e1_ok t)) (e4_ok t)) (e5_ok t))) (e7_run t)
theorem e8_ok (t : Nat → TypeId) : Ents Tryd.prog (tabG t) e8 := mE t (mV t (Ents.app (Ents.app (Ents.app (e0_ok t) (e1_ok t)) (e4_ok t)) (e5_ok t))) (e8_run t)
theorem e9_ok (t : Nat → TypeId) : Ents Tryd.prog (tabG t) e9 := mE t (mV t (Ents.app (Ents.app (Ents.app (e0_ok t) (e1_ok t)) (e4_ok t)) (e5_ok t))) (e9_run t)
theorem d10_ok (t : Nat → TypeId) : DeepsOk Tryd.prog (tabG t) d10 := mD t (mV t (e4_ok t)) (d10_run t)
theorem e11_ok (t : Nat → TypeId) : Ents Tryd.prog (tabG t) e11 := mE t (mQ t (Ents.app (Ents.app (Ents.app (Ents.app (Ents.app (e0_ok t) (e2_ok t)) (e4_ok t)) (e6_ok t)) (e7_ok t)) (e8_ok t)) (d10_ok t)) (e11_run t)
theorem e12_ok (t : Nat → TypeId) : Ents Tryd.prog (tabG t) e12 := mE t (mV t (Ents.app (Ents.app (Ents.app (e6_ok t) (e7_ok t)) (e8_ok t)) (e9_ok t))) (e12_run t)
theorem d13_ok (t : Nat → TypeId) : DeepsOk Tryd.prog (tabG t) d13 := mD t (mV t (Ents.app (Ents.app (Ents.app (Ents.app (Ents.app (e2_ok t) (e3_ok t)) (e4_ok t)) (e6_ok t)) (e7_ok t)) (e8_ok t))) (d13_run t)
theorem d14_ok (t : Nat → TypeId) : DeepsOk Tryd.prog (tabG t) d14 := mD t (mV t (Ents.app (Ents.app (Ents.app (Ents.app (Ents.app (e2_ok t) (e3_ok t)) (e4_ok t)) (e6_ok t)) (e7_ok t)) (e8_ok t))) (d14_run t)
theorem d15_ok (t : Nat → TypeId) : DeepsOk Tryd.prog (tabG t) d15 := mD t (mV t (Ents.app (Ents.app (Ents.app (Ents.app (e2_ok t) (e3_ok t)) (e4_ok t)) (e6_ok t)) (e7_ok t))) (d15_run t)
theorem d16_ok (t : Nat → TypeId) : DeepsOk Tryd.prog (tabG t) d16 := mD t (mV t (Ents.app (Ents.app (Ents.app (Ents.app (Ents.app (e2_ok t) (e3_ok t)) (e4_ok t)) (e6_ok t)) (e7_ok t)) (e8_ok t))) (d16_run t)
theorem d17_ok (t : Nat → TypeId) : DeepsOk Tryd.prog (tabG t) d17 := mD t (mV t (Ents.app (Ents.app (Ents.app (Ents.app (e2_ok t) (e3_ok t)) (e4_ok t)) (e6_ok t)) (e7_ok t))) (d17_run t)
theorem d18_ok (t : Nat → TypeId) : DeepsOk Tryd.prog (tabG t) d18 := mD t (mV t (Ents.app (Ents.app (Ents.app (Ents.app (Ents.app (Ents.app (e2_ok t) (e3_ok t)) (e4_ok t)) (e6_ok t)) (e7_ok t)) (e8_ok t)) (e9_ok t))) (d18_run t)
theorem d19_ok (t : Nat → TypeId) : DeepsOk Tryd.prog (tabG t) d19 := mD t (mV t (Ents.app (Ents.app (Ents.app (Ents.app (Ents.app (e2_ok t) (e3_ok t)) (e4_ok t)) (e6_ok t)) (e7_ok t)) (e8_ok t))) (d19_run t)
theorem d20_ok (t : Nat → TypeId) : DeepsOk Tryd.prog (tabG t) d20 := mD t (mV t (Ents.app (Ents.app (Ents.app (Ents.app (e2_ok t) (e3_ok t)) (e4_ok t)) (e6_ok t)) (e11_ok t))) (d20_run t)
theorem d21_ok (t : Nat → TypeId) : DeepsOk Tryd.prog (tabG t) d21 := mD t (mV t (Ents.app (Ents.app (Ents.app (Ents.app (Ents.app (Ents.app (Ents.app (Ents.app (e2_ok t) (e3_ok t)) (e4_ok t)) (e6_ok t)) (e7_ok t)) (e8_ok t)) (e9_ok t)) (e11_ok t)) (e12_ok t))) (d21_run t)
theorem d22_ok (t : Nat → TypeId) : DeepsOk Tryd.prog (tabG t) d22 := mD t (mV t (Ents.app (Ents.app (Ents.app (Ents.app (Ents.app (Ents.app (e2_ok t) (e3_ok t)) (e4_ok t)) (e6_ok t)) (e7_ok t)) (e8_ok t)) (e11_ok t))) (d22_run t)
theorem d23_ok (t : Nat → TypeId) : DeepsOk Tryd.prog (tabG t) d23 := mD t (mV t (Ents.app (Ents.app (Ents.app (Ents.app (Ents.app (Ents.app (Ents.app (e2_ok t) (e3_ok t)) (e4_ok t)) (e6_ok t)) (e7_ok t)) (e8_ok t)) (e9_ok t)) (e11_ok t))) (d23_run t)


end Go.Proofs.YtdnekeegpenioaaDoor
