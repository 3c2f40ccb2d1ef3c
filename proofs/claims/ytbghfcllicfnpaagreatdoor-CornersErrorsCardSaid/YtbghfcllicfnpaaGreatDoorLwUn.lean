/-
  Says: the closed statement answers true.
-/
import Derived.Test.YtbghfcllicfnpaaGreatDoorKl
import Derived.Test.YtbghfcllicfnpaaGreatDoorKa0
import Derived.Test.YtbghfcllicfnpaaGreatDoorKa1
import Derived.Test.YtbghfcllicfnpaaGreatDoorKa2
import Derived.Test.YtbghfcllicfnpaaGreatDoorKa3
import Derived.Test.YtbghfcllicfnpaaGreatDoorKa4
import Derived.Test.YtbghfcllicfnpaaGreatDoorKa5
import Derived.Test.YtbghfcllicfnpaaGreatDoorKa6
import Derived.Test.YtbghfcllicfnpaaGreatDoorKa7
import Derived.Test.YtbghfcllicfnpaaGreatDoorKa8
import Derived.Test.YtbghfcllicfnpaaGreatDoorKa9
import Derived.Test.YtbghfcllicfnpaaGreatDoorKa10
import Derived.Test.YtbghfcllicfnpaaGreatDoorKa11
import Derived.Test.YtbghfcllicfnpaaGreatDoorKa12
import Derived.Test.YtbghfcllicfnpaaGreatDoorKa13
import Derived.Test.YtbghfcllicfnpaaGreatDoorKa14
import Derived.Test.YtbghfcllicfnpaaGreatDoorKa15
import Derived.Test.YtbghfcllicfnpaaGreatDoorKa16
import Derived.Test.YtbghfcllicfnpaaGreatDoorKa17
import Derived.Test.YtbghfcllicfnpaaGreatDoorKa18
import Derived.Test.YtbghfcllicfnpaaGreatDoorKa19
import Derived.KernelRfl
set_option maxRecDepth 1000000
set_option linter.unusedVariables false
set_option linter.unusedSimpArgs false
namespace Go.Proofs.YtbghfcllicfnpaaGreatDoor
open Go Go.Vx

open Go.RowKit
attribute [local instance] anySyms anyKeeps
theorem mE (t : Nat → TypeId) {Q : Orc} {l : List Ent} (hQ : OrcOk Tryz.prog (tabG t) Q) (h : allL (entOk Tryz.prog Q (tabG t)) l = true) : Ents Tryz.prog (tabG t) l := ents_of (tabs_G t) (size_V t) (floor_V t) hQ h
theorem mD (t : Nat → TypeId) {Q : Orc} {l : List DeepE} (hQ : OrcOk Tryz.prog (tabG t) Q) (h : allL (deepOk Tryz.prog Q (tabG t)) l = true) : DeepsOk Tryz.prog (tabG t) l := deeps_of (tabs_G t) hQ h
theorem mQ (t : Nat → TypeId) {m : Nat} {l : List Ent} {L : List DeepE} (h : Ents Tryz.prog (tabG t) l) (hl : DeepsOk Tryz.prog (tabG t) L) : OrcOk Tryz.prog (tabG t) (deepOrc Tryz.prog (tabG t) (orcL l) m L noCuts) := deepOrc_ok (tabs_G t) (base_G t) (orcL_ok (tabs_G t) h) hl noCuts_ok
theorem mC (t : Nat → TypeId) {m : Nat} {l : List Ent} {L : List DeepE} {C : List CutE} (h : Ents Tryz.prog (tabG t) l) (hl : DeepsOk Tryz.prog (tabG t) L) (hc : CutsL Tryz.prog (tabG t) C) : OrcOk Tryz.prog (tabG t) (deepOrc Tryz.prog (tabG t) (orcL l) m L (cutsL Tryz.prog (tabG t) C)) := deepOrc_ok (tabs_G t) (base_G t) (orcL_ok (tabs_G t) h) hl (cutsL_ok (tabs_G t) hc)
theorem mV (t : Nat → TypeId) {l : List Ent} (h : Ents Tryz.prog (tabG t) l) : OrcOk Tryz.prog (tabG t) (valOrc (fun _ => false) (tabG t) (orcL l)) := valOrc_ok (base_G t) (orcL_ok (tabs_G t) h)
theorem mN (t : Nat → TypeId) : OrcOk Tryz.prog (tabG t) (noOrc (tabG t)) := nothing_known (base_G t)
theorem e0_ok (t : Nat → TypeId) : Ents Tryz.prog (tabG t) e0 := mE t (mN t) (e0_run t)
theorem e1_ok (t : Nat → TypeId) : Ents Tryz.prog (tabG t) e1 := mE t (mN t) (e1_run t)
theorem e2_ok (t : Nat → TypeId) : Ents Tryz.prog (tabG t) e2 := mE t (mN t) (e2_run t)
theorem e3_ok (t : Nat → TypeId) : Ents Tryz.prog (tabG t) e3 := mE t (mN t) (e3_run t)
theorem e4_ok (t : Nat → TypeId) : Ents Tryz.prog (tabG t) e4 := mE t (mN t) (e4_run t)
theorem e5_ok (t : Nat → TypeId) : Ents Tryz.prog (tabG t) e5 := mE t (mN t) (e5_run t)
theorem e6_ok (t : Nat → TypeId) : Ents Tryz.prog (tabG t) e6 := mE t (mN t) (e6_run t)
theorem e7_ok (t : Nat → TypeId) : Ents Tryz.prog (tabG t) e7 := mE t (mN t) (e7_run t)
theorem d8_ok (t : Nat → TypeId) : DeepsOk Tryz.prog (tabG t) d8 := mD t (mN t) (d8_run t)
theorem d9_ok (t : Nat → TypeId) : DeepsOk Tryz.prog (tabG t) d9 := mD t (mN t) (d9_run t)
theorem e10_ok (t : Nat → TypeId) : Ents Tryz.prog (tabG t) e10 := mE t (mQ t (Ents.app (e3_ok t) (e7_ok t)) (d8_ok t)) (e10_run t)
theorem e11_ok (t : Nat → TypeId) : Ents Tryz.prog (tabG t) e11 := mE t (mV t (Ents.app (Ents.app (e2_ok t) (e3_ok t)) (e6_ok t))) (e11_run t)
theorem e12_ok (t : Nat → TypeId) : Ents Tryz.prog (tabG t) e12 := mE t (mV t (Ents.app (Ents.app (e2_ok t) (e3_ok t)) (e6_ok t))) (e12_run t)
theorem e13_ok (t : Nat → TypeId) : Ents Tryz.prog (tabG t) e13 := mE t (mV t (Ents.app (Ents.app (e2_ok t) (e3_ok t)) (e6_ok t))) (e13_run t)
theorem e14_ok (t : Nat → TypeId) : Ents Tryz.prog (tabG t) e14 := mE t (mV t (Ents.app (Ents.app (Ents.app (e2_ok t) (e3_ok t)) (e6_ok t)) (e7_ok t))) (e14_run t)
theorem e15_ok (t : Nat → TypeId) : Ents Tryz.prog (tabG t) e15 := mE t (mV t (Ents.app (Ents.app (Ents.app (e0_ok t) (e2_ok t)) (e3_ok t)) (e4_ok t))) (e15_run t)
theorem d16_ok (t : Nat → TypeId) : DeepsOk Tryz.prog (tabG t) d16 := mD t (mQ t (Ents.app (Ents.app (Ents.app (Ents.app (Ents.app (e0_ok t) (e1_ok t)) (e2_ok t)) (e3_ok t)) (e4_ok t)) (e5_ok t)) (d8_ok t)) (d16_run t)
theorem d17_ok (t : Nat → TypeId) : DeepsOk Tryz.prog (tabG t) d17 := mD t (mQ t (Ents.app (Ents.app (Ents.app (Ents.app (Ents.app (e0_ok t) (e1_ok t)) (e2_ok t)) (e3_ok t)) (e4_ok t)) (e5_ok t)) (d8_ok t)) (d17_run t)
theorem d18_ok (t : Nat → TypeId) : DeepsOk Tryz.prog (tabG t) d18 := mD t (mQ t (Ents.app (Ents.app (Ents.app (Ents.app (Ents.app (e0_ok t) (e1_ok t)) (e2_ok t)) (e3_ok t)) (e4_ok t)) (e5_ok t)) (d8_ok t)) (d18_run t)
theorem d19_ok (t : Nat → TypeId) : DeepsOk Tryz.prog (tabG t) d19 := mD t (mQ t (Ents.app (Ents.app (Ents.app (Ents.app (Ents.app (e0_ok t) (e1_ok t)) (e2_ok t)) (e3_ok t)) (e4_ok t)) (e5_ok t)) (d8_ok t)) (d19_run t)
theorem d20_ok (t : Nat → TypeId) : DeepsOk Tryz.prog (tabG t) d20 := mD t (mQ t (Ents.app (Ents.app (Ents.app (Ents.app (Ents.app (e0_ok t) (e1_ok t)) (e2_ok t)) (e3_ok t)) (e4_ok t)) (e5_ok t)) (d8_ok t)) (d20_run t)
theorem d21_ok (t : Nat → TypeId) : DeepsOk Tryz.prog (tabG t) d21 := mD t (mQ t (Ents.app (Ents.app (Ents.app (Ents.app (Ents.app (e0_ok t) (e1_ok t)) (e2_ok t)) (e3_ok t)) (e4_ok t)) (e5_ok t)) (d8_ok t)) (d21_run t)
theorem d22_ok (t : Nat → TypeId) : DeepsOk Tryz.prog (tabG t) d22 := mD t (mQ t (Ents.app (Ents.app (Ents.app (Ents.app (e1_ok t) (e2_ok t)) (e3_ok t)) (e4_ok t)) (e5_ok t)) (d8_ok t)) (d22_run t)
theorem d23_ok (t : Nat → TypeId) : DeepsOk Tryz.prog (tabG t) d23 := mD t (mQ t (Ents.app (Ents.app (Ents.app (Ents.app (Ents.app (e0_ok t) (e1_ok t)) (e2_ok t)) (e3_ok t)) (e4_ok t)) (e5_ok t)) (d8_ok t)) (d23_run t)
theorem d24_ok (t : Nat → TypeId) : DeepsOk Tryz.prog (tabG t) d24 := mD t (mQ t (Ents.app (Ents.app (Ents.app (Ents.app (Ents.app (e0_ok t) (e1_ok t)) (e2_ok t)) (e3_ok t)) (e4_ok t)) (e5_ok t)) (DeepsOk.app (d8_ok t) (d9_ok t))) (d24_run t)
theorem d25_ok (t : Nat → TypeId) : DeepsOk Tryz.prog (tabG t) d25 := mD t (mQ t Ents.nil (DeepsOk.app (d8_ok t) (d9_ok t))) (d25_run t)
theorem e26_ok (t : Nat → TypeId) : Ents Tryz.prog (tabG t) e26 := mE t (mQ t (Ents.app (Ents.app (e11_ok t) (e12_ok t)) (e13_ok t)) (DeepsOk.app (DeepsOk.app (DeepsOk.app (d8_ok t) (d16_ok t)) (d24_ok t)) (d25_ok t))) (e26_run t)
theorem e27_ok (t : Nat → TypeId) : Ents Tryz.prog (tabG t) e27 := mE t (mQ t (Ents.app (Ents.app (Ents.app (Ents.app (Ents.app (e2_ok t) (e3_ok t)) (e6_ok t)) (e7_ok t)) (e14_ok t)) (e15_ok t)) (d16_ok t)) (e27_run t)
theorem e28_ok (t : Nat → TypeId) : Ents Tryz.prog (tabG t) e28 := mE t (mV t (Ents.app (Ents.app (Ents.app (Ents.app (Ents.app (e2_ok t) (e3_ok t)) (e6_ok t)) (e7_ok t)) (e14_ok t)) (e15_ok t))) (e28_run t)
theorem e29_ok (t : Nat → TypeId) : Ents Tryz.prog (tabG t) e29 := mE t (mV t (Ents.app (Ents.app (Ents.app (Ents.app (Ents.app (e2_ok t) (e3_ok t)) (e6_ok t)) (e7_ok t)) (e14_ok t)) (e15_ok t))) (e29_run t)
theorem e30_ok (t : Nat → TypeId) : Ents Tryz.prog (tabG t) e30 := mE t (mV t (Ents.app (Ents.app (Ents.app (Ents.app (Ents.app (e2_ok t) (e3_ok t)) (e6_ok t)) (e7_ok t)) (e14_ok t)) (e15_ok t))) (e30_run t)
theorem e31_ok (t : Nat → TypeId) : Ents Tryz.prog (tabG t) e31 := mE t (mV t (Ents.app (Ents.app (Ents.app (Ents.app (Ents.app (Ents.app (e0_ok t) (e2_ok t)) (e3_ok t)) (e7_ok t)) (e10_ok t)) (e14_ok t)) (e15_ok t))) (e31_run t)
theorem d32_ok (t : Nat → TypeId) : DeepsOk Tryz.prog (tabG t) d32 := mD t (mQ t (Ents.app (Ents.app (Ents.app (Ents.app (Ents.app (Ents.app (Ents.app (Ents.app (Ents.app (e0_ok t) (e1_ok t)) (e2_ok t)) (e3_ok t)) (e4_ok t)) (e5_ok t)) (e7_ok t)) (e10_ok t)) (e11_ok t)) (e14_ok t)) (DeepsOk.app (d8_ok t) (d16_ok t))) (d32_run t)
theorem d33_ok (t : Nat → TypeId) : DeepsOk Tryz.prog (tabG t) d33 := mD t (mQ t (Ents.app (Ents.app (Ents.app (Ents.app (Ents.app (Ents.app (Ents.app (Ents.app (e0_ok t) (e1_ok t)) (e3_ok t)) (e4_ok t)) (e5_ok t)) (e7_ok t)) (e10_ok t)) (e11_ok t)) (e14_ok t)) (DeepsOk.app (d8_ok t) (d16_ok t))) (d33_run t)
theorem d34_ok (t : Nat → TypeId) : DeepsOk Tryz.prog (tabG t) d34 := mD t (mQ t (Ents.app (Ents.app (Ents.app (Ents.app (Ents.app (Ents.app (Ents.app (Ents.app (Ents.app (e0_ok t) (e1_ok t)) (e2_ok t)) (e3_ok t)) (e4_ok t)) (e5_ok t)) (e7_ok t)) (e10_ok t)) (e11_ok t)) (e14_ok t)) (DeepsOk.app (d8_ok t) (d16_ok t))) (d34_run t)
theorem d35_ok (t : Nat → TypeId) : DeepsOk Tryz.prog (tabG t) d35 := mD t (mQ t (Ents.app (Ents.app (Ents.app (Ents.app (Ents.app (Ents.app (Ents.app (Ents.app (Ents.app (e0_ok t) (e1_ok t)) (e2_ok t)) (e3_ok t)) (e4_ok t)) (e5_ok t)) (e7_ok t)) (e10_ok t)) (e11_ok t)) (e14_ok t)) (DeepsOk.app (d8_ok t) (d16_ok t))) (d35_run t)
theorem d36_ok (t : Nat → TypeId) : DeepsOk Tryz.prog (tabG t) d36 := mD t (mQ t (Ents.app (Ents.app (Ents.app (Ents.app (Ents.app (Ents.app (e2_ok t) (e3_ok t)) (e4_ok t)) (e5_ok t)) (e7_ok t)) (e10_ok t)) (e14_ok t)) (DeepsOk.app (d8_ok t) (d16_ok t))) (d36_run t)
theorem d37_ok (t : Nat → TypeId) : DeepsOk Tryz.prog (tabG t) d37 := mD t (mQ t (Ents.app (Ents.app (Ents.app (Ents.app (Ents.app (Ents.app (e3_ok t) (e4_ok t)) (e5_ok t)) (e7_ok t)) (e10_ok t)) (e11_ok t)) (e14_ok t)) (DeepsOk.app (d8_ok t) (d16_ok t))) (d37_run t)
theorem d38_ok (t : Nat → TypeId) : DeepsOk Tryz.prog (tabG t) d38 := mD t (mQ t (Ents.app (Ents.app (Ents.app (Ents.app (e3_ok t) (e4_ok t)) (e5_ok t)) (e10_ok t)) (e11_ok t)) (d16_ok t)) (d38_run t)
theorem d39_ok (t : Nat → TypeId) : DeepsOk Tryz.prog (tabG t) d39 := mD t (mQ t (Ents.app (Ents.app (Ents.app (Ents.app (Ents.app (Ents.app (e0_ok t) (e3_ok t)) (e4_ok t)) (e5_ok t)) (e10_ok t)) (e11_ok t)) (e15_ok t)) (d16_ok t)) (d39_run t)
theorem e40_ok (t : Nat → TypeId) : Ents Tryz.prog (tabG t) e40 := mE t (mV t (Ents.app (Ents.app (Ents.app (e27_ok t) (e28_ok t)) (e29_ok t)) (e30_ok t))) (e40_run t)
theorem e41_ok (t : Nat → TypeId) : Ents Tryz.prog (tabG t) e41 := mE t (mV t (Ents.app (Ents.app (Ents.app (Ents.app (Ents.app (e14_ok t) (e27_ok t)) (e28_ok t)) (e29_ok t)) (e30_ok t)) (e31_ok t))) (e41_run t)
theorem d42_ok (t : Nat → TypeId) : DeepsOk Tryz.prog (tabG t) d42 := mD t (mV t (Ents.app (Ents.app (Ents.app (Ents.app (Ents.app (Ents.app (Ents.app (e3_ok t) (e4_ok t)) (e5_ok t)) (e6_ok t)) (e10_ok t)) (e11_ok t)) (e26_ok t)) (e27_ok t))) (d42_run t)
theorem d43_ok (t : Nat → TypeId) : DeepsOk Tryz.prog (tabG t) d43 := mD t (mV t (Ents.app (Ents.app (Ents.app (Ents.app (Ents.app (Ents.app (Ents.app (Ents.app (Ents.app (e1_ok t) (e2_ok t)) (e3_ok t)) (e4_ok t)) (e5_ok t)) (e6_ok t)) (e10_ok t)) (e11_ok t)) (e26_ok t)) (e27_ok t))) (d43_run t)
theorem d44_ok (t : Nat → TypeId) : DeepsOk Tryz.prog (tabG t) d44 := mD t (mV t (Ents.app (Ents.app (Ents.app (Ents.app (Ents.app (Ents.app (Ents.app (Ents.app (Ents.app (Ents.app (Ents.app (Ents.app (e3_ok t) (e4_ok t)) (e5_ok t)) (e6_ok t)) (e10_ok t)) (e11_ok t)) (e12_ok t)) (e13_ok t)) (e14_ok t)) (e15_ok t)) (e26_ok t)) (e27_ok t)) (e31_ok t))) (d44_run t)
theorem d45_ok (t : Nat → TypeId) : DeepsOk Tryz.prog (tabG t) d45 := mD t (mV t (Ents.app (Ents.app (Ents.app (Ents.app (Ents.app (Ents.app (e11_ok t) (e12_ok t)) (e13_ok t)) (e14_ok t)) (e27_ok t)) (e28_ok t)) (e29_ok t))) (d45_run t)
theorem d46_ok (t : Nat → TypeId) : DeepsOk Tryz.prog (tabG t) d46 := mD t (mV t (Ents.app (Ents.app (Ents.app (Ents.app (Ents.app (Ents.app (e11_ok t) (e12_ok t)) (e13_ok t)) (e14_ok t)) (e27_ok t)) (e28_ok t)) (e29_ok t))) (d46_run t)
theorem d47_ok (t : Nat → TypeId) : DeepsOk Tryz.prog (tabG t) d47 := mD t (mV t (Ents.app (Ents.app (Ents.app (Ents.app (Ents.app (Ents.app (Ents.app (e11_ok t) (e12_ok t)) (e13_ok t)) (e14_ok t)) (e27_ok t)) (e28_ok t)) (e29_ok t)) (e30_ok t))) (d47_run t)
theorem d48_ok (t : Nat → TypeId) : DeepsOk Tryz.prog (tabG t) d48 := mD t (mV t (Ents.app (Ents.app (Ents.app (Ents.app (Ents.app (Ents.app (e11_ok t) (e12_ok t)) (e13_ok t)) (e14_ok t)) (e27_ok t)) (e28_ok t)) (e29_ok t))) (d48_run t)
theorem d49_ok (t : Nat → TypeId) : DeepsOk Tryz.prog (tabG t) d49 := mD t (mV t (Ents.app (Ents.app (Ents.app (Ents.app (Ents.app (e11_ok t) (e12_ok t)) (e13_ok t)) (e14_ok t)) (e27_ok t)) (e28_ok t))) (d49_run t)
theorem d50_ok (t : Nat → TypeId) : DeepsOk Tryz.prog (tabG t) d50 := mD t (mV t (Ents.app (Ents.app (Ents.app (Ents.app (Ents.app (Ents.app (Ents.app (e11_ok t) (e12_ok t)) (e13_ok t)) (e14_ok t)) (e27_ok t)) (e28_ok t)) (e29_ok t)) (e30_ok t))) (d50_run t)
theorem d51_ok (t : Nat → TypeId) : DeepsOk Tryz.prog (tabG t) d51 := mD t (mV t (Ents.app (Ents.app (Ents.app (Ents.app (Ents.app (Ents.app (e11_ok t) (e12_ok t)) (e13_ok t)) (e14_ok t)) (e27_ok t)) (e28_ok t)) (e29_ok t))) (d51_run t)
theorem d52_ok (t : Nat → TypeId) : DeepsOk Tryz.prog (tabG t) d52 := mD t (mV t (Ents.app (Ents.app (Ents.app (Ents.app (Ents.app (e11_ok t) (e12_ok t)) (e13_ok t)) (e14_ok t)) (e27_ok t)) (e28_ok t))) (d52_run t)
theorem d53_ok (t : Nat → TypeId) : DeepsOk Tryz.prog (tabG t) d53 := mD t (mV t (Ents.app (Ents.app (Ents.app (Ents.app (Ents.app (Ents.app (Ents.app (e11_ok t) (e12_ok t)) (e13_ok t)) (e14_ok t)) (e27_ok t)) (e28_ok t)) (e29_ok t)) (e30_ok t))) (d53_run t)
theorem d54_ok (t : Nat → TypeId) : DeepsOk Tryz.prog (tabG t) d54 := mD t (mV t (Ents.app (Ents.app (Ents.app (Ents.app (Ents.app (Ents.app (e11_ok t) (e12_ok t)) (e13_ok t)) (e14_ok t)) (e27_ok t)) (e28_ok t)) (e29_ok t))) (d54_run t)
theorem d55_ok (t : Nat → TypeId) : DeepsOk Tryz.prog (tabG t) d55 := mD t (mV t (Ents.app (Ents.app (Ents.app (Ents.app (Ents.app (Ents.app (Ents.app (e11_ok t) (e12_ok t)) (e13_ok t)) (e14_ok t)) (e27_ok t)) (e28_ok t)) (e29_ok t)) (e30_ok t))) (d55_run t)
theorem d56_ok (t : Nat → TypeId) : DeepsOk Tryz.prog (tabG t) d56 := mD t (mV t (Ents.app (Ents.app (Ents.app (Ents.app (Ents.app (Ents.app (e11_ok t) (e12_ok t)) (e13_ok t)) (e14_ok t)) (e27_ok t)) (e28_ok t)) (e29_ok t))) (d56_run t)
theorem d57_ok (t : Nat → TypeId) : DeepsOk Tryz.prog (tabG t) d57 := mD t (mV t (Ents.app (Ents.app (Ents.app (Ents.app (Ents.app (Ents.app (Ents.app (e11_ok t) (e12_ok t)) (e13_ok t)) (e14_ok t)) (e27_ok t)) (e28_ok t)) (e29_ok t)) (e30_ok t))) (d57_run t)
theorem d58_ok (t : Nat → TypeId) : DeepsOk Tryz.prog (tabG t) d58 := mD t (mV t (Ents.app (Ents.app (Ents.app (e0_ok t) (e4_ok t)) (e10_ok t)) (e31_ok t))) (d58_run t)
theorem d59_ok (t : Nat → TypeId) : DeepsOk Tryz.prog (tabG t) d59 := mD t (mQ t (Ents.app (Ents.app (e10_ok t) (e31_ok t)) (e41_ok t)) (DeepsOk.app (DeepsOk.app (d39_ok t) (d44_ok t)) (d58_ok t))) (d59_run t)
theorem d60_ok (t : Nat → TypeId) : DeepsOk Tryz.prog (tabG t) d60 := mD t (mV t (Ents.app (Ents.app (Ents.app (Ents.app (Ents.app (Ents.app (Ents.app (Ents.app (Ents.app (e11_ok t) (e12_ok t)) (e13_ok t)) (e14_ok t)) (e26_ok t)) (e27_ok t)) (e28_ok t)) (e29_ok t)) (e30_ok t)) (e40_ok t))) (d60_run t)
theorem d61_ok (t : Nat → TypeId) : DeepsOk Tryz.prog (tabG t) d61 := mD t (mV t (Ents.app (Ents.app (Ents.app (Ents.app (Ents.app (Ents.app (Ents.app (Ents.app (Ents.app (e11_ok t) (e12_ok t)) (e13_ok t)) (e14_ok t)) (e26_ok t)) (e27_ok t)) (e28_ok t)) (e29_ok t)) (e30_ok t)) (e40_ok t))) (d61_run t)
theorem d62_ok (t : Nat → TypeId) : DeepsOk Tryz.prog (tabG t) d62 := mD t (mV t (Ents.app (Ents.app (Ents.app (Ents.app (Ents.app (Ents.app (Ents.app (Ents.app (Ents.app (Ents.app (Ents.app (e11_ok t) (e12_ok t)) (e13_ok t)) (e14_ok t)) (e26_ok t)) (e27_ok t)) (e28_ok t)) (e29_ok t)) (e30_ok t)) (e31_ok t)) (e40_ok t)) (e41_ok t))) (d62_run t)
theorem d63_ok (t : Nat → TypeId) : DeepsOk Tryz.prog (tabG t) d63 := mD t (mV t (Ents.app (Ents.app (Ents.app (Ents.app (Ents.app (Ents.app (Ents.app (Ents.app (Ents.app (Ents.app (Ents.app (e11_ok t) (e12_ok t)) (e13_ok t)) (e14_ok t)) (e26_ok t)) (e27_ok t)) (e28_ok t)) (e29_ok t)) (e30_ok t)) (e31_ok t)) (e40_ok t)) (e41_ok t))) (d63_run t)
theorem d64_ok (t : Nat → TypeId) : DeepsOk Tryz.prog (tabG t) d64 := mD t (mQ t (e10_ok t) (DeepsOk.app (d44_ok t) (d59_ok t))) (d64_run t)
theorem e65_ok (t : Nat → TypeId) : Ents Tryz.prog (tabG t) e65 := mE t (mQ t Ents.nil (DeepsOk.app (DeepsOk.app (DeepsOk.app (DeepsOk.app (d8_ok t) (d32_ok t)) (d35_ok t)) (d59_ok t)) (d64_ok t))) (e65_run t)


end Go.Proofs.YtbghfcllicfnpaaGreatDoor
