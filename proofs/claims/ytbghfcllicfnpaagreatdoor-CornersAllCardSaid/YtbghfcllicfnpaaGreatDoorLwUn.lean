/-
  Says: the closed statement answers true.
-/
import Derived.Test.YtbghfcllicfnpaaGreatDoorKl
import Derived.Test.YtbghfcllicfnpaaGreatDoorKa0
import Derived.Test.YtbghfcllicfnpaaGreatDoorKa1
import Derived.Test.YtbghfcllicfnpaaGreatDoorKa2
import Derived.Test.YtbghfcllicfnpaaGreatDoorKa3
import Derived.Test.YtbghfcllicfnpaaGreatDoorKa4
import Derived.Test.YtbghfcllicfnpaaGreatDoorKa5
import Derived.Test.YtbghfcllicfnpaaGreatDoorKa6
import Derived.Test.YtbghfcllicfnpaaGreatDoorKa7
import Derived.Test.YtbghfcllicfnpaaGreatDoorKa8
import Derived.Test.YtbghfcllicfnpaaGreatDoorKa9
import Derived.Test.YtbghfcllicfnpaaGreatDoorKa10
import Derived.KernelRfl
set_option maxRecDepth 1000000
set_option linter.unusedVariables false
set_option linter.unusedSimpArgs false
namespace Go.Proofs.YtbghfcllicfnpaaGreatDoor
open Go Go.Vx

open Go.RowKit
attribute [local instance] anySyms anyKeeps
theorem mE (t : Nat → TypeId) {Q : Orc} {l : List Ent} (hQ : OrcOk Tryz.prog (tabG t) Q) (h : allL (entOk Tryz.prog Q (tabG t)) l = true) : Ents Tryz.prog (tabG t) l := ents_of (tabs_G t) (size_V t) (floor_V t) hQ h
theorem mD (t : Nat → TypeId) {Q : Orc} {l : List DeepE} (hQ : OrcOk Tryz.prog (tabG t) Q) (h : allL (deepOk Tryz.prog Q (tabG t)) l = true) : DeepsOk Tryz.prog (tabG t) l := deeps_of (tabs_G t) hQ h
theorem mQ (t : Nat → TypeId) {m : Nat} {l : List Ent} {L : List DeepE} (h : Ents Tryz.prog (tabG t) l) (hl : DeepsOk Tryz.prog (tabG t) L) : OrcOk Tryz.prog (tabG t) (deepOrc Tryz.prog (tabG t) (orcL l) m L noCuts) := deepOrc_ok (tabs_G t) (base_G t) (orcL_ok (tabs_G t) h) hl noCuts_ok
theorem mC (t : Nat → TypeId) {m : Nat} {l : List Ent} {L : List DeepE} {C : List CutE} (h : Ents Tryz.prog (tabG t) l) (hl : DeepsOk Tryz.prog (tabG t) L) (hc : CutsL Tryz.prog (tabG t) C) : OrcOk Tryz.prog (tabG t) (deepOrc Tryz.prog (tabG t) (orcL l) m L (cutsL Tryz.prog (tabG t) C)) := deepOrc_ok (tabs_G t) (base_G t) (orcL_ok (tabs_G t) h) hl (cutsL_ok (tabs_G t) hc)
theorem mV (t : Nat → TypeId) {l : List Ent} (h : Ents Tryz.prog (tabG t) l) : OrcOk Tryz.prog (tabG t) (valOrc (fun _ => false) (tabG t) (orcL l)) := valOrc_ok (base_G t) (orcL_ok (tabs_G t) h)
theorem mN (t : Nat → TypeId) : OrcOk Tryz.prog (tabG t) (noOrc (tabG t)) := nothing_known (base_G t)
theorem e0_ok (t : Nat → TypeId) : Ents Tryz.prog (tabG t) e0 := mE t (mN t) (e0_run t)
theorem e1_ok (t : Nat → TypeId) : Ents Tryz.prog (tabG t) e1 := mE t (mN t) (e1_run t)
theorem e2_ok (t : Nat → TypeId) : Ents Tryz.prog (tabG t) e2 := mE t (mN t) (e2_run t)
theorem e3_ok (t : Nat → TypeId) : Ents Tryz.prog (tabG t) e3 := mE t (mN t) (e3_run t)
theorem e4_ok (t : Nat → TypeId) : Ents Tryz.prog (tabG t) e4 := mE t (mN t) (e4_run t)
theorem e5_ok (t : Nat → TypeId) : Ents Tryz.prog (tabG t) e5 := mE t (mN t) (e5_run t)
theorem e6_ok (t : Nat → TypeId) : Ents Tryz.prog (tabG t) e6 := mE t (mN t) (e6_run t)
theorem e7_ok (t : Nat → TypeId) : Ents Tryz.prog (tabG t) e7 := mE t (mN t) (e7_run t)
theorem d8_ok (t : Nat → TypeId) : DeepsOk Tryz.prog (tabG t) d8 := mD t (mN t) (d8_run t)
theorem e9_ok (t : Nat → TypeId) : Ents Tryz.prog (tabG t) e9 := mE t (mQ t Ents.nil (d8_ok t)) (e9_run t)
theorem e10_ok (t : Nat → TypeId) : Ents Tryz.prog (tabG t) e10 := mE t (mQ t Ents.nil (d8_ok t)) (e10_run t)
theorem e11_ok (t : Nat → TypeId) : Ents Tryz.prog (tabG t) e11 := mE t (mQ t Ents.nil (d8_ok t)) (e11_run t)
theorem e12_ok (t : Nat → TypeId) : Ents Tryz.prog (tabG t) e12 := mE t (mQ t Ents.nil (d8_ok t)) (e12_run t)
theorem e13_ok (t : Nat → TypeId) : Ents Tryz.prog (tabG t) e13 := mE t (mQ t (Ents.app (e0_ok t) (e5_ok t)) (d8_ok t)) (e13_run t)
theorem e14_ok (t : Nat → TypeId) : Ents Tryz.prog (tabG t) e14 := mE t (mV t (Ents.app (e4_ok t) (e13_ok t))) (e14_run t)
theorem d15_ok (t : Nat → TypeId) : DeepsOk Tryz.prog (tabG t) d15 := mD t (mV t (Ents.app (Ents.app (Ents.app (Ents.app (Ents.app (Ents.app (Ents.app (Ents.app (Ents.app (Ents.app (e0_ok t) (e1_ok t)) (e2_ok t)) (e3_ok t)) (e4_ok t)) (e5_ok t)) (e6_ok t)) (e9_ok t)) (e10_ok t)) (e11_ok t)) (e12_ok t))) (d15_run t)
theorem d16_ok (t : Nat → TypeId) : DeepsOk Tryz.prog (tabG t) d16 := mD t (mV t (Ents.app (Ents.app (Ents.app (Ents.app (Ents.app (Ents.app (Ents.app (Ents.app (Ents.app (e0_ok t) (e3_ok t)) (e4_ok t)) (e5_ok t)) (e6_ok t)) (e9_ok t)) (e10_ok t)) (e11_ok t)) (e12_ok t)) (e13_ok t))) (d16_run t)
theorem d17_ok (t : Nat → TypeId) : DeepsOk Tryz.prog (tabG t) d17 := mD t (mV t (Ents.app (Ents.app (Ents.app (Ents.app (Ents.app (Ents.app (Ents.app (Ents.app (e0_ok t) (e1_ok t)) (e4_ok t)) (e5_ok t)) (e6_ok t)) (e9_ok t)) (e10_ok t)) (e11_ok t)) (e12_ok t))) (d17_run t)
theorem d18_ok (t : Nat → TypeId) : DeepsOk Tryz.prog (tabG t) d18 := mD t (mV t (Ents.app (Ents.app (Ents.app (Ents.app (Ents.app (Ents.app (Ents.app (Ents.app (Ents.app (e1_ok t) (e2_ok t)) (e4_ok t)) (e5_ok t)) (e6_ok t)) (e9_ok t)) (e10_ok t)) (e11_ok t)) (e12_ok t)) (e13_ok t))) (d18_run t)
theorem d19_ok (t : Nat → TypeId) : DeepsOk Tryz.prog (tabG t) d19 := mD t (mV t (Ents.app (Ents.app (Ents.app (Ents.app (Ents.app (Ents.app (Ents.app (Ents.app (Ents.app (Ents.app (e2_ok t) (e3_ok t)) (e4_ok t)) (e5_ok t)) (e6_ok t)) (e7_ok t)) (e9_ok t)) (e10_ok t)) (e11_ok t)) (e12_ok t)) (e13_ok t))) (d19_run t)
theorem d20_ok (t : Nat → TypeId) : DeepsOk Tryz.prog (tabG t) d20 := mD t (mV t (Ents.app (Ents.app (Ents.app (Ents.app (Ents.app (Ents.app (Ents.app (Ents.app (Ents.app (Ents.app (e0_ok t) (e3_ok t)) (e4_ok t)) (e5_ok t)) (e6_ok t)) (e7_ok t)) (e9_ok t)) (e10_ok t)) (e11_ok t)) (e12_ok t)) (e13_ok t))) (d20_run t)
theorem d21_ok (t : Nat → TypeId) : DeepsOk Tryz.prog (tabG t) d21 := mD t (mV t (Ents.app (Ents.app (Ents.app (Ents.app (Ents.app (Ents.app (Ents.app (Ents.app (e0_ok t) (e1_ok t)) (e4_ok t)) (e5_ok t)) (e6_ok t)) (e9_ok t)) (e10_ok t)) (e11_ok t)) (e12_ok t))) (d21_run t)
theorem d22_ok (t : Nat → TypeId) : DeepsOk Tryz.prog (tabG t) d22 := mD t (mV t (Ents.app (Ents.app (Ents.app (Ents.app (Ents.app (Ents.app (Ents.app (Ents.app (Ents.app (Ents.app (e1_ok t) (e2_ok t)) (e4_ok t)) (e5_ok t)) (e6_ok t)) (e7_ok t)) (e9_ok t)) (e10_ok t)) (e11_ok t)) (e12_ok t)) (e13_ok t))) (d22_run t)
theorem d23_ok (t : Nat → TypeId) : DeepsOk Tryz.prog (tabG t) d23 := mD t (mV t (Ents.app (Ents.app (Ents.app (Ents.app (Ents.app (Ents.app (Ents.app (Ents.app (Ents.app (Ents.app (Ents.app (e0_ok t) (e2_ok t)) (e3_ok t)) (e4_ok t)) (e5_ok t)) (e6_ok t)) (e7_ok t)) (e9_ok t)) (e10_ok t)) (e11_ok t)) (e12_ok t)) (e13_ok t))) (d23_run t)
theorem d24_ok (t : Nat → TypeId) : DeepsOk Tryz.prog (tabG t) d24 := mD t (mV t (Ents.app (Ents.app (Ents.app (Ents.app (Ents.app (Ents.app (Ents.app (e0_ok t) (e1_ok t)) (e4_ok t)) (e5_ok t)) (e6_ok t)) (e9_ok t)) (e10_ok t)) (e11_ok t))) (d24_run t)
theorem d25_ok (t : Nat → TypeId) : DeepsOk Tryz.prog (tabG t) d25 := mD t (mV t (Ents.app (Ents.app (Ents.app (Ents.app (Ents.app (Ents.app (e1_ok t) (e4_ok t)) (e5_ok t)) (e6_ok t)) (e9_ok t)) (e10_ok t)) (e11_ok t))) (d25_run t)
theorem d26_ok (t : Nat → TypeId) : DeepsOk Tryz.prog (tabG t) d26 := mD t (mV t (Ents.app (Ents.app (Ents.app (Ents.app (Ents.app (Ents.app (Ents.app (Ents.app (e1_ok t) (e2_ok t)) (e4_ok t)) (e5_ok t)) (e6_ok t)) (e9_ok t)) (e10_ok t)) (e11_ok t)) (e12_ok t))) (d26_run t)
theorem d27_ok (t : Nat → TypeId) : DeepsOk Tryz.prog (tabG t) d27 := mD t (mV t (Ents.app (Ents.app (Ents.app (Ents.app (Ents.app (Ents.app (Ents.app (Ents.app (Ents.app (e2_ok t) (e3_ok t)) (e4_ok t)) (e5_ok t)) (e6_ok t)) (e7_ok t)) (e9_ok t)) (e10_ok t)) (e11_ok t)) (e12_ok t))) (d27_run t)
theorem d28_ok (t : Nat → TypeId) : DeepsOk Tryz.prog (tabG t) d28 := mD t (mV t (Ents.app (Ents.app (Ents.app (Ents.app (Ents.app (Ents.app (Ents.app (Ents.app (Ents.app (e3_ok t) (e4_ok t)) (e5_ok t)) (e6_ok t)) (e7_ok t)) (e9_ok t)) (e10_ok t)) (e11_ok t)) (e12_ok t)) (e13_ok t))) (d28_run t)
theorem d29_ok (t : Nat → TypeId) : DeepsOk Tryz.prog (tabG t) d29 := mD t (mV t (Ents.app (Ents.app (Ents.app (Ents.app (Ents.app (Ents.app (Ents.app (Ents.app (Ents.app (e3_ok t) (e4_ok t)) (e5_ok t)) (e6_ok t)) (e7_ok t)) (e9_ok t)) (e10_ok t)) (e11_ok t)) (e12_ok t)) (e13_ok t))) (d29_run t)
theorem d30_ok (t : Nat → TypeId) : DeepsOk Tryz.prog (tabG t) d30 := mD t (mV t (Ents.app (Ents.app (Ents.app (e4_ok t) (e5_ok t)) (e6_ok t)) (e9_ok t))) (d30_run t)
theorem d31_ok (t : Nat → TypeId) : DeepsOk Tryz.prog (tabG t) d31 := mD t (mV t (Ents.app (Ents.app (Ents.app (Ents.app (Ents.app (e0_ok t) (e4_ok t)) (e5_ok t)) (e6_ok t)) (e9_ok t)) (e13_ok t))) (d31_run t)
theorem d32_ok (t : Nat → TypeId) : DeepsOk Tryz.prog (tabG t) d32 := mD t (mQ t (Ents.app (e9_ok t) (e14_ok t)) (d31_ok t)) (d32_run t)
theorem e33_ok (t : Nat → TypeId) : Ents Tryz.prog (tabG t) e33 := mE t (mQ t (Ents.app (e9_ok t) (e14_ok t)) (DeepsOk.app (DeepsOk.app (DeepsOk.app (DeepsOk.app (d8_ok t) (d15_ok t)) (d23_ok t)) (d31_ok t)) (d32_ok t))) (e33_run t)


end Go.Proofs.YtbghfcllicfnpaaGreatDoor
