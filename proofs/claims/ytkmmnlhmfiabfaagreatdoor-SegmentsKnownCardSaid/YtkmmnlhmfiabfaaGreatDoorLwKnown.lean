/-
  Says: SegmentsKnown answers true.
-/
import Derived.Test.YtkmmnlhmfiabfaaGreatDoorKr
import Derived.Test.YtkmmnlhmfiabfaaGreatDoorKa0
import Derived.Test.YtkmmnlhmfiabfaaGreatDoorKa18
import Derived.Test.YtkmmnlhmfiabfaaGreatDoorKa21
import Derived.Test.YtkmmnlhmfiabfaaGreatDoorKa24
import Derived.Test.YtkmmnlhmfiabfaaGreatDoorKa28
import Derived.Test.YtkmmnlhmfiabfaaGreatDoorKa29
import Derived.KernelRfl
import Derived.Test.YtkmmnlhmfiabfaaGreatDoorKS
import Derived.Test.YtkmmnlhmfiabfaaGreatDoorKSw
import Derived.Test.YtkmmnlhmfiabfaaGreatDoorAtd
import Derived.Test.YtkmmnlhmfiabfaaGreatDoorKa1
import Derived.Test.YtkmmnlhmfiabfaaGreatDoorKa2
import Derived.Test.YtkmmnlhmfiabfaaGreatDoorKa3
import Derived.Test.YtkmmnlhmfiabfaaGreatDoorKa4
import Derived.Test.YtkmmnlhmfiabfaaGreatDoorKa5
import Derived.Test.YtkmmnlhmfiabfaaGreatDoorKa6
import Derived.Test.YtkmmnlhmfiabfaaGreatDoorKa7
import Derived.Test.YtkmmnlhmfiabfaaGreatDoorKa8
import Derived.Test.YtkmmnlhmfiabfaaGreatDoorKa9
import Derived.Test.YtkmmnlhmfiabfaaGreatDoorKa10
import Derived.Test.YtkmmnlhmfiabfaaGreatDoorKa11
import Derived.Test.YtkmmnlhmfiabfaaGreatDoorKa12
import Derived.Test.YtkmmnlhmfiabfaaGreatDoorKa13
import Derived.Test.YtkmmnlhmfiabfaaGreatDoorKa14
import Derived.Test.YtkmmnlhmfiabfaaGreatDoorKa15
import Derived.Test.YtkmmnlhmfiabfaaGreatDoorKa16
import Derived.Test.YtkmmnlhmfiabfaaGreatDoorKa17
import Derived.Test.YtkmmnlhmfiabfaaGreatDoorKa19
import Derived.Test.YtkmmnlhmfiabfaaGreatDoorKa20
import Derived.Test.YtkmmnlhmfiabfaaGreatDoorKa22
import Derived.Test.YtkmmnlhmfiabfaaGreatDoorKa23
import Derived.Test.YtkmmnlhmfiabfaaGreatDoorKa25
import Derived.Test.YtkmmnlhmfiabfaaGreatDoorKa26
import Derived.Test.YtkmmnlhmfiabfaaGreatDoorKa27
set_option maxRecDepth 1000000
set_option linter.unusedVariables false
set_option linter.unusedSimpArgs false
namespace Go.Proofs.YtkmmnlhmfiabfaaGreatDoor
open Go Go.Vx
attribute [local instance] anySyms
noncomputable def az_0 : List DeepE := (([(3, 0, 10)] : List (Int × Int × Int))).map fun x => atE 135 9223372036854775808 l2 (liesC l2) 24 x.1 x.2.1 x.2.2
theorem last_run (t : Nat → TypeId) : allL (entOk Tryz.prog (deepOrc Tryz.prog (tabG t) (orcL (e0 ++ e85 ++ e119 ++ e137 ++ sKw)) 206158430320 (d108 ++ d120 ++ d121 ++ d138 ++ d139 ++ d142 ++ az_0) noCuts) (tabG t)) [(9, [], vt)] = true := by kernel_rfl

end Go.Proofs.YtkmmnlhmfiabfaaGreatDoor
set_option maxRecDepth 1000000
set_option linter.unusedVariables false
set_option linter.unusedSimpArgs false
namespace Go.Proofs.YtkmmnlhmfiabfaaGreatDoor
open Go Go.Vx

open Go.RowKit
attribute [local instance] anySyms stdKeeps
theorem mE (t : Nat → TypeId) {Q : Orc} {l : List Ent} (hQ : OrcOk Tryz.prog (tabG t) Q) (h : allL (entOk Tryz.prog Q (tabG t)) l = true) : Ents Tryz.prog (tabG t) l := ents_of (tabs_G t) (size_V t) (floor_V t) hQ h
theorem mD (t : Nat → TypeId) {Q : Orc} {l : List DeepE} (hQ : OrcOk Tryz.prog (tabG t) Q) (h : allL (deepOk Tryz.prog Q (tabG t)) l = true) : DeepsOk Tryz.prog (tabG t) l := deeps_of (tabs_G t) hQ h
theorem mQ (t : Nat → TypeId) {m : Nat} {l : List Ent} {L : List DeepE} (h : Ents Tryz.prog (tabG t) l) (hl : DeepsOk Tryz.prog (tabG t) L) : OrcOk Tryz.prog (tabG t) (deepOrc Tryz.prog (tabG t) (orcL l) m L noCuts) := deepOrc_ok (tabs_G t) (base_G t) (orcL_ok (tabs_G t) h) hl noCuts_ok
theorem mV (t : Nat → TypeId) {l : List Ent} (h : Ents Tryz.prog (tabG t) l) : OrcOk Tryz.prog (tabG t) (valOrc (fun _ => false) (tabG t) (orcL l)) := valOrc_ok (base_G t) (orcL_ok (tabs_G t) h)
theorem mN (t : Nat → TypeId) : OrcOk Tryz.prog (tabG t) (noOrc (tabG t)) := nothing_known (base_G t)
theorem e0_ok (t : Nat → TypeId) : Ents Tryz.prog (tabG t) e0 := mE t (mN t) (e0_run t)
theorem e1_ok (t : Nat → TypeId) : Ents Tryz.prog (tabG t) e1 := mE t (mN t) (e1_run t)
theorem e2_ok (t : Nat → TypeId) : Ents Tryz.prog (tabG t) e2 := mE t (mN t) (e2_run t)
theorem e3_ok (t : Nat → TypeId) : Ents Tryz.prog (tabG t) e3 := mE t (mN t) (e3_run t)
theorem e4_ok (t : Nat → TypeId) : Ents Tryz.prog (tabG t) e4 := mE t (mN t) (e4_run t)
theorem e5_ok (t : Nat → TypeId) : Ents Tryz.prog (tabG t) e5 := mE t (mN t) (e5_run t)
theorem e6_ok (t : Nat → TypeId) : Ents Tryz.prog (tabG t) e6 := mE t (mN t) (e6_run t)
theorem e7_ok (t : Nat → TypeId) : Ents Tryz.prog (tabG t) e7 := mE t (mN t) (e7_run t)
theorem d8_ok (t : Nat → TypeId) : DeepsOk Tryz.prog (tabG t) d8 := mD t (mN t) (d8_run t)
theorem d9_ok (t : Nat → TypeId) : DeepsOk Tryz.prog (tabG t) d9 := mD t (mN t) (d9_run t)
theorem d10_ok (t : Nat → TypeId) : DeepsOk Tryz.prog (tabG t) d10 := mD t (mN t) (d10_run t)
theorem d11_ok (t : Nat → TypeId) : DeepsOk Tryz.prog (tabG t) d11 := mD t (mN t) (d11_run t)
theorem d12_ok (t : Nat → TypeId) : DeepsOk Tryz.prog (tabG t) d12 := mD t (mN t) (d12_run t)
theorem d13_ok (t : Nat → TypeId) : DeepsOk Tryz.prog (tabG t) d13 := mD t (mN t) (d13_run t)
theorem d14_ok (t : Nat → TypeId) : DeepsOk Tryz.prog (tabG t) d14 := mD t (mN t) (d14_run t)
theorem d15_ok (t : Nat → TypeId) : DeepsOk Tryz.prog (tabG t) d15 := mD t (mN t) (d15_run t)
theorem d16_ok (t : Nat → TypeId) : DeepsOk Tryz.prog (tabG t) d16 := mD t (mN t) (d16_run t)
theorem d17_ok (t : Nat → TypeId) : DeepsOk Tryz.prog (tabG t) d17 := mD t (mN t) (d17_run t)
theorem d18_ok (t : Nat → TypeId) : DeepsOk Tryz.prog (tabG t) d18 := mD t (mN t) (d18_run t)
theorem d19_ok (t : Nat → TypeId) : DeepsOk Tryz.prog (tabG t) d19 := mD t (mN t) (d19_run t)
theorem d20_ok (t : Nat → TypeId) : DeepsOk Tryz.prog (tabG t) d20 := mD t (mN t) (d20_run t)
theorem d21_ok (t : Nat → TypeId) : DeepsOk Tryz.prog (tabG t) d21 := mD t (mN t) (d21_run t)
theorem e22_ok (t : Nat → TypeId) : Ents Tryz.prog (tabG t) e22 := mE t (mV t (Ents.app (Ents.app (Ents.app (e0_ok t) (e2_ok t)) (e4_ok t)) (e5_ok t))) (e22_run t)
theorem e23_ok (t : Nat → TypeId) : Ents Tryz.prog (tabG t) e23 := mE t (mQ t (Ents.app (Ents.app (Ents.app (e2_ok t) (e3_ok t)) (e4_ok t)) (e5_ok t)) (DeepsOk.app (d20_ok t) (d21_ok t))) (e23_run t)
theorem e24_ok (t : Nat → TypeId) : Ents Tryz.prog (tabG t) e24 := mE t (mV t (Ents.app (Ents.app (Ents.app (e2_ok t) (e3_ok t)) (e4_ok t)) (e5_ok t))) (e24_run t)
theorem e25_ok (t : Nat → TypeId) : Ents Tryz.prog (tabG t) e25 := mE t (mV t (Ents.app (e3_ok t) (e4_ok t))) (e25_run t)
theorem e26_ok (t : Nat → TypeId) : Ents Tryz.prog (tabG t) e26 := mE t (mV t (Ents.app (Ents.app (Ents.app (e3_ok t) (e4_ok t)) (e6_ok t)) (e7_ok t))) (e26_run t)
theorem e27_ok (t : Nat → TypeId) : Ents Tryz.prog (tabG t) e27 := mE t (mV t (Ents.app (Ents.app (e3_ok t) (e4_ok t)) (e6_ok t))) (e27_run t)
theorem e28_ok (t : Nat → TypeId) : Ents Tryz.prog (tabG t) e28 := mE t (mV t (Ents.app (Ents.app (e3_ok t) (e4_ok t)) (e6_ok t))) (e28_run t)
theorem e29_ok (t : Nat → TypeId) : Ents Tryz.prog (tabG t) e29 := mE t (mV t (Ents.app (Ents.app (e3_ok t) (e4_ok t)) (e6_ok t))) (e29_run t)
theorem e30_ok (t : Nat → TypeId) : Ents Tryz.prog (tabG t) e30 := mE t (mV t (e4_ok t)) (e30_run t)
theorem d31_ok (t : Nat → TypeId) : DeepsOk Tryz.prog (tabG t) d31 := mD t (mV t (Ents.app (Ents.app (Ents.app (Ents.app (Ents.app (e0_ok t) (e2_ok t)) (e3_ok t)) (e4_ok t)) (e5_ok t)) (e6_ok t))) (d31_run t)
theorem d32_ok (t : Nat → TypeId) : DeepsOk Tryz.prog (tabG t) d32 := mD t (mQ t (Ents.app (Ents.app (Ents.app (e0_ok t) (e1_ok t)) (e2_ok t)) (e4_ok t)) (d21_ok t)) (d32_run t)
theorem e33_ok (t : Nat → TypeId) : Ents Tryz.prog (tabG t) e33 := mE t (mQ t (Ents.app (Ents.app (Ents.app (Ents.app (Ents.app (Ents.app (Ents.app (Ents.app (Ents.app (Ents.app (Ents.app (Ents.app (e2_ok t) (e3_ok t)) (e4_ok t)) (e6_ok t)) (e7_ok t)) (e22_ok t)) (e23_ok t)) (e24_ok t)) (e25_ok t)) (e26_ok t)) (e27_ok t)) (e28_ok t)) (e29_ok t)) (DeepsOk.app (d31_ok t) (d32_ok t))) (e33_run t)
theorem e34_ok (t : Nat → TypeId) : Ents Tryz.prog (tabG t) e34 := mE t (mV t (Ents.app (Ents.app (Ents.app (Ents.app (Ents.app (Ents.app (Ents.app (e3_ok t) (e4_ok t)) (e6_ok t)) (e7_ok t)) (e25_ok t)) (e26_ok t)) (e29_ok t)) (e30_ok t))) (e34_run t)
theorem e35_ok (t : Nat → TypeId) : Ents Tryz.prog (tabG t) e35 := mE t (mV t (Ents.app (Ents.app (Ents.app (Ents.app (Ents.app (Ents.app (Ents.app (Ents.app (e3_ok t) (e4_ok t)) (e6_ok t)) (e7_ok t)) (e24_ok t)) (e25_ok t)) (e26_ok t)) (e29_ok t)) (e30_ok t))) (e35_run t)
theorem e36_ok (t : Nat → TypeId) : Ents Tryz.prog (tabG t) e36 := mE t (mV t (Ents.app (Ents.app (Ents.app (Ents.app (e3_ok t) (e4_ok t)) (e6_ok t)) (e7_ok t)) (e29_ok t))) (e36_run t)
theorem e37_ok (t : Nat → TypeId) : Ents Tryz.prog (tabG t) e37 := mE t (mV t (Ents.app (Ents.app (Ents.app (Ents.app (Ents.app (Ents.app (e3_ok t) (e4_ok t)) (e6_ok t)) (e7_ok t)) (e24_ok t)) (e25_ok t)) (e29_ok t))) (e37_run t)
theorem e38_ok (t : Nat → TypeId) : Ents Tryz.prog (tabG t) e38 := mE t (mV t (Ents.app (Ents.app (Ents.app (Ents.app (Ents.app (Ents.app (e3_ok t) (e4_ok t)) (e6_ok t)) (e23_ok t)) (e24_ok t)) (e25_ok t)) (e26_ok t))) (e38_run t)
theorem e39_ok (t : Nat → TypeId) : Ents Tryz.prog (tabG t) e39 := mE t (mV t (Ents.app (e23_ok t) (e24_ok t))) (e39_run t)
theorem d40_ok (t : Nat → TypeId) : DeepsOk Tryz.prog (tabG t) d40 := mD t (mV t (Ents.app (Ents.app (Ents.app (Ents.app (e0_ok t) (e2_ok t)) (e3_ok t)) (e23_ok t)) (e24_ok t))) (d40_run t)
theorem d41_ok (t : Nat → TypeId) : DeepsOk Tryz.prog (tabG t) d41 := mD t (mV t (Ents.app (Ents.app (Ents.app (Ents.app (e0_ok t) (e2_ok t)) (e3_ok t)) (e23_ok t)) (e24_ok t))) (d41_run t)
theorem d42_ok (t : Nat → TypeId) : DeepsOk Tryz.prog (tabG t) d42 := mD t (mV t (Ents.app (Ents.app (Ents.app (Ents.app (Ents.app (Ents.app (e0_ok t) (e2_ok t)) (e3_ok t)) (e5_ok t)) (e23_ok t)) (e24_ok t)) (e26_ok t))) (d42_run t)
theorem d43_ok (t : Nat → TypeId) : DeepsOk Tryz.prog (tabG t) d43 := mD t (mV t (Ents.app (Ents.app (Ents.app (e3_ok t) (e23_ok t)) (e24_ok t)) (e26_ok t))) (d43_run t)
theorem d44_ok (t : Nat → TypeId) : DeepsOk Tryz.prog (tabG t) d44 := mD t (mV t (Ents.app (Ents.app (Ents.app (e3_ok t) (e23_ok t)) (e24_ok t)) (e26_ok t))) (d44_run t)
theorem d45_ok (t : Nat → TypeId) : DeepsOk Tryz.prog (tabG t) d45 := mD t (mQ t (Ents.app (Ents.app (Ents.app (Ents.app (Ents.app (Ents.app (Ents.app (e1_ok t) (e2_ok t)) (e3_ok t)) (e4_ok t)) (e22_ok t)) (e23_ok t)) (e24_ok t)) (e26_ok t)) (d32_ok t)) (d45_run t)
theorem e46_ok (t : Nat → TypeId) : Ents Tryz.prog (tabG t) e46 := mE t (mV t (Ents.app (Ents.app (Ents.app (e4_ok t) (e5_ok t)) (e38_ok t)) (e39_ok t))) (e46_run t)
theorem e47_ok (t : Nat → TypeId) : Ents Tryz.prog (tabG t) e47 := mE t (mV t (Ents.app (e4_ok t) (e38_ok t))) (e47_run t)
theorem e48_ok (t : Nat → TypeId) : Ents Tryz.prog (tabG t) e48 := mE t (mV t (Ents.app (Ents.app (Ents.app (Ents.app (Ents.app (e3_ok t) (e4_ok t)) (e5_ok t)) (e33_ok t)) (e38_ok t)) (e39_ok t))) (e48_run t)
theorem e49_ok (t : Nat → TypeId) : Ents Tryz.prog (tabG t) e49 := mE t (mV t (Ents.app (Ents.app (Ents.app (Ents.app (Ents.app (e3_ok t) (e4_ok t)) (e33_ok t)) (e34_ok t)) (e35_ok t)) (e37_ok t))) (e49_run t)
theorem e50_ok (t : Nat → TypeId) : Ents Tryz.prog (tabG t) e50 := mE t (mV t (Ents.app (Ents.app (Ents.app (Ents.app (Ents.app (Ents.app (e3_ok t) (e4_ok t)) (e33_ok t)) (e34_ok t)) (e35_ok t)) (e37_ok t)) (e38_ok t))) (e50_run t)
theorem e51_ok (t : Nat → TypeId) : Ents Tryz.prog (tabG t) e51 := mE t (mV t (Ents.app (Ents.app (Ents.app (Ents.app (Ents.app (Ents.app (e3_ok t) (e4_ok t)) (e33_ok t)) (e34_ok t)) (e35_ok t)) (e37_ok t)) (e38_ok t))) (e51_run t)
theorem e52_ok (t : Nat → TypeId) : Ents Tryz.prog (tabG t) e52 := mE t (mV t (Ents.app (Ents.app (Ents.app (Ents.app (Ents.app (Ents.app (e3_ok t) (e4_ok t)) (e33_ok t)) (e34_ok t)) (e35_ok t)) (e37_ok t)) (e38_ok t))) (e52_run t)
theorem e53_ok (t : Nat → TypeId) : Ents Tryz.prog (tabG t) e53 := mE t (mV t (Ents.app (Ents.app (Ents.app (Ents.app (Ents.app (Ents.app (e3_ok t) (e4_ok t)) (e33_ok t)) (e34_ok t)) (e35_ok t)) (e37_ok t)) (e38_ok t))) (e53_run t)
theorem e54_ok (t : Nat → TypeId) : Ents Tryz.prog (tabG t) e54 := mE t (mV t (Ents.app (Ents.app (Ents.app (Ents.app (Ents.app (Ents.app (e3_ok t) (e4_ok t)) (e33_ok t)) (e34_ok t)) (e35_ok t)) (e37_ok t)) (e38_ok t))) (e54_run t)
theorem e55_ok (t : Nat → TypeId) : Ents Tryz.prog (tabG t) e55 := mE t (mV t (Ents.app (Ents.app (Ents.app (Ents.app (Ents.app (Ents.app (e3_ok t) (e4_ok t)) (e33_ok t)) (e34_ok t)) (e35_ok t)) (e37_ok t)) (e38_ok t))) (e55_run t)
theorem e56_ok (t : Nat → TypeId) : Ents Tryz.prog (tabG t) e56 := mE t (mV t (Ents.app (Ents.app (Ents.app (Ents.app (Ents.app (Ents.app (e3_ok t) (e4_ok t)) (e33_ok t)) (e34_ok t)) (e35_ok t)) (e37_ok t)) (e38_ok t))) (e56_run t)
theorem e57_ok (t : Nat → TypeId) : Ents Tryz.prog (tabG t) e57 := mE t (mV t (Ents.app (Ents.app (Ents.app (Ents.app (Ents.app (Ents.app (e3_ok t) (e4_ok t)) (e33_ok t)) (e34_ok t)) (e35_ok t)) (e37_ok t)) (e38_ok t))) (e57_run t)
theorem e58_ok (t : Nat → TypeId) : Ents Tryz.prog (tabG t) e58 := mE t (mV t (Ents.app (Ents.app (Ents.app (Ents.app (Ents.app (Ents.app (e3_ok t) (e4_ok t)) (e33_ok t)) (e34_ok t)) (e35_ok t)) (e37_ok t)) (e38_ok t))) (e58_run t)
theorem e59_ok (t : Nat → TypeId) : Ents Tryz.prog (tabG t) e59 := mE t (mV t (Ents.app (Ents.app (Ents.app (Ents.app (Ents.app (Ents.app (e3_ok t) (e4_ok t)) (e33_ok t)) (e34_ok t)) (e35_ok t)) (e37_ok t)) (e38_ok t))) (e59_run t)
theorem e60_ok (t : Nat → TypeId) : Ents Tryz.prog (tabG t) e60 := mE t (mV t (Ents.app (Ents.app (Ents.app (Ents.app (Ents.app (Ents.app (e3_ok t) (e4_ok t)) (e33_ok t)) (e34_ok t)) (e35_ok t)) (e37_ok t)) (e38_ok t))) (e60_run t)
theorem e61_ok (t : Nat → TypeId) : Ents Tryz.prog (tabG t) e61 := mE t (mV t (Ents.app (Ents.app (Ents.app (Ents.app (Ents.app (Ents.app (e3_ok t) (e4_ok t)) (e33_ok t)) (e34_ok t)) (e35_ok t)) (e37_ok t)) (e38_ok t))) (e61_run t)
theorem e62_ok (t : Nat → TypeId) : Ents Tryz.prog (tabG t) e62 := mE t (mV t (Ents.app (Ents.app (Ents.app (Ents.app (Ents.app (Ents.app (e3_ok t) (e4_ok t)) (e33_ok t)) (e34_ok t)) (e35_ok t)) (e37_ok t)) (e38_ok t))) (e62_run t)
theorem e63_ok (t : Nat → TypeId) : Ents Tryz.prog (tabG t) e63 := mE t (mV t (Ents.app (Ents.app (Ents.app (Ents.app (Ents.app (Ents.app (e3_ok t) (e4_ok t)) (e33_ok t)) (e34_ok t)) (e35_ok t)) (e37_ok t)) (e38_ok t))) (e63_run t)
theorem e64_ok (t : Nat → TypeId) : Ents Tryz.prog (tabG t) e64 := mE t (mV t (Ents.app (Ents.app (Ents.app (Ents.app (Ents.app (Ents.app (e3_ok t) (e4_ok t)) (e33_ok t)) (e34_ok t)) (e35_ok t)) (e37_ok t)) (e38_ok t))) (e64_run t)
theorem e65_ok (t : Nat → TypeId) : Ents Tryz.prog (tabG t) e65 := mE t (mV t (Ents.app (Ents.app (Ents.app (Ents.app (Ents.app (Ents.app (Ents.app (e3_ok t) (e4_ok t)) (e33_ok t)) (e34_ok t)) (e35_ok t)) (e36_ok t)) (e37_ok t)) (e38_ok t))) (e65_run t)
theorem e66_ok (t : Nat → TypeId) : Ents Tryz.prog (tabG t) e66 := mE t (mV t (Ents.app (Ents.app (Ents.app (Ents.app (Ents.app (e33_ok t) (e34_ok t)) (e35_ok t)) (e36_ok t)) (e37_ok t)) (e38_ok t))) (e66_run t)
theorem e67_ok (t : Nat → TypeId) : Ents Tryz.prog (tabG t) e67 := mE t (mV t (Ents.app (Ents.app (Ents.app (Ents.app (Ents.app (e33_ok t) (e34_ok t)) (e35_ok t)) (e36_ok t)) (e37_ok t)) (e38_ok t))) (e67_run t)
theorem e68_ok (t : Nat → TypeId) : Ents Tryz.prog (tabG t) e68 := mE t (mV t (Ents.app (Ents.app (Ents.app (Ents.app (Ents.app (e33_ok t) (e34_ok t)) (e35_ok t)) (e36_ok t)) (e37_ok t)) (e38_ok t))) (e68_run t)
theorem e69_ok (t : Nat → TypeId) : Ents Tryz.prog (tabG t) e69 := mE t (mV t (Ents.app (Ents.app (Ents.app (Ents.app (Ents.app (e33_ok t) (e34_ok t)) (e35_ok t)) (e36_ok t)) (e37_ok t)) (e38_ok t))) (e69_run t)
theorem d70_ok (t : Nat → TypeId) : DeepsOk Tryz.prog (tabG t) d70 := mD t (mQ t (Ents.app (Ents.app (Ents.app (Ents.app (e0_ok t) (e1_ok t)) (e4_ok t)) (e22_ok t)) (e33_ok t)) (DeepsOk.app (DeepsOk.app (DeepsOk.app (DeepsOk.app (d21_ok t) (d31_ok t)) (d40_ok t)) (d41_ok t)) (d42_ok t))) (d70_run t)
theorem d71_ok (t : Nat → TypeId) : DeepsOk Tryz.prog (tabG t) d71 := mD t (mQ t (Ents.app (e1_ok t) (e2_ok t)) (DeepsOk.app (DeepsOk.app (DeepsOk.app (DeepsOk.app (DeepsOk.app (d20_ok t) (d21_ok t)) (d31_ok t)) (d40_ok t)) (d41_ok t)) (d42_ok t))) (d71_run t)
theorem d72_ok (t : Nat → TypeId) : DeepsOk Tryz.prog (tabG t) d72 := mD t (mQ t (Ents.app (e1_ok t) (e2_ok t)) (DeepsOk.app (DeepsOk.app (DeepsOk.app (DeepsOk.app (DeepsOk.app (d20_ok t) (d21_ok t)) (d31_ok t)) (d40_ok t)) (d41_ok t)) (d42_ok t))) (d72_run t)
theorem d73_ok (t : Nat → TypeId) : DeepsOk Tryz.prog (tabG t) d73 := mD t (mQ t (Ents.app (Ents.app (e1_ok t) (e2_ok t)) (e4_ok t)) (DeepsOk.app (DeepsOk.app (DeepsOk.app (DeepsOk.app (d21_ok t) (d31_ok t)) (d40_ok t)) (d41_ok t)) (d42_ok t))) (d73_run t)
theorem d74_ok (t : Nat → TypeId) : DeepsOk Tryz.prog (tabG t) d74 := mD t (mQ t (Ents.app (Ents.app (Ents.app (e1_ok t) (e2_ok t)) (e23_ok t)) (e33_ok t)) (DeepsOk.app (DeepsOk.app (DeepsOk.app (DeepsOk.app (DeepsOk.app (DeepsOk.app (d21_ok t) (d31_ok t)) (d32_ok t)) (d40_ok t)) (d41_ok t)) (d42_ok t)) (d45_ok t))) (d74_run t)
theorem d75_ok (t : Nat → TypeId) : DeepsOk Tryz.prog (tabG t) d75 := mD t (mQ t (Ents.app (Ents.app (Ents.app (e1_ok t) (e2_ok t)) (e23_ok t)) (e33_ok t)) (DeepsOk.app (DeepsOk.app (DeepsOk.app (DeepsOk.app (DeepsOk.app (DeepsOk.app (DeepsOk.app (d21_ok t) (d31_ok t)) (d32_ok t)) (d40_ok t)) (d41_ok t)) (d42_ok t)) (d43_ok t)) (d45_ok t))) (d75_run t)
theorem d76_ok (t : Nat → TypeId) : DeepsOk Tryz.prog (tabG t) d76 := mD t (mQ t (Ents.app (Ents.app (Ents.app (Ents.app (Ents.app (Ents.app (e26_ok t) (e27_ok t)) (e28_ok t)) (e33_ok t)) (e34_ok t)) (e35_ok t)) (e37_ok t)) (DeepsOk.app (d44_ok t) (d45_ok t))) (d76_run t)
theorem d77_ok (t : Nat → TypeId) : DeepsOk Tryz.prog (tabG t) d77 := mD t (mV t (Ents.app (Ents.app (Ents.app (Ents.app (Ents.app (Ents.app (Ents.app (Ents.app (e26_ok t) (e27_ok t)) (e28_ok t)) (e33_ok t)) (e34_ok t)) (e35_ok t)) (e36_ok t)) (e37_ok t)) (e38_ok t))) (d77_run t)
theorem d78_ok (t : Nat → TypeId) : DeepsOk Tryz.prog (tabG t) d78 := mD t (mV t (Ents.app (Ents.app (Ents.app (Ents.app (Ents.app (Ents.app (Ents.app (Ents.app (Ents.app (e26_ok t) (e27_ok t)) (e28_ok t)) (e29_ok t)) (e33_ok t)) (e34_ok t)) (e35_ok t)) (e36_ok t)) (e37_ok t)) (e38_ok t))) (d78_run t)
theorem d79_ok (t : Nat → TypeId) : DeepsOk Tryz.prog (tabG t) d79 := mD t (mV t (Ents.app (Ents.app (Ents.app (Ents.app (Ents.app (Ents.app (Ents.app (Ents.app (e26_ok t) (e27_ok t)) (e28_ok t)) (e33_ok t)) (e34_ok t)) (e35_ok t)) (e36_ok t)) (e37_ok t)) (e38_ok t))) (d79_run t)
theorem d80_ok (t : Nat → TypeId) : DeepsOk Tryz.prog (tabG t) d80 := mD t (mV t (Ents.app (Ents.app (Ents.app (Ents.app (Ents.app (Ents.app (Ents.app (Ents.app (e26_ok t) (e27_ok t)) (e28_ok t)) (e33_ok t)) (e34_ok t)) (e35_ok t)) (e36_ok t)) (e37_ok t)) (e38_ok t))) (d80_run t)
theorem d81_ok (t : Nat → TypeId) : DeepsOk Tryz.prog (tabG t) d81 := mD t (mV t (Ents.app (Ents.app (Ents.app (Ents.app (Ents.app (Ents.app (Ents.app (Ents.app (e26_ok t) (e27_ok t)) (e28_ok t)) (e33_ok t)) (e34_ok t)) (e35_ok t)) (e36_ok t)) (e37_ok t)) (e38_ok t))) (d81_run t)
theorem d82_ok (t : Nat → TypeId) : DeepsOk Tryz.prog (tabG t) d82 := mD t (mV t (Ents.app (Ents.app (Ents.app (Ents.app (Ents.app (Ents.app (Ents.app (Ents.app (e26_ok t) (e27_ok t)) (e28_ok t)) (e33_ok t)) (e34_ok t)) (e35_ok t)) (e36_ok t)) (e37_ok t)) (e38_ok t))) (d82_run t)
theorem d83_ok (t : Nat → TypeId) : DeepsOk Tryz.prog (tabG t) d83 := mD t (mV t (Ents.app (Ents.app (Ents.app (Ents.app (Ents.app (Ents.app (Ents.app (Ents.app (e26_ok t) (e27_ok t)) (e28_ok t)) (e33_ok t)) (e34_ok t)) (e35_ok t)) (e36_ok t)) (e37_ok t)) (e38_ok t))) (d83_run t)
theorem d84_ok (t : Nat → TypeId) : DeepsOk Tryz.prog (tabG t) d84 := mD t (mV t (Ents.app (Ents.app (Ents.app (Ents.app (Ents.app (Ents.app (Ents.app (Ents.app (Ents.app (e26_ok t) (e27_ok t)) (e28_ok t)) (e29_ok t)) (e33_ok t)) (e34_ok t)) (e35_ok t)) (e36_ok t)) (e37_ok t)) (e38_ok t))) (d84_run t)
theorem e85_ok (t : Nat → TypeId) : Ents Tryz.prog (tabG t) e85 := mE t (mQ t (Ents.app (Ents.app (Ents.app (Ents.app (Ents.app (Ents.app (Ents.app (Ents.app (e0_ok t) (e3_ok t)) (e4_ok t)) (e22_ok t)) (e23_ok t)) (e24_ok t)) (e33_ok t)) (e47_ok t)) (sKw_ok t)) (DeepsOk.app (DeepsOk.app (d70_ok t) (d76_ok t)) (atL_ok t rfl (show 4 = l0.length by kernel_rfl) (by decide) _))) (e85_run t)
theorem d86_ok (t : Nat → TypeId) : DeepsOk Tryz.prog (tabG t) d86 := mD t (mQ t (Ents.app (Ents.app (Ents.app (Ents.app (Ents.app (Ents.app (e0_ok t) (e3_ok t)) (e4_ok t)) (e22_ok t)) (e23_ok t)) (e46_ok t)) (e47_ok t)) (DeepsOk.app (DeepsOk.app (DeepsOk.app (DeepsOk.app (DeepsOk.app (DeepsOk.app (DeepsOk.app (DeepsOk.app (d42_ok t) (d45_ok t)) (d76_ok t)) (d77_ok t)) (d78_ok t)) (d79_ok t)) (d80_ok t)) (d82_ok t)) (d83_ok t))) (d86_run t)
theorem d87_ok (t : Nat → TypeId) : DeepsOk Tryz.prog (tabG t) d87 := mD t (mQ t (Ents.app (Ents.app (Ents.app (Ents.app (Ents.app (Ents.app (e0_ok t) (e1_ok t)) (e4_ok t)) (e22_ok t)) (e46_ok t)) (e47_ok t)) (e48_ok t)) (DeepsOk.app (d42_ok t) (d43_ok t))) (d87_run t)
theorem d88_ok (t : Nat → TypeId) : DeepsOk Tryz.prog (tabG t) d88 := mD t (mQ t (Ents.app (Ents.app (Ents.app (Ents.app (Ents.app (e0_ok t) (e4_ok t)) (e22_ok t)) (e23_ok t)) (e46_ok t)) (e47_ok t)) (d43_ok t)) (d88_run t)
theorem d89_ok (t : Nat → TypeId) : DeepsOk Tryz.prog (tabG t) d89 := mD t (mQ t (Ents.app (Ents.app (Ents.app (Ents.app (Ents.app (Ents.app (Ents.app (e0_ok t) (e1_ok t)) (e4_ok t)) (e22_ok t)) (e23_ok t)) (e46_ok t)) (e47_ok t)) (e48_ok t)) (d43_ok t)) (d89_run t)
theorem d90_ok (t : Nat → TypeId) : DeepsOk Tryz.prog (tabG t) d90 := mD t (mV t (Ents.app (Ents.app (Ents.app (Ents.app (Ents.app (Ents.app (Ents.app (Ents.app (e0_ok t) (e3_ok t)) (e4_ok t)) (e22_ok t)) (e23_ok t)) (e24_ok t)) (e26_ok t)) (e46_ok t)) (e47_ok t))) (d90_run t)
theorem d91_ok (t : Nat → TypeId) : DeepsOk Tryz.prog (tabG t) d91 := mD t (mQ t (Ents.app (Ents.app (Ents.app (Ents.app (Ents.app (Ents.app (e0_ok t) (e1_ok t)) (e4_ok t)) (e22_ok t)) (e23_ok t)) (e46_ok t)) (e48_ok t)) (d43_ok t)) (d91_run t)
theorem d92_ok (t : Nat → TypeId) : DeepsOk Tryz.prog (tabG t) d92 := mD t (mQ t (Ents.app (Ents.app (Ents.app (Ents.app (Ents.app (Ents.app (e0_ok t) (e1_ok t)) (e4_ok t)) (e22_ok t)) (e46_ok t)) (e47_ok t)) (e48_ok t)) (d43_ok t)) (d92_run t)
theorem d93_ok (t : Nat → TypeId) : DeepsOk Tryz.prog (tabG t) d93 := mD t (mV t (Ents.app (Ents.app (Ents.app (Ents.app (Ents.app (Ents.app (Ents.app (Ents.app (Ents.app (Ents.app (e0_ok t) (e1_ok t)) (e3_ok t)) (e4_ok t)) (e22_ok t)) (e23_ok t)) (e24_ok t)) (e26_ok t)) (e46_ok t)) (e47_ok t)) (e48_ok t))) (d93_run t)
theorem d94_ok (t : Nat → TypeId) : DeepsOk Tryz.prog (tabG t) d94 := mD t (mV t (Ents.app (Ents.app (Ents.app (Ents.app (Ents.app (Ents.app (Ents.app (Ents.app (Ents.app (e0_ok t) (e1_ok t)) (e3_ok t)) (e4_ok t)) (e22_ok t)) (e23_ok t)) (e24_ok t)) (e26_ok t)) (e46_ok t)) (e48_ok t))) (d94_run t)
theorem d95_ok (t : Nat → TypeId) : DeepsOk Tryz.prog (tabG t) d95 := mD t (mQ t (Ents.app (Ents.app (Ents.app (Ents.app (Ents.app (Ents.app (Ents.app (Ents.app (e0_ok t) (e1_ok t)) (e4_ok t)) (e22_ok t)) (e23_ok t)) (e33_ok t)) (e46_ok t)) (e47_ok t)) (e48_ok t)) (DeepsOk.app (d44_ok t) (d45_ok t))) (d95_run t)
theorem d96_ok (t : Nat → TypeId) : DeepsOk Tryz.prog (tabG t) d96 := mD t (mQ t (Ents.app (Ents.app (Ents.app (Ents.app (Ents.app (Ents.app (Ents.app (Ents.app (e0_ok t) (e1_ok t)) (e4_ok t)) (e22_ok t)) (e23_ok t)) (e33_ok t)) (e46_ok t)) (e47_ok t)) (e48_ok t)) (DeepsOk.app (d44_ok t) (d45_ok t))) (d96_run t)
theorem d97_ok (t : Nat → TypeId) : DeepsOk Tryz.prog (tabG t) d97 := mD t (mV t (Ents.app (Ents.app (Ents.app (Ents.app (Ents.app (Ents.app (Ents.app (Ents.app (Ents.app (e0_ok t) (e1_ok t)) (e3_ok t)) (e4_ok t)) (e22_ok t)) (e23_ok t)) (e24_ok t)) (e46_ok t)) (e47_ok t)) (e48_ok t))) (d97_run t)
theorem d98_ok (t : Nat → TypeId) : DeepsOk Tryz.prog (tabG t) d98 := mD t (mQ t (Ents.app (Ents.app (Ents.app (Ents.app (Ents.app (Ents.app (e0_ok t) (e1_ok t)) (e22_ok t)) (e23_ok t)) (e33_ok t)) (e46_ok t)) (e48_ok t)) (DeepsOk.app (d32_ok t) (d44_ok t))) (d98_run t)
theorem d99_ok (t : Nat → TypeId) : DeepsOk Tryz.prog (tabG t) d99 := mD t (mQ t (Ents.app (Ents.app (Ents.app (Ents.app (Ents.app (Ents.app (e0_ok t) (e1_ok t)) (e22_ok t)) (e23_ok t)) (e33_ok t)) (e46_ok t)) (e48_ok t)) (DeepsOk.app (DeepsOk.app (d32_ok t) (d45_ok t)) (d70_ok t))) (d99_run t)
theorem d100_ok (t : Nat → TypeId) : DeepsOk Tryz.prog (tabG t) d100 := mD t (mQ t (Ents.app (Ents.app (Ents.app (Ents.app (Ents.app (Ents.app (Ents.app (e1_ok t) (e3_ok t)) (e4_ok t)) (e24_ok t)) (e25_ok t)) (e33_ok t)) (e34_ok t)) (e37_ok t)) (DeepsOk.app (DeepsOk.app (DeepsOk.app (DeepsOk.app (DeepsOk.app (DeepsOk.app (DeepsOk.app (d20_ok t) (d21_ok t)) (d31_ok t)) (d40_ok t)) (d41_ok t)) (d42_ok t)) (d70_ok t)) (d76_ok t))) (d100_run t)
theorem d101_ok (t : Nat → TypeId) : DeepsOk Tryz.prog (tabG t) d101 := mD t (mQ t (Ents.app (Ents.app (Ents.app (Ents.app (Ents.app (Ents.app (Ents.app (e3_ok t) (e4_ok t)) (e24_ok t)) (e25_ok t)) (e33_ok t)) (e34_ok t)) (e35_ok t)) (e37_ok t)) (DeepsOk.app (d76_ok t) (d77_ok t))) (d101_run t)
theorem d102_ok (t : Nat → TypeId) : DeepsOk Tryz.prog (tabG t) d102 := mD t (mQ t (Ents.app (Ents.app (Ents.app (Ents.app (Ents.app (e3_ok t) (e4_ok t)) (e24_ok t)) (e25_ok t)) (e33_ok t)) (e35_ok t)) (d76_ok t)) (d102_run t)
theorem d103_ok (t : Nat → TypeId) : DeepsOk Tryz.prog (tabG t) d103 := mD t (mQ t (Ents.app (Ents.app (Ents.app (Ents.app (Ents.app (Ents.app (Ents.app (Ents.app (e3_ok t) (e4_ok t)) (e24_ok t)) (e25_ok t)) (e26_ok t)) (e33_ok t)) (e34_ok t)) (e37_ok t)) (e38_ok t)) (d77_ok t)) (d103_run t)
theorem d104_ok (t : Nat → TypeId) : DeepsOk Tryz.prog (tabG t) d104 := mD t (mQ t (Ents.app (Ents.app (Ents.app (Ents.app (Ents.app (e3_ok t) (e4_ok t)) (e24_ok t)) (e25_ok t)) (e33_ok t)) (e35_ok t)) (d77_ok t)) (d104_run t)
theorem d105_ok (t : Nat → TypeId) : DeepsOk Tryz.prog (tabG t) d105 := mD t (mQ t (Ents.app (Ents.app (Ents.app (Ents.app (Ents.app (Ents.app (Ents.app (e3_ok t) (e4_ok t)) (e24_ok t)) (e25_ok t)) (e33_ok t)) (e34_ok t)) (e35_ok t)) (e37_ok t)) (d78_ok t)) (d105_run t)
theorem d106_ok (t : Nat → TypeId) : DeepsOk Tryz.prog (tabG t) d106 := mD t (mQ t (Ents.app (Ents.app (Ents.app (Ents.app (Ents.app (Ents.app (Ents.app (Ents.app (Ents.app (Ents.app (e3_ok t) (e4_ok t)) (e24_ok t)) (e25_ok t)) (e33_ok t)) (e34_ok t)) (e35_ok t)) (e37_ok t)) (e38_ok t)) (e49_ok t)) (e50_ok t)) (d80_ok t)) (d106_run t)
theorem d107_ok (t : Nat → TypeId) : DeepsOk Tryz.prog (tabG t) d107 := mD t (mQ t (Ents.app (Ents.app (Ents.app (Ents.app (Ents.app (Ents.app (Ents.app (Ents.app (Ents.app (e3_ok t) (e4_ok t)) (e24_ok t)) (e25_ok t)) (e33_ok t)) (e34_ok t)) (e35_ok t)) (e37_ok t)) (e48_ok t)) (e49_ok t)) (d79_ok t)) (d107_run t)
theorem d108_ok (t : Nat → TypeId) : DeepsOk Tryz.prog (tabG t) d108 := mD t (mQ t (Ents.app (Ents.app (Ents.app (Ents.app (Ents.app (Ents.app (Ents.app (Ents.app (e3_ok t) (e4_ok t)) (e24_ok t)) (e25_ok t)) (e26_ok t)) (e33_ok t)) (e34_ok t)) (e37_ok t)) (e38_ok t)) (d78_ok t)) (d108_run t)
theorem d109_ok (t : Nat → TypeId) : DeepsOk Tryz.prog (tabG t) d109 := mD t (mQ t (Ents.app (Ents.app (Ents.app (Ents.app (Ents.app (Ents.app (Ents.app (Ents.app (Ents.app (e3_ok t) (e4_ok t)) (e24_ok t)) (e25_ok t)) (e26_ok t)) (e33_ok t)) (e34_ok t)) (e37_ok t)) (e38_ok t)) (e52_ok t)) (d82_ok t)) (d109_run t)
theorem d110_ok (t : Nat → TypeId) : DeepsOk Tryz.prog (tabG t) d110 := mD t (mQ t (Ents.app (Ents.app (Ents.app (Ents.app (Ents.app (Ents.app (Ents.app (Ents.app (e3_ok t) (e4_ok t)) (e24_ok t)) (e25_ok t)) (e33_ok t)) (e34_ok t)) (e35_ok t)) (e37_ok t)) (e49_ok t)) (d81_ok t)) (d110_run t)
theorem d111_ok (t : Nat → TypeId) : DeepsOk Tryz.prog (tabG t) d111 := mD t (mQ t (Ents.app (Ents.app (Ents.app (Ents.app (Ents.app (Ents.app (Ents.app (Ents.app (Ents.app (e3_ok t) (e4_ok t)) (e24_ok t)) (e25_ok t)) (e33_ok t)) (e34_ok t)) (e35_ok t)) (e37_ok t)) (e38_ok t)) (e50_ok t)) (d83_ok t)) (d111_run t)
theorem d112_ok (t : Nat → TypeId) : DeepsOk Tryz.prog (tabG t) d112 := mD t (mQ t (Ents.app (Ents.app (Ents.app (Ents.app (Ents.app (Ents.app (Ents.app (Ents.app (e3_ok t) (e4_ok t)) (e24_ok t)) (e25_ok t)) (e26_ok t)) (e34_ok t)) (e38_ok t)) (e56_ok t)) (e57_ok t)) (DeepsOk.app (d20_ok t) (d84_ok t))) (d112_run t)
theorem d113_ok (t : Nat → TypeId) : DeepsOk Tryz.prog (tabG t) d113 := mD t (mV t (Ents.app (Ents.app (Ents.app (Ents.app (Ents.app (Ents.app (Ents.app (Ents.app (Ents.app (Ents.app (Ents.app (e26_ok t) (e27_ok t)) (e28_ok t)) (e29_ok t)) (e33_ok t)) (e34_ok t)) (e35_ok t)) (e36_ok t)) (e37_ok t)) (e38_ok t)) (e66_ok t)) (e67_ok t))) (d113_run t)
theorem d114_ok (t : Nat → TypeId) : DeepsOk Tryz.prog (tabG t) d114 := mD t (mV t (Ents.app (Ents.app (Ents.app (Ents.app (Ents.app (Ents.app (Ents.app (Ents.app (Ents.app (Ents.app (e27_ok t) (e28_ok t)) (e29_ok t)) (e33_ok t)) (e34_ok t)) (e35_ok t)) (e37_ok t)) (e38_ok t)) (e65_ok t)) (e68_ok t)) (e69_ok t))) (d114_run t)
theorem d115_ok (t : Nat → TypeId) : DeepsOk Tryz.prog (tabG t) d115 := mD t (mV t (Ents.app (Ents.app (Ents.app (Ents.app (Ents.app (Ents.app (Ents.app (Ents.app (Ents.app (Ents.app (Ents.app (e26_ok t) (e27_ok t)) (e28_ok t)) (e29_ok t)) (e33_ok t)) (e34_ok t)) (e35_ok t)) (e36_ok t)) (e37_ok t)) (e38_ok t)) (e67_ok t)) (e68_ok t))) (d115_run t)
theorem d116_ok (t : Nat → TypeId) : DeepsOk Tryz.prog (tabG t) d116 := mD t (mV t (Ents.app (Ents.app (Ents.app (Ents.app (Ents.app (Ents.app (Ents.app (Ents.app (Ents.app (e26_ok t) (e27_ok t)) (e28_ok t)) (e33_ok t)) (e34_ok t)) (e35_ok t)) (e36_ok t)) (e37_ok t)) (e38_ok t)) (e66_ok t))) (d116_run t)
theorem d117_ok (t : Nat → TypeId) : DeepsOk Tryz.prog (tabG t) d117 := mD t (mV t (Ents.app (Ents.app (Ents.app (Ents.app (Ents.app (Ents.app (Ents.app (Ents.app (Ents.app (Ents.app (e26_ok t) (e27_ok t)) (e28_ok t)) (e33_ok t)) (e34_ok t)) (e35_ok t)) (e36_ok t)) (e37_ok t)) (e38_ok t)) (e65_ok t)) (e66_ok t))) (d117_run t)
theorem d118_ok (t : Nat → TypeId) : DeepsOk Tryz.prog (tabG t) d118 := mD t (mV t (Ents.app (Ents.app (Ents.app (Ents.app (Ents.app (Ents.app (Ents.app (Ents.app (Ents.app (e26_ok t) (e27_ok t)) (e28_ok t)) (e33_ok t)) (e34_ok t)) (e35_ok t)) (e36_ok t)) (e37_ok t)) (e38_ok t)) (e66_ok t))) (d118_run t)
theorem e119_ok (t : Nat → TypeId) : Ents Tryz.prog (tabG t) e119 := mE t (mQ t (Ents.app (Ents.app (Ents.app (Ents.app (e0_ok t) (e1_ok t)) (e22_ok t)) (e66_ok t)) (e85_ok t)) (DeepsOk.app (DeepsOk.app (DeepsOk.app (DeepsOk.app (DeepsOk.app (d77_ok t) (d108_ok t)) (d112_ok t)) (d116_ok t)) (atL_ok t rfl (show 53 = l1.length by kernel_rfl) (by decide) _)) (atL_ok t rfl (show 24 = l2.length by kernel_rfl) (by decide) _))) (e119_run t)
theorem d120_ok (t : Nat → TypeId) : DeepsOk Tryz.prog (tabG t) d120 := mD t (mQ t (Ents.app (Ents.app (Ents.app (Ents.app (Ents.app (Ents.app (Ents.app (Ents.app (Ents.app (e0_ok t) (e3_ok t)) (e4_ok t)) (e22_ok t)) (e23_ok t)) (e24_ok t)) (e26_ok t)) (e46_ok t)) (e48_ok t)) (e85_ok t)) (DeepsOk.app (DeepsOk.app (DeepsOk.app (DeepsOk.app (DeepsOk.app (DeepsOk.app (DeepsOk.app (DeepsOk.app (DeepsOk.app (DeepsOk.app (DeepsOk.app (DeepsOk.app (DeepsOk.app (DeepsOk.app (DeepsOk.app (DeepsOk.app (DeepsOk.app (DeepsOk.app (DeepsOk.app (DeepsOk.app (DeepsOk.app (DeepsOk.app (DeepsOk.app (DeepsOk.app (d8_ok t) (d31_ok t)) (d42_ok t)) (d43_ok t)) (d70_ok t)) (d75_ok t)) (d76_ok t)) (d77_ok t)) (d81_ok t)) (d86_ok t)) (d87_ok t)) (d88_ok t)) (d89_ok t)) (d90_ok t)) (d91_ok t)) (d92_ok t)) (d93_ok t)) (d94_ok t)) (d95_ok t)) (d96_ok t)) (d97_ok t)) (d104_ok t)) (d110_ok t)) (atL_ok t rfl (show 42 = l3.length by kernel_rfl) (by decide) _)) (atL_ok t rfl (show 19 = l4.length by kernel_rfl) (by decide) _))) (d120_run t)
theorem d121_ok (t : Nat → TypeId) : DeepsOk Tryz.prog (tabG t) d121 := mD t (mQ t (Ents.app (Ents.app (Ents.app (Ents.app (Ents.app (Ents.app (Ents.app (Ents.app (Ents.app (Ents.app (e0_ok t) (e1_ok t)) (e3_ok t)) (e4_ok t)) (e22_ok t)) (e23_ok t)) (e24_ok t)) (e26_ok t)) (e46_ok t)) (e47_ok t)) (e85_ok t)) (DeepsOk.app (DeepsOk.app (DeepsOk.app (DeepsOk.app (DeepsOk.app (d43_ok t) (d86_ok t)) (d87_ok t)) (d101_ok t)) (d118_ok t)) (atL_ok t rfl (show 9 = l5.length by kernel_rfl) (by decide) _))) (d121_run t)
theorem d122_ok (t : Nat → TypeId) : DeepsOk Tryz.prog (tabG t) d122 := mD t (mQ t Ents.nil (DeepsOk.app (d100_ok t) (atL_ok t rfl (show 9 = l6.length by kernel_rfl) (by decide) _))) (d122_run t)
theorem d123_ok (t : Nat → TypeId) : DeepsOk Tryz.prog (tabG t) d123 := mD t (mQ t Ents.nil (DeepsOk.app (d102_ok t) (atL_ok t rfl (show 14 = l7.length by kernel_rfl) (by decide) _))) (d123_run t)
theorem d124_ok (t : Nat → TypeId) : DeepsOk Tryz.prog (tabG t) d124 := mD t (mQ t Ents.nil (DeepsOk.app (DeepsOk.app (DeepsOk.app (d9_ok t) (d10_ok t)) (d105_ok t)) (atL_ok t rfl (show 20 = l8.length by kernel_rfl) (by decide) _))) (d124_run t)
theorem d125_ok (t : Nat → TypeId) : DeepsOk Tryz.prog (tabG t) d125 := mD t (mQ t Ents.nil (DeepsOk.app (d101_ok t) (atL_ok t rfl (show 14 = l9.length by kernel_rfl) (by decide) _))) (d125_run t)
theorem d126_ok (t : Nat → TypeId) : DeepsOk Tryz.prog (tabG t) d126 := mD t (mQ t Ents.nil (DeepsOk.app (DeepsOk.app (DeepsOk.app (DeepsOk.app (DeepsOk.app (DeepsOk.app (DeepsOk.app (d8_ok t) (d9_ok t)) (d10_ok t)) (d11_ok t)) (d12_ok t)) (d13_ok t)) (d107_ok t)) (atL_ok t rfl (show 31 = l10.length by kernel_rfl) (by decide) _))) (d126_run t)
theorem d127_ok (t : Nat → TypeId) : DeepsOk Tryz.prog (tabG t) d127 := mD t (mQ t Ents.nil (DeepsOk.app (DeepsOk.app (DeepsOk.app (DeepsOk.app (DeepsOk.app (DeepsOk.app (d8_ok t) (d9_ok t)) (d10_ok t)) (d11_ok t)) (d12_ok t)) (d106_ok t)) (atL_ok t rfl (show 31 = l11.length by kernel_rfl) (by decide) _))) (d127_run t)
theorem d128_ok (t : Nat → TypeId) : DeepsOk Tryz.prog (tabG t) d128 := mD t (mQ t Ents.nil (DeepsOk.app (DeepsOk.app (DeepsOk.app (d8_ok t) (d9_ok t)) (d103_ok t)) (atL_ok t rfl (show 19 = l12.length by kernel_rfl) (by decide) _))) (d128_run t)
theorem d129_ok (t : Nat → TypeId) : DeepsOk Tryz.prog (tabG t) d129 := mD t (mQ t Ents.nil (DeepsOk.app (DeepsOk.app (DeepsOk.app (DeepsOk.app (DeepsOk.app (DeepsOk.app (DeepsOk.app (DeepsOk.app (DeepsOk.app (DeepsOk.app (d8_ok t) (d9_ok t)) (d10_ok t)) (d11_ok t)) (d12_ok t)) (d14_ok t)) (d15_ok t)) (d16_ok t)) (d17_ok t)) (d111_ok t)) (atL_ok t rfl (show 48 = l13.length by kernel_rfl) (by decide) _))) (d129_run t)
theorem d130_ok (t : Nat → TypeId) : DeepsOk Tryz.prog (tabG t) d130 := mD t (mQ t Ents.nil (DeepsOk.app (DeepsOk.app (DeepsOk.app (DeepsOk.app (DeepsOk.app (DeepsOk.app (DeepsOk.app (DeepsOk.app (d8_ok t) (d9_ok t)) (d10_ok t)) (d11_ok t)) (d12_ok t)) (d13_ok t)) (d14_ok t)) (d109_ok t)) (atL_ok t rfl (show 42 = l14.length by kernel_rfl) (by decide) _))) (d130_run t)
theorem d131_ok (t : Nat → TypeId) : DeepsOk Tryz.prog (tabG t) d131 := mD t (mQ t (Ents.app (Ents.app (Ents.app (Ents.app (Ents.app (Ents.app (Ents.app (e4_ok t) (e24_ok t)) (e25_ok t)) (e26_ok t)) (e34_ok t)) (e57_ok t)) (e58_ok t)) (e59_ok t)) (DeepsOk.app (d20_ok t) (d113_ok t))) (d131_run t)
theorem d132_ok (t : Nat → TypeId) : DeepsOk Tryz.prog (tabG t) d132 := mD t (mQ t (Ents.app (Ents.app (Ents.app (Ents.app (Ents.app (Ents.app (Ents.app (Ents.app (Ents.app (Ents.app (e3_ok t) (e4_ok t)) (e24_ok t)) (e25_ok t)) (e26_ok t)) (e33_ok t)) (e34_ok t)) (e38_ok t)) (e50_ok t)) (e51_ok t)) (e52_ok t)) (DeepsOk.app (d20_ok t) (d117_ok t))) (d132_run t)
theorem d133_ok (t : Nat → TypeId) : DeepsOk Tryz.prog (tabG t) d133 := mD t (mQ t (Ents.app (Ents.app (Ents.app (Ents.app (Ents.app (Ents.app (Ents.app (Ents.app (Ents.app (e3_ok t) (e4_ok t)) (e24_ok t)) (e25_ok t)) (e26_ok t)) (e34_ok t)) (e38_ok t)) (e52_ok t)) (e53_ok t)) (e54_ok t)) (DeepsOk.app (d20_ok t) (d118_ok t))) (d133_run t)
theorem d134_ok (t : Nat → TypeId) : DeepsOk Tryz.prog (tabG t) d134 := mD t (mQ t (Ents.app (Ents.app (Ents.app (Ents.app (Ents.app (Ents.app (Ents.app (e4_ok t) (e24_ok t)) (e25_ok t)) (e26_ok t)) (e34_ok t)) (e54_ok t)) (e55_ok t)) (e56_ok t)) (DeepsOk.app (d20_ok t) (d116_ok t))) (d134_run t)
theorem d135_ok (t : Nat → TypeId) : DeepsOk Tryz.prog (tabG t) d135 := mD t (mQ t (Ents.app (Ents.app (Ents.app (Ents.app (Ents.app (Ents.app (e24_ok t) (e25_ok t)) (e26_ok t)) (e59_ok t)) (e60_ok t)) (e61_ok t)) (e62_ok t)) (DeepsOk.app (d20_ok t) (d115_ok t))) (d135_run t)
theorem d136_ok (t : Nat → TypeId) : DeepsOk Tryz.prog (tabG t) d136 := mD t (mQ t (Ents.app (Ents.app (Ents.app (Ents.app (Ents.app (Ents.app (e24_ok t) (e25_ok t)) (e26_ok t)) (e62_ok t)) (e63_ok t)) (e64_ok t)) (e65_ok t)) (DeepsOk.app (d20_ok t) (d114_ok t))) (d136_run t)
theorem e137_ok (t : Nat → TypeId) : Ents Tryz.prog (tabG t) e137 := mE t (mQ t (Ents.app (Ents.app (e0_ok t) (e22_ok t)) (e85_ok t)) (DeepsOk.app (DeepsOk.app (DeepsOk.app (DeepsOk.app (DeepsOk.app (d131_ok t) (d135_ok t)) (d136_ok t)) (atL_ok t rfl (show 140 = l15.length by kernel_rfl) (by decide) _)) (atL_ok t rfl (show 111 = l16.length by kernel_rfl) (by decide) _)) (atL_ok t rfl (show 82 = l17.length by kernel_rfl) (by decide) _))) (e137_run t)
theorem d138_ok (t : Nat → TypeId) : DeepsOk Tryz.prog (tabG t) d138 := mD t (mQ t (e85_ok t) (DeepsOk.app (DeepsOk.app (DeepsOk.app (DeepsOk.app (DeepsOk.app (DeepsOk.app (DeepsOk.app (DeepsOk.app (DeepsOk.app (DeepsOk.app (DeepsOk.app (DeepsOk.app (DeepsOk.app (DeepsOk.app (DeepsOk.app (DeepsOk.app (DeepsOk.app (DeepsOk.app (DeepsOk.app (DeepsOk.app (DeepsOk.app (d8_ok t) (d31_ok t)) (d40_ok t)) (d41_ok t)) (d42_ok t)) (d70_ok t)) (d71_ok t)) (d72_ok t)) (d86_ok t)) (d87_ok t)) (d88_ok t)) (d89_ok t)) (d92_ok t)) (d100_ok t)) (d121_ok t)) (d122_ok t)) (d123_ok t)) (d124_ok t)) (d125_ok t)) (d126_ok t)) (d127_ok t)) (d128_ok t))) (d138_run t)
theorem d139_ok (t : Nat → TypeId) : DeepsOk Tryz.prog (tabG t) d139 := mD t (mQ t (e85_ok t) (DeepsOk.app (DeepsOk.app (DeepsOk.app (DeepsOk.app (DeepsOk.app (DeepsOk.app (DeepsOk.app (DeepsOk.app (DeepsOk.app (DeepsOk.app (DeepsOk.app (DeepsOk.app (DeepsOk.app (DeepsOk.app (DeepsOk.app (DeepsOk.app (DeepsOk.app (DeepsOk.app (DeepsOk.app (DeepsOk.app (DeepsOk.app (DeepsOk.app (DeepsOk.app (DeepsOk.app (DeepsOk.app (d8_ok t) (d31_ok t)) (d40_ok t)) (d41_ok t)) (d42_ok t)) (d70_ok t)) (d73_ok t)) (d74_ok t)) (d76_ok t)) (d86_ok t)) (d91_ok t)) (d96_ok t)) (d98_ok t)) (d99_ok t)) (d115_ok t)) (d116_ok t)) (d117_ok t)) (d121_ok t)) (d129_ok t)) (d130_ok t)) (d132_ok t)) (d134_ok t)) (d135_ok t)) (atL_ok t rfl (show 111 = l16.length by kernel_rfl) (by decide) _)) (atL_ok t rfl (show 88 = l18.length by kernel_rfl) (by decide) _)) (atL_ok t rfl (show 65 = l19.length by kernel_rfl) (by decide) _))) (d139_run t)
theorem d140_ok (t : Nat → TypeId) : DeepsOk Tryz.prog (tabG t) d140 := mD t (mQ t Ents.nil (DeepsOk.app (DeepsOk.app (DeepsOk.app (DeepsOk.app (DeepsOk.app (DeepsOk.app (DeepsOk.app (DeepsOk.app (DeepsOk.app (DeepsOk.app (DeepsOk.app (DeepsOk.app (d8_ok t) (d9_ok t)) (d10_ok t)) (d11_ok t)) (d12_ok t)) (d14_ok t)) (d15_ok t)) (d17_ok t)) (d18_ok t)) (d19_ok t)) (d20_ok t)) (d133_ok t)) (atL_ok t rfl (show 65 = l20.length by kernel_rfl) (by decide) _))) (d140_run t)
theorem d141_ok (t : Nat → TypeId) : DeepsOk Tryz.prog (tabG t) d141 := mD t (mQ t (e119_ok t) (DeepsOk.app (DeepsOk.app (d116_ok t) (d134_ok t)) (atL_ok t rfl (show 88 = l18.length by kernel_rfl) (by decide) _))) (d141_run t)
theorem d142_ok (t : Nat → TypeId) : DeepsOk Tryz.prog (tabG t) d142 := mD t (mQ t (e85_ok t) (DeepsOk.app (DeepsOk.app (DeepsOk.app (DeepsOk.app (DeepsOk.app (DeepsOk.app (DeepsOk.app (DeepsOk.app (d31_ok t) (d40_ok t)) (d41_ok t)) (d42_ok t)) (d75_ok t)) (d99_ok t)) (d121_ok t)) (d140_ok t)) (d141_ok t))) (d142_run t)
theorem known_last (t : Nat → TypeId) : Ents Tryz.prog (tabG t) [(9, [], vt)] := ents_of (tabs_G t) (size_V t) (floor_V t) (mQ t (Ents.app (Ents.app (Ents.app (Ents.app (e0_ok t) (e85_ok t)) (e119_ok t)) (e137_ok t)) (sKw_ok t)) (DeepsOk.app (DeepsOk.app (DeepsOk.app (DeepsOk.app (DeepsOk.app (DeepsOk.app (d108_ok t) (d120_ok t)) (d121_ok t)) (d138_ok t)) (d139_ok t)) (d142_ok t)) (atL_ok t rfl (show 24 = l2.length by kernel_rfl) (by decide) _))) (last_run t)
theorem segmentsknown_law (w : World) (h : All w) : Calls Tryz.prog 9 #[] w fun r w' => r = .returned (.bool true) ∧ Below w.heap.size w w' :=
  have run : Ents Tryz.prog (tabG (typ w)) [(9, [], vt)] := known_last (typ w)
  (run (9, [], vt) (List.mem_singleton.2 rfl)).1.calls (lies_G h)

end Go.Proofs.YtkmmnlhmfiabfaaGreatDoor
