/-
  Says: what calls answer, as the kernel runs them (level 4).
-/
import Derived.Test.YtpieoofkikjjjaaGreatDoorQr
import Derived.Test.YtpieoofkikjjjaaGreatDoorQa0
import Derived.Test.YtpieoofkikjjjaaGreatDoorQa2
import Derived.Test.YtpieoofkikjjjaaGreatDoorQa4
import Derived.Test.YtpieoofkikjjjaaGreatDoorQa5
import Derived.Test.YtpieoofkikjjjaaGreatDoorQa6
import Derived.KernelRfl
set_option maxRecDepth 1000000
set_option linter.unusedVariables false
set_option linter.unusedSimpArgs false
namespace Go.Proofs.YtpieoofkikjjjaaGreatDoor
open Go Go.Vx
attribute [local instance] anySyms

noncomputable def d58 : List DeepE := [⟨41,[va [vi 1,vi 4,vr 0 0 13 9223372036854775808]],[r116],vi 0,[]⟩,⟨41,[va [vi 2,vi 2,vr 0 0 14 9223372036854775808]],[r119],vi 0,[]⟩,⟨41,[va [vi 4,vi 2,vr 0 0 10 9223372036854775808]],[r106],vi 0,[]⟩]
theorem d58_run (t : Nat → TypeId) : allL (deepOk Tryz.prog (ndOrc Tryz.prog (tabG t) (orcL ([])) 536870912 (d36 ++ d37) noCuts) (tabG t)) d58 = true := by kernel_rfl

noncomputable def d59 : List DeepE := [⟨41,[va [vi 4,vi 2,vr 0 0 17 9223372036854775808]],[r121],vi 0,[]⟩]
theorem d59_run (t : Nat → TypeId) : allL (deepOk Tryz.prog (ndOrc Tryz.prog (tabG t) (orcL ([])) 536870912 (d37) noCuts) (tabG t)) d59 = true := by kernel_rfl

noncomputable def d60 : List DeepE := [⟨41,[va [vi 2,vi 3,vr 0 0 23 9223372036854775808]],[r122],vi 0,[]⟩]
theorem d60_run (t : Nat → TypeId) : allL (deepOk Tryz.prog (ndOrc Tryz.prog (tabG t) (orcL ([])) 536870912 (d36) noCuts) (tabG t)) d60 = true := by kernel_rfl

noncomputable def d61 : List DeepE := [⟨41,[va [vi 3,vi 3,vr 0 0 15 9223372036854775808]],[r117],vi 0,[]⟩]
theorem d61_run (t : Nat → TypeId) : allL (deepOk Tryz.prog (ndOrc Tryz.prog (tabG t) (orcL ([])) 536870912 (d37) noCuts) (tabG t)) d61 = true := by kernel_rfl

noncomputable def d62 : List DeepE := [⟨41,[va [vi 3,vi 2,vr 0 0 26 9223372036854775808]],[r146],vi 0,[]⟩]
theorem d62_run (t : Nat → TypeId) : allL (deepOk Tryz.prog (ndOrc Tryz.prog (tabG t) (orcL ([])) 536870912 (d37) noCuts) (tabG t)) d62 = true := by kernel_rfl

noncomputable def d63 : List DeepE := [⟨41,[va [vi 3,vi 3,vr 0 0 36 9223372036854775808]],[r129],vi 0,[]⟩]
theorem d63_run (t : Nat → TypeId) : allL (deepOk Tryz.prog (ndOrc Tryz.prog (tabG t) (orcL ([])) 536870912 (d37) noCuts) (tabG t)) d63 = true := by kernel_rfl

noncomputable def d64 : List DeepE := [⟨69,[va [vi 3,vi 2,vr 0 0 13 13],vi 4,vu 1],[r52],vp [va [vi 4,vu 1],vi 0],[]⟩,⟨69,[va [vi 3,vi 2,vr 0 0 13 13],vi 6,vu 0],[r53],vp [va [vi 6,vu 0],vi 0],[]⟩,⟨69,[va [vi 3,vi 2,vr 0 0 13 9223372036854775808],vi 62,vu 2],[r15],vp [va [vi 0,vu 0],vi 7],[]⟩]
theorem d64_run (t : Nat → TypeId) : allL (deepOk Tryz.prog (ndOrc Tryz.prog (tabG t) (orcL (e0 ++ e24)) 274877906944 (d43 ++ d44) noCuts) (tabG t)) d64 = true := by kernel_rfl
noncomputable def c65_0_e : List Value × List VObj := ([va [vi 4,vi 3,vQ 11 0 29 9223372036854775808],vP 12 0,vz 0 0,vQ 13 0 65 9223372036854775808,vQ 14 0 65 65,vi 65,vi 29,vP 12 0,va [vi 4,vi 3],vQ 13 0 65 9223372036854775808,vQ 13 0 65 9223372036854775808,vi 65,vQ 14 0 65 65,vi 65,vQ 13 0 65 9223372036854775808,vi 65,vf,vi 64,vi 65,vi 29,vP 12 2,vQ 11 0 29 9223372036854775808,vi 29,vf,vi 28,vi 29,vP 12 2,vQ 11 0 29 9223372036854775808,vi 28,vP 11 84,vP 11 84,vi 21,vQ 13 0 65 9223372036854775808,vi 64,vP 13 128,vP 13 128,vi 46,vf,vf,vp [],vp [],vp [],vp [],vp [],vp [],vp [],vp [],vp [],vp [],vp [],vp [],vf,vQ 14 0 65 65,vi 32,vP 12 2,vQ 11 0 29 9223372036854775808,vi 28,vP 11 84,vP 11 86,vu 2,vP 14 32,vp []],[o0,o1,o2,o5])
noncomputable def c65_0_2 : CutE := ⟨28,62,0,321,5,39,12,[va [vi 4,vi 3,vQ 11 0 29 9223372036854775808],vP 12 0,vz 0 0,vQ 13 0 65 9223372036854775808,vQ 14 0 65 65,vi 39,vi 29,vP 12 0,va [vi 4,vi 3],vQ 13 0 65 9223372036854775808,vQ 13 0 65 9223372036854775808,vi 65,vQ 14 0 65 65,vi 38,vQ 13 0 65 9223372036854775808,vi 65,vt,vi 38,vi 39,vi 29,vP 12 2,vQ 11 0 29 9223372036854775808,vi 29,vf,vi 28,vi 29,vP 12 2,vQ 11 0 29 9223372036854775808,vi 28,vP 11 84,vP 11 84,vi 21,vQ 13 0 65 9223372036854775808,vi 38,vP 13 76,vP 13 76,vi 25,vf,vf,vp [],vp [],vp [],vp [],vp [],vp [],vp [],vp [],vp [],vp [],vp [],vp [],vf,vQ 14 0 65 65,vi 32,vP 12 2,vQ 11 0 29 9223372036854775808,vi 28,vP 11 84,vP 11 86,vu 2,vP 14 32,vp []],[o0,o1,o2,o5],[],.exit 0,c65_0_e.1,c65_0_e.2,[]⟩
theorem c65_0_2_run (t : Nat → TypeId) : allL (cutOk Tryz.prog (ndOrc Tryz.prog (tabG t) (orcL ([])) 536870912 (d38) noCuts) (tabG t)) [c65_0_2] = true := by kernel_rfl
noncomputable def c65_0_1 : CutE := ⟨28,62,0,321,5,13,12,[va [vi 4,vi 3,vQ 11 0 29 9223372036854775808],vP 12 0,vz 0 0,vQ 13 0 65 9223372036854775808,vQ 14 0 65 65,vi 13,vi 29,vP 12 0,va [vi 4,vi 3],vQ 13 0 65 9223372036854775808,vQ 13 0 65 9223372036854775808,vi 65,vQ 14 0 65 65,vi 12,vQ 13 0 65 9223372036854775808,vi 65,vt,vi 12,vi 13,vi 29,vP 12 2,vQ 11 0 29 9223372036854775808,vi 29,vf,vi 28,vi 29,vP 12 2,vQ 11 0 29 9223372036854775808,vi 28,vP 11 84,vP 11 84,vi 21,vQ 13 0 65 9223372036854775808,vi 12,vP 13 24,vP 13 24,vi 8,vf,vf,vp [],vp [],vp [],vp [],vp [],vp [],vp [],vp [],vp [],vp [],vp [],vp [],vf,vQ 14 0 65 65,vi 11,vP 12 2,vQ 11 0 29 9223372036854775808,vi 10,vP 11 30,vP 11 32,vu 1,vP 14 11,vp []],[o0,o1,o2,o4],[],.exit 0,c65_0_e.1,c65_0_e.2,[]⟩
theorem c65_0_1_run (t : Nat → TypeId) : allL (cutOk Tryz.prog (ndOrc Tryz.prog (tabG t) (orcL ([])) 536870912 (d38) (cutsL Tryz.prog (tabG t) [c65_0_2])) (tabG t)) [c65_0_1] = true := by kernel_rfl
noncomputable def c65_0_0 : CutE := ⟨28,62,0,321,5,1,12,[va [vi 4,vi 3,vQ 11 0 29 9223372036854775808],vP 12 0,vz 0 0,vQ 13 0 65 9223372036854775808,vQ 14 0 65 65,vi 1,vi 29,vP 12 0,va [vi 4,vi 3],vQ 13 0 65 9223372036854775808,vQ 13 0 65 9223372036854775808,vi 65,vQ 14 0 65 65,vi 0,vQ 13 0 65 9223372036854775808,vi 65,vt,vi 0,vi 1,vi 29,vP 12 2,vQ 11 0 29 9223372036854775808,vi 29,vf,vi 28,vi 29,vP 12 2,vQ 11 0 29 9223372036854775808,vi 28,vP 11 84,vP 11 84,vi 21,vQ 13 0 65 9223372036854775808,vi 0,vP 13 0,vP 13 0,vi 0,vf,vf,vp [],vp [],vp [],vp [],vp [],vp [],vp [],vp [],vp [],vp [],vp [],vp [],vf,vQ 14 0 65 65,vi 0,vP 12 2,vQ 11 0 29 9223372036854775808,vi 0,vP 11 0,vP 11 2,vu 3,vP 14 0,vp []],[o0,o1,o2,o3],[],.exit 0,c65_0_e.1,c65_0_e.2,[]⟩
theorem c65_0_0_run (t : Nat → TypeId) : allL (cutOk Tryz.prog (ndOrc Tryz.prog (tabG t) (orcL ([])) 536870912 (d38) (cutsL Tryz.prog (tabG t) [c65_0_1])) (tabG t)) [c65_0_0] = true := by kernel_rfl

noncomputable def d65 : List DeepE := [⟨28,[va [vi 4,vi 3,vr 0 0 29 9223372036854775808]],[r25],vr 1 0 65 65,[r203]⟩]
theorem d65_run (t : Nat → TypeId) : allL (deepOk Tryz.prog (ndOrc Tryz.prog (tabG t) (orcL ([])) 536870912 (d38) (cutsL Tryz.prog (tabG t) [c65_0_0])) (tabG t)) d65 = true := by kernel_rfl

end Go.Proofs.YtpieoofkikjjjaaGreatDoor
