/-
  Says: what calls answer, as the kernel runs them (level 5).
-/
import Derived.Test.YtcacabipfbbjlabGreatDoorKr
import Derived.Test.YtcacabipfbbjlabGreatDoorKa13
import Derived.KernelRfl
set_option maxRecDepth 1000000
set_option linter.unusedVariables false
set_option linter.unusedSimpArgs false
namespace Go.Proofs.YtcacabipfbbjlabGreatDoor
open Go Go.Vx
attribute [local instance] anySyms
noncomputable def c147_0_e : List Value × List VObj := ([va [vi 3,vi 4,vQ 5 0 6 9223372036854775808],vP 6 0,vz 0 0,vQ 7 0 65 9223372036854775808,vQ 8 0 65 65,vi 65,vi 6,vP 6 0,va [vi 3,vi 4],vQ 7 0 65 9223372036854775808,vQ 7 0 65 9223372036854775808,vi 65,vQ 8 0 65 65,vi 65,vQ 7 0 65 9223372036854775808,vi 65,vf,vi 64,vi 65,vi 6,vP 6 2,vQ 5 0 6 9223372036854775808,vi 6,vf,vi 5,vi 6,vP 6 2,vQ 5 0 6 9223372036854775808,vi 5,vP 5 15,vP 5 15,vi 10,vQ 7 0 65 9223372036854775808,vi 64,vP 7 128,vP 7 128,vi 46,vf,vf,vp [],vp [],vp [],vp [],vp [],vp [],vp [],vp [],vp [],vp [],vp [],vp [],vf,vQ 8 0 65 65,vi 16,vP 6 2,vQ 5 0 6 9223372036854775808,vi 5,vP 5 15,vP 5 17,vu 3,vP 8 16,vp []],[o6,o7,o8,o10])
noncomputable def c147_0_0 : CutE := ⟨19,62,0,321,5,1,6,[va [vi 3,vi 4,vQ 5 0 6 9223372036854775808],vP 6 0,vz 0 0,vQ 7 0 65 9223372036854775808,vQ 8 0 65 65,vi 1,vi 6,vP 6 0,va [vi 3,vi 4],vQ 7 0 65 9223372036854775808,vQ 7 0 65 9223372036854775808,vi 65,vQ 8 0 65 65,vi 0,vQ 7 0 65 9223372036854775808,vi 65,vt,vi 0,vi 1,vi 6,vP 6 2,vQ 5 0 6 9223372036854775808,vi 6,vf,vi 5,vi 6,vP 6 2,vQ 5 0 6 9223372036854775808,vi 5,vP 5 15,vP 5 15,vi 10,vQ 7 0 65 9223372036854775808,vi 0,vP 7 0,vP 7 0,vi 0,vf,vf,vp [],vp [],vp [],vp [],vp [],vp [],vp [],vp [],vp [],vp [],vp [],vp [],vf,vp [],vp [],vp [],vp [],vp [],vp [],vp [],vp [],vp [],vp []],[o6,o7,o8,o9],[],.exit 0,c147_0_e.1,c147_0_e.2,[]⟩
theorem c147_0_0_run (t : Nat → TypeId) : allL (cutOk Tryz.prog (deepOrc Tryz.prog (tabG t) (orcL ([])) 262144 (d86) noCuts) (tabG t)) [c147_0_0] = true := by kernel_rfl

noncomputable def d147 : List DeepE := [⟨19,[va [vi 3,vi 4,vr 0 0 6 9223372036854775808]],[r136],vr 1 0 65 65,[r312]⟩]
theorem d147_run (t : Nat → TypeId) : allL (deepOk Tryz.prog (deepOrc Tryz.prog (tabG t) (orcL ([])) 262144 (d86) (cutsL Tryz.prog (tabG t) [c147_0_0])) (tabG t)) d147 = true := by kernel_rfl

end Go.Proofs.YtcacabipfbbjlabGreatDoor
