/-
  Says: what calls answer, as the kernel runs them (level 5).
-/
import Derived.Test.YtcacabipfbbjlabGreatDoorKr
import Derived.Test.YtcacabipfbbjlabGreatDoorKa13
import Derived.KernelRfl
set_option maxRecDepth 1000000
set_option linter.unusedVariables false
set_option linter.unusedSimpArgs false
namespace Go.Proofs.YtcacabipfbbjlabGreatDoor
open Go Go.Vx
attribute [local instance] anySyms
noncomputable def c148_0_e : List Value × List VObj := ([va [vi 2,vi 4,vQ 5 0 12 9223372036854775808],vP 6 0,vz 0 0,vQ 7 0 42 9223372036854775808,vQ 8 0 42 42,vi 42,vi 12,vP 6 0,va [vi 2,vi 4],vQ 7 0 42 9223372036854775808,vQ 7 0 42 9223372036854775808,vi 42,vQ 8 0 42 42,vi 42,vQ 7 0 42 9223372036854775808,vi 42,vf,vi 41,vi 42,vi 12,vP 6 2,vQ 5 0 12 9223372036854775808,vi 12,vf,vi 11,vi 12,vP 6 2,vQ 5 0 12 9223372036854775808,vi 11,vP 5 33,vP 5 33,vi 26,vQ 7 0 42 9223372036854775808,vi 41,vP 7 82,vP 7 82,vi 30,vf,vf,vp [],vp [],vp [],vp [],vp [],vp [],vp [],vp [],vp [],vp [],vp [],vp [],vf,vQ 8 0 42 42,vi 37,vP 6 2,vQ 5 0 12 9223372036854775808,vi 11,vP 5 33,vP 5 35,vu 2,vP 8 37,vp []],[o11,o12,o13,o15])
noncomputable def c148_0_1 : CutE := ⟨19,62,0,321,5,10,6,[va [vi 2,vi 4,vQ 5 0 12 9223372036854775808],vP 6 0,vz 0 0,vQ 7 0 42 9223372036854775808,vQ 8 0 42 42,vi 10,vi 12,vP 6 0,va [vi 2,vi 4],vQ 7 0 42 9223372036854775808,vQ 7 0 42 9223372036854775808,vi 42,vQ 8 0 42 42,vi 9,vQ 7 0 42 9223372036854775808,vi 42,vt,vi 9,vi 10,vi 12,vP 6 2,vQ 5 0 12 9223372036854775808,vi 12,vf,vi 11,vi 12,vP 6 2,vQ 5 0 12 9223372036854775808,vi 11,vP 5 33,vP 5 33,vi 26,vQ 7 0 42 9223372036854775808,vi 9,vP 7 18,vP 7 18,vi 6,vf,vf,vp [],vp [],vp [],vp [],vp [],vp [],vp [],vp [],vp [],vp [],vp [],vp [],vf,vp [],vp [],vp [],vp [],vp [],vp [],vp [],vp [],vp [],vp []],[o11,o12,o13,o14],[],.exit 0,c148_0_e.1,c148_0_e.2,[]⟩
theorem c148_0_1_run (t : Nat → TypeId) : allL (cutOk Tryz.prog (deepOrc Tryz.prog (tabG t) (orcL ([])) 262144 (d85) noCuts) (tabG t)) [c148_0_1] = true := by kernel_rfl
noncomputable def c148_0_0 : CutE := ⟨19,62,0,321,5,1,6,[va [vi 2,vi 4,vQ 5 0 12 9223372036854775808],vP 6 0,vz 0 0,vQ 7 0 42 9223372036854775808,vQ 8 0 42 42,vi 1,vi 12,vP 6 0,va [vi 2,vi 4],vQ 7 0 42 9223372036854775808,vQ 7 0 42 9223372036854775808,vi 42,vQ 8 0 42 42,vi 0,vQ 7 0 42 9223372036854775808,vi 42,vt,vi 0,vi 1,vi 12,vP 6 2,vQ 5 0 12 9223372036854775808,vi 12,vf,vi 11,vi 12,vP 6 2,vQ 5 0 12 9223372036854775808,vi 11,vP 5 33,vP 5 33,vi 26,vQ 7 0 42 9223372036854775808,vi 0,vP 7 0,vP 7 0,vi 0,vf,vf,vp [],vp [],vp [],vp [],vp [],vp [],vp [],vp [],vp [],vp [],vp [],vp [],vf,vp [],vp [],vp [],vp [],vp [],vp [],vp [],vp [],vp [],vp []],[o11,o12,o13,o14],[],.exit 0,c148_0_e.1,c148_0_e.2,[]⟩
theorem c148_0_0_run (t : Nat → TypeId) : allL (cutOk Tryz.prog (deepOrc Tryz.prog (tabG t) (orcL ([])) 262144 (d85) (cutsL Tryz.prog (tabG t) [c148_0_1])) (tabG t)) [c148_0_0] = true := by kernel_rfl

noncomputable def d148 : List DeepE := [⟨19,[va [vi 2,vi 4,vr 0 0 12 9223372036854775808]],[r141],vr 1 0 42 42,[r269]⟩]
theorem d148_run (t : Nat → TypeId) : allL (deepOk Tryz.prog (deepOrc Tryz.prog (tabG t) (orcL ([])) 262144 (d85) (cutsL Tryz.prog (tabG t) [c148_0_0])) (tabG t)) d148 = true := by kernel_rfl

end Go.Proofs.YtcacabipfbbjlabGreatDoor
