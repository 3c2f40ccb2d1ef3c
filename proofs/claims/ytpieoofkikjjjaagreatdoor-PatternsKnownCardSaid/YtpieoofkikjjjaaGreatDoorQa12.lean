/-
  Says: what calls answer, as the kernel runs them (level 4).
-/
import Derived.Test.YtpieoofkikjjjaaGreatDoorQr
import Derived.Test.YtpieoofkikjjjaaGreatDoorQa5
import Derived.KernelRfl
set_option maxRecDepth 1000000
set_option linter.unusedVariables false
set_option linter.unusedSimpArgs false
namespace Go.Proofs.YtpieoofkikjjjaaGreatDoor
open Go Go.Vx
attribute [local instance] anySyms
noncomputable def c68_0_e : List Value × List VObj := ([va [vi 4,vi 4,vQ 11 0 25 9223372036854775808],vP 12 0,vi 0,vi 25,vQ 14 0 88 9223372036854775808,vi 32,vi 0,vi 25,vi 32,vi 88,vP 12 0,va [vi 4,vi 4],vi 1,vf,vi 25,vP 12 2,vQ 11 0 25 9223372036854775808,vi 25,vf,vi 24,vi 25,vP 12 2,vQ 11 0 25 9223372036854775808,vi 24,vP 11 72,vP 11 74,vu 2,vf,vf,vP 12 2,vQ 11 0 25 9223372036854775808,vi 24,vP 11 72,vP 11 74,vu 2,vf,vf,vP 12 0,va [vi 4,vi 4],vQ 14 0 88 9223372036854775808,vi 25,vP 12 2,vQ 11 0 25 9223372036854775808,vi 25,vf,vi 24,vi 25,vi 88,vQ 14 0 88 9223372036854775808,vi 88,vf,vi 87,vi 88,vQ 14 0 88 9223372036854775808,vi 87,vP 14 174,va [vi 62,vu 1],vP 12 2,vQ 11 0 25 9223372036854775808,vi 24,vP 11 72,vP 11 72,vi 21,vP 12 2,vQ 11 0 25 9223372036854775808,vi 24,vP 11 72,vP 11 73,vu 2,va [vi 21,vu 2],vf,vi 32,vi 32,vf,vi 32,vi 31,vf,vi 32,vp []],[o16,o17,o18,o8])
noncomputable def c68_0_1 : CutE := ⟨41,79,1,833,5,14,12,[va [vi 4,vi 4,vQ 11 0 25 9223372036854775808],vP 12 0,vi 0,vi 25,vQ 14 0 88 9223372036854775808,vi 14,vi 0,vi 13,vi 14,vi 88,vP 12 0,va [vi 4,vi 4],vi 1,vf,vi 25,vP 12 2,vQ 11 0 25 9223372036854775808,vi 25,vf,vi 24,vi 25,vP 12 2,vQ 11 0 25 9223372036854775808,vi 24,vP 11 72,vP 11 74,vu 2,vf,vf,vP 12 2,vQ 11 0 25 9223372036854775808,vi 24,vP 11 72,vP 11 74,vu 2,vf,vf,vP 12 0,va [vi 4,vi 4],vQ 14 0 88 9223372036854775808,vi 12,vP 12 2,vQ 11 0 25 9223372036854775808,vi 25,vt,vi 12,vi 13,vi 88,vQ 14 0 88 9223372036854775808,vi 88,vf,vi 87,vi 88,vQ 14 0 88 9223372036854775808,vi 87,vP 14 174,va [vi 62,vu 1],vP 12 2,vQ 11 0 25 9223372036854775808,vi 12,vP 11 36,vP 11 36,vi 9,vP 12 2,vQ 11 0 25 9223372036854775808,vi 12,vP 11 36,vP 11 37,vu 0,va [vi 9,vu 0],vf,vi 14,vi 14,vf,vi 14,vi 13,vf,vi 14,vp []],[o16,o17,o18,o8],[],.exit 2,c68_0_e.1,c68_0_e.2,[]⟩
theorem c68_0_1_run (t : Nat → TypeId) : allL (cutOk Tryz.prog (ndOrc Tryz.prog (tabG t) (orcL ([])) 536870912 (d39) noCuts) (tabG t)) [c68_0_1] = true := by kernel_rfl
noncomputable def c68_0_0 : CutE := ⟨41,79,1,833,5,1,12,[va [vi 4,vi 4,vQ 11 0 25 9223372036854775808],vP 12 0,vi 0,vi 25,vQ 14 0 88 9223372036854775808,vi 1,vi 0,vi 1,vi 1,vi 88,vP 12 0,va [vi 4,vi 4],vi 1,vf,vi 25,vP 12 2,vQ 11 0 25 9223372036854775808,vi 25,vf,vi 24,vi 25,vP 12 2,vQ 11 0 25 9223372036854775808,vi 24,vP 11 72,vP 11 74,vu 2,vf,vf,vP 12 2,vQ 11 0 25 9223372036854775808,vi 24,vP 11 72,vP 11 74,vu 2,vf,vf,vP 12 0,va [vi 4,vi 4],vQ 14 0 88 9223372036854775808,vi 0,vP 12 2,vQ 11 0 25 9223372036854775808,vi 25,vt,vi 0,vi 1,vi 88,vQ 14 0 88 9223372036854775808,vi 88,vf,vi 87,vi 88,vQ 14 0 88 9223372036854775808,vi 87,vP 14 174,va [vi 62,vu 1],vP 12 2,vQ 11 0 25 9223372036854775808,vi 0,vP 11 0,vP 11 0,vi 0,vP 12 2,vQ 11 0 25 9223372036854775808,vi 0,vP 11 0,vP 11 1,vu 2,va [vi 0,vu 2],vf,vi 1,vi 1,vf,vi 1,vn 0,vf,vi 1,vp []],[o16,o17,o18,o8],[],.exit 2,c68_0_e.1,c68_0_e.2,[]⟩
theorem c68_0_0_run (t : Nat → TypeId) : allL (cutOk Tryz.prog (ndOrc Tryz.prog (tabG t) (orcL ([])) 536870912 (d39) (cutsL Tryz.prog (tabG t) [c68_0_1])) (tabG t)) [c68_0_0] = true := by kernel_rfl

noncomputable def d68 : List DeepE := [⟨41,[va [vi 4,vi 4,vr 0 0 25 9223372036854775808]],[r123],vi 0,[]⟩]
theorem d68_run (t : Nat → TypeId) : allL (deepOk Tryz.prog (ndOrc Tryz.prog (tabG t) (orcL ([])) 536870912 (d39) (cutsL Tryz.prog (tabG t) [c68_0_0])) (tabG t)) d68 = true := by kernel_rfl

end Go.Proofs.YtpieoofkikjjjaaGreatDoor
