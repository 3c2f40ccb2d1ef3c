/-
  Says: what calls answer, as the kernel runs them (level 5).
-/
import Derived.Test.YtcacabipfbbjlabGreatDoorKr
import Derived.Test.YtcacabipfbbjlabGreatDoorKa0
import Derived.Test.YtcacabipfbbjlabGreatDoorKa1
import Derived.Test.YtcacabipfbbjlabGreatDoorKa10
import Derived.Test.YtcacabipfbbjlabGreatDoorKa11
import Derived.Test.YtcacabipfbbjlabGreatDoorKa12
import Derived.Test.YtcacabipfbbjlabGreatDoorKa13
import Derived.Test.YtcacabipfbbjlabGreatDoorKa14
import Derived.Test.YtcacabipfbbjlabGreatDoorKa15
import Derived.Test.YtcacabipfbbjlabGreatDoorKa2
import Derived.Test.YtcacabipfbbjlabGreatDoorKa4
import Derived.Test.YtcacabipfbbjlabGreatDoorKa6
import Derived.Test.YtcacabipfbbjlabGreatDoorKa7
import Derived.Test.YtcacabipfbbjlabGreatDoorKa9
import Derived.KernelRfl
set_option maxRecDepth 1000000
set_option linter.unusedVariables false
set_option linter.unusedSimpArgs false
namespace Go.Proofs.YtcacabipfbbjlabGreatDoor
open Go Go.Vx
attribute [local instance] anySyms

noncomputable def d139 : List DeepE := [⟨44,[va [vi 2,vi 2,vr 0 0 2 9223372036854775808],va [vu 5,vi 19,vi 5]],[r150],vp [vr 1 0 16 16,vr 2 0 16 16,vi 0],[r151,r101]⟩]
theorem d139_run (t : Nat → TypeId) : allL (deepOk Tryz.prog (deepOrc Tryz.prog (tabG t) (orcL (e0 ++ e6 ++ e7 ++ e14 ++ e15 ++ e16 ++ e18 ++ e28 ++ e30 ++ e43 ++ e44 ++ e45 ++ e61 ++ e81)) 4398046511104 (d77) noCuts) (tabG t)) d139 = true := by kernel_rfl

noncomputable def d140 : List DeepE := [⟨44,[va [vi 2,vi 2,vr 0 0 2 2],va [vu 2,vi 8,vi 24]],[r297],vp [vr 1 0 16 16,vr 2 0 16 16,vi 0],[r298,r299]⟩]
theorem d140_run (t : Nat → TypeId) : allL (deepOk Tryz.prog (valOrc (fun _ => false) (tabG t) (orcL (e6 ++ e7 ++ e14 ++ e15 ++ e16 ++ e17 ++ e19 ++ e28 ++ e29 ++ e30 ++ e43 ++ e44 ++ e45 ++ e61 ++ e81))) (tabG t)) d140 = true := by kernel_rfl

noncomputable def d141 : List DeepE := [⟨44,[va [vi 4,vi 2,vr 0 0 2 9223372036854775808],va [vu 3,vi 15,vi 3]],[r125],vp [vr 1 0 32 32,vr 2 0 32 32,vi 0],[r156,r115]⟩]
theorem d141_run (t : Nat → TypeId) : allL (deepOk Tryz.prog (deepOrc Tryz.prog (tabG t) (orcL (e0 ++ e11 ++ e14 ++ e15 ++ e16 ++ e17 ++ e18 ++ e45)) 604462909811712633864192 (d64 ++ d96) noCuts) (tabG t)) d141 = true := by kernel_rfl

noncomputable def d142 : List DeepE := [⟨44,[va [vi 4,vi 2,vr 0 0 2 2],va [vu 2,vi 6,vn 9]],[r219],vp [vr 1 0 32 32,vr 2 0 32 32,vi 0],[r300,r301]⟩]
theorem d142_run (t : Nat → TypeId) : allL (deepOk Tryz.prog (deepOrc Tryz.prog (tabG t) (orcL (e7 ++ e11 ++ e14 ++ e15 ++ e16 ++ e17 ++ e18 ++ e29 ++ e30 ++ e41 ++ e44 ++ e45)) 604462909807314587353088 (d95) noCuts) (tabG t)) d142 = true := by kernel_rfl

noncomputable def d143 : List DeepE := [⟨44,[va [vi 3,vi 3,vr 0 0 6 9223372036854775808],va [vu 6,vi 19,vi 7]],[r135],vp [vr 1 0 36 36,vr 2 0 36 36,vi 0],[r157,r102]⟩]
theorem d143_run (t : Nat → TypeId) : allL (deepOk Tryz.prog (deepOrc Tryz.prog (tabG t) (orcL (e0 ++ e11 ++ e14 ++ e15 ++ e16 ++ e17 ++ e18 ++ e44 ++ e45)) 604462909811712633864192 (d64 ++ d102) noCuts) (tabG t)) d143 = true := by kernel_rfl

noncomputable def d144 : List DeepE := [⟨44,[va [vi 3,vi 3,vr 0 0 6 6],va [vu 1,vi 10,vi 24]],[r224],vp [vr 1 0 36 36,vr 2 0 36 36,vi 0],[r302,r303]⟩,⟨63,[va [vi 2,vi 4,vr 0 0 6 9223372036854775808],va [vi 2,vi 4]],[r138],vp [vr 1 0 2 2,vi 0],[r206]⟩,⟨63,[va [vi 4,vi 3,vr 0 0 2 9223372036854775808],va [vi 1,vi 1]],[r126],vp [vr 1 0 2 2,vi 0],[r227]⟩,⟨63,[va [vi 3,vi 1,vr 0 0 2 9223372036854775808],va [vi 3,vi 1]],[r123],vp [vr 1 0 2 2,vi 0],[r227]⟩,⟨63,[va [vi 2,vi 2,vr 0 0 3 3],va [vi 1,vi 1]],[r167],vp [vz 0 0,vi 0],[]⟩]
theorem d144_run (t : Nat → TypeId) : allL (deepOk Tryz.prog (deepOrc Tryz.prog (tabG t) (orcL (e7 ++ e11 ++ e12 ++ e14 ++ e15 ++ e16 ++ e17 ++ e18 ++ e19 ++ e29 ++ e30 ++ e38 ++ e41 ++ e44 ++ e45 ++ e61 ++ e81)) 619574482552510646176448512 (d20 ++ d64 ++ d77 ++ d101 ++ d104 ++ d105) noCuts) (tabG t)) d144 = true := by kernel_rfl

noncomputable def d145 : List DeepE := [⟨70,[va [vi 2,vi 2],vr 0 0 3 3],[r304],vp [va [vi 2,vi 2,vr 1 0 6 6],vi 0,vi 0],[r169]⟩,⟨70,[va [vi 2,vi 2],vr 0 0 2 2],[r305],vp [va [vi 2,vi 2,vr 1 0 8 8],vi 0,vi 0],[r170]⟩,⟨79,[va [vi 2,vi 2,vr 0 0 3 3]],[r167],vp [vr 1 0 16 16,vt],[r306]⟩,⟨79,[va [vi 2,vi 2,vr 0 0 4 4]],[r208],vp [vr 1 0 16 16,vf],[r307]⟩,⟨89,[va [vi 2,vi 2,vr 0 0 3 3],va [vi 2,vi 2]],[r167],vr 1 0 3 3,[r308]⟩,⟨89,[va [vi 2,vi 2,vr 0 0 6 6],va [vi 2,vi 2]],[r169],vr 1 0 4 4,[r309]⟩,⟨89,[va [vi 2,vi 2,vr 0 0 8 8],va [vi 2,vi 2]],[r170],vr 1 0 4 4,[r310]⟩]
theorem d145_run (t : Nat → TypeId) : allL (deepOk Tryz.prog (deepOrc Tryz.prog (tabG t) (orcL (e6 ++ e7 ++ e10 ++ e11 ++ e12 ++ e14 ++ e28 ++ e29 ++ e30 ++ e61 ++ e76 ++ e81)) 1267650600228229401496703205376 (d80 ++ d105) noCuts) (tabG t)) d145 = true := by kernel_rfl
noncomputable def c146_0_e : List Value × List VObj := ([va [vi 4,vi 4,vQ 5 0 5 9223372036854775808],vP 6 0,vz 0 0,vQ 7 0 88 9223372036854775808,vQ 8 0 88 88,vi 88,vi 5,vP 6 0,va [vi 4,vi 4],vQ 7 0 88 9223372036854775808,vQ 7 0 88 9223372036854775808,vi 88,vQ 8 0 88 88,vi 88,vQ 7 0 88 9223372036854775808,vi 88,vf,vi 87,vi 88,vi 5,vP 6 2,vQ 5 0 5 9223372036854775808,vi 5,vf,vi 4,vi 5,vP 6 2,vQ 5 0 5 9223372036854775808,vi 4,vP 5 12,vP 5 12,vi 12,vQ 7 0 88 9223372036854775808,vi 87,vP 7 174,vP 7 174,vi 62,vf,vf,vp [],vp [],vp [],vp [],vp [],vp [],vp [],vp [],vp [],vp [],vp [],vp [],vf,vQ 8 0 88 88,vi 19,vP 6 2,vQ 5 0 5 9223372036854775808,vi 4,vP 5 12,vP 5 14,vu 2,vP 8 19,vp []],[o0,o1,o2,o4])
noncomputable def c146_0_1 : CutE := ⟨19,62,0,321,5,12,6,[va [vi 4,vi 4,vQ 5 0 5 9223372036854775808],vP 6 0,vz 0 0,vQ 7 0 88 9223372036854775808,vQ 8 0 88 88,vi 12,vi 5,vP 6 0,va [vi 4,vi 4],vQ 7 0 88 9223372036854775808,vQ 7 0 88 9223372036854775808,vi 88,vQ 8 0 88 88,vi 11,vQ 7 0 88 9223372036854775808,vi 88,vt,vi 11,vi 12,vi 5,vP 6 2,vQ 5 0 5 9223372036854775808,vi 5,vf,vi 4,vi 5,vP 6 2,vQ 5 0 5 9223372036854775808,vi 4,vP 5 12,vP 5 12,vi 12,vQ 7 0 88 9223372036854775808,vi 11,vP 7 22,vP 7 22,vi 6,vf,vf,vp [],vp [],vp [],vp [],vp [],vp [],vp [],vp [],vp [],vp [],vp [],vp [],vf,vQ 8 0 88 88,vi 10,vP 6 2,vQ 5 0 5 9223372036854775808,vi 2,vP 5 6,vP 5 8,vu 2,vP 8 10,vp []],[o0,o1,o2,o3],[],.exit 0,c146_0_e.1,c146_0_e.2,[]⟩
theorem c146_0_1_run (t : Nat → TypeId) : allL (cutOk Tryz.prog (deepOrc Tryz.prog (tabG t) (orcL ([])) 262144 (d88) noCuts) (tabG t)) [c146_0_1] = true := by kernel_rfl
noncomputable def c146_0_0 : CutE := ⟨19,62,0,321,5,1,6,[va [vi 4,vi 4,vQ 5 0 5 9223372036854775808],vP 6 0,vz 0 0,vQ 7 0 88 9223372036854775808,vQ 8 0 88 88,vi 1,vi 5,vP 6 0,va [vi 4,vi 4],vQ 7 0 88 9223372036854775808,vQ 7 0 88 9223372036854775808,vi 88,vQ 8 0 88 88,vi 0,vQ 7 0 88 9223372036854775808,vi 88,vt,vi 0,vi 1,vi 5,vP 6 2,vQ 5 0 5 9223372036854775808,vi 5,vf,vi 4,vi 5,vP 6 2,vQ 5 0 5 9223372036854775808,vi 4,vP 5 12,vP 5 12,vi 12,vQ 7 0 88 9223372036854775808,vi 0,vP 7 0,vP 7 0,vi 0,vf,vf,vp [],vp [],vp [],vp [],vp [],vp [],vp [],vp [],vp [],vp [],vp [],vp [],vf,vp [],vp [],vp [],vp [],vp [],vp [],vp [],vp [],vp [],vp []],[o0,o1,o2,o5],[],.exit 0,c146_0_e.1,c146_0_e.2,[]⟩
theorem c146_0_0_run (t : Nat → TypeId) : allL (cutOk Tryz.prog (deepOrc Tryz.prog (tabG t) (orcL ([])) 262144 (d88) (cutsL Tryz.prog (tabG t) [c146_0_1])) (tabG t)) [c146_0_0] = true := by kernel_rfl

noncomputable def d146 : List DeepE := [⟨19,[va [vi 4,vi 4,vr 0 0 5 9223372036854775808]],[r133],vr 1 0 88 88,[r311]⟩]
theorem d146_run (t : Nat → TypeId) : allL (deepOk Tryz.prog (deepOrc Tryz.prog (tabG t) (orcL ([])) 262144 (d88) (cutsL Tryz.prog (tabG t) [c146_0_0])) (tabG t)) d146 = true := by kernel_rfl

end Go.Proofs.YtcacabipfbbjlabGreatDoor
