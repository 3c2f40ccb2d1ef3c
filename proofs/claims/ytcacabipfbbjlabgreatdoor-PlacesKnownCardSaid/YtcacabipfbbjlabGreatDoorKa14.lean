/-
  Says: what calls answer, as the kernel runs them (level 4).
-/
import Derived.Test.YtcacabipfbbjlabGreatDoorKr
import Derived.Test.YtcacabipfbbjlabGreatDoorKa0
import Derived.Test.YtcacabipfbbjlabGreatDoorKa1
import Derived.Test.YtcacabipfbbjlabGreatDoorKa10
import Derived.Test.YtcacabipfbbjlabGreatDoorKa11
import Derived.Test.YtcacabipfbbjlabGreatDoorKa12
import Derived.Test.YtcacabipfbbjlabGreatDoorKa2
import Derived.Test.YtcacabipfbbjlabGreatDoorKa4
import Derived.Test.YtcacabipfbbjlabGreatDoorKa6
import Derived.Test.YtcacabipfbbjlabGreatDoorKa7
import Derived.Test.YtcacabipfbbjlabGreatDoorKa9
import Derived.KernelRfl
set_option maxRecDepth 1000000
set_option linter.unusedVariables false
set_option linter.unusedSimpArgs false
namespace Go.Proofs.YtcacabipfbbjlabGreatDoor
open Go Go.Vx
attribute [local instance] anySyms

noncomputable def d90 : List DeepE := [⟨44,[va [vi 1,vi 3,vr 0 0 6 9223372036854775808],va [vu 0,vi 7,vi 9]],[r134],vp [vr 1 0 12 12,vr 2 0 12 12,vi 0],[r181,r182]⟩]
theorem d90_run (t : Nat → TypeId) : allL (deepOk Tryz.prog (deepOrc Tryz.prog (tabG t) (orcL (e0 ++ e7 ++ e10 ++ e14 ++ e16 ++ e18 ++ e28 ++ e30 ++ e39 ++ e40 ++ e43 ++ e44 ++ e45 ++ e61 ++ e76)) 4398046511104 (d64) noCuts) (tabG t)) d90 = true := by kernel_rfl

noncomputable def d91 : List DeepE := [⟨44,[va [vi 3,vi 1,vr 0 0 2 9223372036854775808],va [vu 2,vi 1,vi 3]],[r123],vp [vr 1 0 12 12,vr 2 0 12 12,vi 0],[r179,r180]⟩]
theorem d91_run (t : Nat → TypeId) : allL (deepOk Tryz.prog (deepOrc Tryz.prog (tabG t) (orcL (e0 ++ e7 ++ e10 ++ e11 ++ e14 ++ e15 ++ e16 ++ e17 ++ e19 ++ e28 ++ e29 ++ e30 ++ e39 ++ e40 ++ e41 ++ e44 ++ e45 ++ e76)) 4398046511104 (d64) noCuts) (tabG t)) d91 = true := by kernel_rfl

noncomputable def d92 : List DeepE := [⟨44,[va [vi 3,vi 1,vr 0 0 2 2],va [vu 3,vi 0,vi 6]],[r209],vp [vr 1 0 12 12,vr 2 0 12 12,vi 0],[r210,r211]⟩]
theorem d92_run (t : Nat → TypeId) : allL (deepOk Tryz.prog (valOrc (fun _ => false) (tabG t) (orcL (e7 ++ e10 ++ e11 ++ e14 ++ e15 ++ e16 ++ e17 ++ e18 ++ e28 ++ e29 ++ e30 ++ e39 ++ e40 ++ e41 ++ e44 ++ e45 ++ e76))) (tabG t)) d92 = true := by kernel_rfl

noncomputable def d93 : List DeepE := [⟨44,[va [vi 1,vi 3,vr 0 0 6 6],va [vu 3,vi 12,vn 1]],[r212],vp [vr 1 0 12 12,vr 2 0 12 12,vi 0],[r213,r214]⟩,⟨63,[va [vi 1,vi 4,vr 0 0 3 9223372036854775808],va [vi 1,vi 1]],[r131],vp [vr 1 0 2 2,vi 0],[r188]⟩,⟨63,[va [vi 4,vi 3,vr 0 0 2 9223372036854775808],va [vi 7,vi 5]],[r126],vp [vz 0 0,vi 0],[]⟩,⟨63,[va [vi 4,vi 3,vr 0 0 2 9223372036854775808],va [vi 5,vi 5]],[r126],vp [vz 0 0,vi 0],[]⟩,⟨63,[va [vi 4,vi 2,vr 0 0 2 9223372036854775808],va [vi 1,vi 3]],[r125],vp [vr 1 0 2 2,vi 0],[r215]⟩,⟨63,[va [vi 4,vi 4,vr 0 0 5 9223372036854775808],va [vi 6,vi 6]],[r133],vp [vz 0 0,vi 0],[]⟩,⟨63,[va [vi 4,vi 4,vr 0 0 5 9223372036854775808],va [vi 7,vi 7]],[r133],vp [vz 0 0,vi 0],[]⟩,⟨70,[va [vi 2,vi 2],vr 0 0 2 2],[r216],vp [va [vi 2,vi 2,vr 1 0 3 3],vi 0,vi 0],[r167]⟩,⟨79,[va [vi 3,vi 1,vr 0 0 3 9223372036854775808]],[r127],vp [vr 1 0 12 12,vt],[r217]⟩]
theorem d93_run (t : Nat → TypeId) : allL (deepOk Tryz.prog (deepOrc Tryz.prog (tabG t) (orcL (e6 ++ e7 ++ e10 ++ e11 ++ e12 ++ e14 ++ e17 ++ e18 ++ e28 ++ e29 ++ e30 ++ e38 ++ e39 ++ e40 ++ e44 ++ e45 ++ e63 ++ e75 ++ e76)) 1268269570247872104828292300800 (d20 ++ d64 ++ d80) noCuts) (tabG t)) d93 = true := by kernel_rfl

noncomputable def d94 : List DeepE := [⟨79,[va [vi 4,vi 2,vr 0 0 3 9223372036854775808]],[r129],vp [vr 1 0 32 32,vt],[r218]⟩]
theorem d94_run (t : Nat → TypeId) : allL (deepOk Tryz.prog (valOrc (fun _ => false) (tabG t) (orcL (e6 ++ e7 ++ e28 ++ e29 ++ e39 ++ e41 ++ e42 ++ e63 ++ e76))) (tabG t)) d94 = true := by kernel_rfl

noncomputable def d95 : List DeepE := [⟨79,[va [vi 4,vi 2,vr 0 0 2 2]],[r219],vp [vr 1 0 32 32,vf],[r220]⟩]
theorem d95_run (t : Nat → TypeId) : allL (deepOk Tryz.prog (valOrc (fun _ => false) (tabG t) (orcL (e7 ++ e28 ++ e29 ++ e39 ++ e41 ++ e42 ++ e76))) (tabG t)) d95 = true := by kernel_rfl

noncomputable def d96 : List DeepE := [⟨79,[va [vi 4,vi 2,vr 0 0 2 9223372036854775808]],[r125],vp [vr 1 0 32 32,vf],[r220]⟩]
theorem d96_run (t : Nat → TypeId) : allL (deepOk Tryz.prog (valOrc (fun _ => false) (tabG t) (orcL (e7 ++ e28 ++ e29 ++ e39 ++ e41 ++ e42 ++ e76))) (tabG t)) d96 = true := by kernel_rfl

noncomputable def d97 : List DeepE := [⟨79,[va [vi 4,vi 3,vr 0 0 3 9223372036854775808]],[r130],vp [vr 1 0 48 48,vt],[r221]⟩]
theorem d97_run (t : Nat → TypeId) : allL (deepOk Tryz.prog (valOrc (fun _ => false) (tabG t) (orcL (e7 ++ e28 ++ e30 ++ e39 ++ e42 ++ e43 ++ e63 ++ e76))) (tabG t)) d97 = true := by kernel_rfl

noncomputable def d98 : List DeepE := [⟨79,[va [vi 2,vi 4,vr 0 0 12 12]],[r140],vp [vr 1 0 32 32,vf],[r222]⟩]
theorem d98_run (t : Nat → TypeId) : allL (deepOk Tryz.prog (valOrc (fun _ => false) (tabG t) (orcL (e7 ++ e28 ++ e29 ++ e30 ++ e39 ++ e40 ++ e43 ++ e76))) (tabG t)) d98 = true := by kernel_rfl

noncomputable def d99 : List DeepE := [⟨79,[va [vi 2,vi 4,vr 0 0 12 9223372036854775808]],[r141],vp [vr 1 0 32 32,vf],[r222]⟩]
theorem d99_run (t : Nat → TypeId) : allL (deepOk Tryz.prog (valOrc (fun _ => false) (tabG t) (orcL (e7 ++ e28 ++ e29 ++ e30 ++ e39 ++ e40 ++ e43 ++ e76))) (tabG t)) d99 = true := by kernel_rfl

end Go.Proofs.YtcacabipfbbjlabGreatDoor
