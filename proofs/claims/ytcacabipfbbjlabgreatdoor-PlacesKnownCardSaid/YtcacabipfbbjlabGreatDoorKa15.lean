/-
  Says: what calls answer, as the kernel runs them (level 4).
-/
import Derived.Test.YtcacabipfbbjlabGreatDoorKr
import Derived.Test.YtcacabipfbbjlabGreatDoorKa0
import Derived.Test.YtcacabipfbbjlabGreatDoorKa1
import Derived.Test.YtcacabipfbbjlabGreatDoorKa11
import Derived.Test.YtcacabipfbbjlabGreatDoorKa4
import Derived.Test.YtcacabipfbbjlabGreatDoorKa6
import Derived.Test.YtcacabipfbbjlabGreatDoorKa9
import Derived.KernelRfl
set_option maxRecDepth 1000000
set_option linter.unusedVariables false
set_option linter.unusedSimpArgs false
namespace Go.Proofs.YtcacabipfbbjlabGreatDoor
open Go Go.Vx
attribute [local instance] anySyms

noncomputable def d100 : List DeepE := [⟨79,[va [vi 3,vi 3,vr 0 0 7 9223372036854775808]],[r137],vp [vr 1 0 36 36,vt],[r223]⟩]
theorem d100_run (t : Nat → TypeId) : allL (deepOk Tryz.prog (valOrc (fun _ => false) (tabG t) (orcL (e6 ++ e7 ++ e28 ++ e29 ++ e30 ++ e39 ++ e41 ++ e63 ++ e76))) (tabG t)) d100 = true := by kernel_rfl

noncomputable def d101 : List DeepE := [⟨79,[va [vi 3,vi 3,vr 0 0 6 6]],[r224],vp [vr 1 0 36 36,vf],[r225]⟩]
theorem d101_run (t : Nat → TypeId) : allL (deepOk Tryz.prog (valOrc (fun _ => false) (tabG t) (orcL (e7 ++ e28 ++ e29 ++ e30 ++ e39 ++ e41 ++ e76))) (tabG t)) d101 = true := by kernel_rfl

noncomputable def d102 : List DeepE := [⟨79,[va [vi 3,vi 3,vr 0 0 6 9223372036854775808]],[r135],vp [vr 1 0 36 36,vf],[r225]⟩]
theorem d102_run (t : Nat → TypeId) : allL (deepOk Tryz.prog (valOrc (fun _ => false) (tabG t) (orcL (e7 ++ e28 ++ e29 ++ e30 ++ e39 ++ e41 ++ e76))) (tabG t)) d102 = true := by kernel_rfl

noncomputable def d103 : List DeepE := [⟨79,[va [vi 4,vi 3,vr 0 0 2 2]],[r122],vp [vr 1 0 48 48,vf],[r226]⟩]
theorem d103_run (t : Nat → TypeId) : allL (deepOk Tryz.prog (valOrc (fun _ => false) (tabG t) (orcL (e7 ++ e28 ++ e30 ++ e39 ++ e42 ++ e43 ++ e76))) (tabG t)) d103 = true := by kernel_rfl

noncomputable def d104 : List DeepE := [⟨79,[va [vi 4,vi 3,vr 0 0 2 9223372036854775808]],[r126],vp [vr 1 0 48 48,vf],[r226]⟩,⟨89,[va [vi 4,vi 3,vr 0 0 2 9223372036854775808],va [vi 1,vi 1]],[r126],vr 1 0 2 2,[r227]⟩]
theorem d104_run (t : Nat → TypeId) : allL (deepOk Tryz.prog (valOrc (fun _ => false) (tabG t) (orcL (e7 ++ e11 ++ e12 ++ e28 ++ e30 ++ e39 ++ e42 ++ e43 ++ e75 ++ e76))) (tabG t)) d104 = true := by kernel_rfl

noncomputable def d105 : List DeepE := [⟨89,[va [vi 3,vi 1,vr 0 0 2 9223372036854775808],va [vi 3,vi 1]],[r123],vr 1 0 2 2,[r227]⟩,⟨89,[va [vi 2,vi 4,vr 0 0 6 9223372036854775808],va [vi 2,vi 4]],[r138],vr 1 0 2 2,[r206]⟩,⟨100,[va [vi 2,vi 2],va [vu 1,vu 3,vi 2,vi 2,vi 4]],[],vp [vr 0 0 2 2,vi 0],[r228]⟩,⟨100,[va [vi 2,vi 2],va [vu 1,vu 4,vi 0,vi 0,vi 2]],[],vp [vr 0 0 2 2,vi 0],[r229]⟩,⟨100,[va [vi 2,vi 2],va [vu 1,vu 4,vi 0,vi 0,vi 4]],[],vp [vr 0 0 4 4,vi 0],[r230]⟩,⟨100,[va [vi 2,vi 2],va [vu 1,vu 3,vi 2,vi 0,vi 4]],[],vp [vr 0 0 4 4,vi 0],[r231]⟩]
theorem d105_run (t : Nat → TypeId) : allL (deepOk Tryz.prog (valOrc (fun _ => false) (tabG t) (orcL (e6 ++ e11 ++ e43 ++ e61 ++ e75 ++ e76))) (tabG t)) d105 = true := by kernel_rfl

end Go.Proofs.YtcacabipfbbjlabGreatDoor
