/-
  Says: what calls answer, as the kernel runs them (level 3).
-/
import Derived.Test.YtcacabipfbbjlabGreatDoorKr
import Derived.Test.YtcacabipfbbjlabGreatDoorKa0
import Derived.Test.YtcacabipfbbjlabGreatDoorKa1
import Derived.Test.YtcacabipfbbjlabGreatDoorKa10
import Derived.Test.YtcacabipfbbjlabGreatDoorKa3
import Derived.Test.YtcacabipfbbjlabGreatDoorKa4
import Derived.Test.YtcacabipfbbjlabGreatDoorKa6
import Derived.Test.YtcacabipfbbjlabGreatDoorKa7
import Derived.Test.YtcacabipfbbjlabGreatDoorKa9
import Derived.KernelRfl
set_option maxRecDepth 1000000
set_option linter.unusedVariables false
set_option linter.unusedSimpArgs false
namespace Go.Proofs.YtcacabipfbbjlabGreatDoor
open Go Go.Vx
attribute [local instance] anySyms

noncomputable def d79 : List DeepE := [⟨69,[vr 0 0 48 48],[r103],vp [vr 1 0 46 46,vi 0],[r20]⟩,⟨70,[va [vi 2,vi 1],vr 0 0 1 1],[r183],vp [va [vi 2,vi 1,vr 1 0 1 1],vi 0,vi 0],[r161]⟩,⟨70,[va [vi 1,vi 1],vr 0 0 1 1],[r184],vp [va [vi 1,vi 1,vr 1 0 2 2],vi 0,vi 0],[r122]⟩]
theorem d79_run (t : Nat → TypeId) : allL (deepOk Tryz.prog (deepOrc Tryz.prog (tabG t) (orcL (e8 ++ e9 ++ e10)) 7482888383134222941204153801148225856124269709230080 (d24 ++ d50 ++ d71) noCuts) (tabG t)) d79 = true := by kernel_rfl

noncomputable def d80 : List DeepE := [⟨79,[va [vi 1,vi 1,vr 0 0 1 9223372036854775808]],[r118],vp [vr 1 0 4 4,vt],[r185]⟩,⟨79,[va [vi 1,vi 2,vr 0 0 1 9223372036854775808]],[r119],vp [vr 1 0 8 8,vt],[r186]⟩,⟨79,[va [vi 2,vi 1,vr 0 0 1 9223372036854775808]],[r121],vp [vr 1 0 8 8,vt],[r187]⟩,⟨89,[va [vi 1,vi 4,vr 0 0 3 9223372036854775808],va [vi 1,vi 1]],[r131],vr 1 0 2 2,[r188]⟩,⟨100,[va [vi 2,vi 2],va [vu 1,vu 1,vi 1,vi 0,vi 4]],[],vp [vr 0 0 2 2,vi 0],[r189]⟩]
theorem d80_run (t : Nat → TypeId) : allL (deepOk Tryz.prog (valOrc (fun _ => false) (tabG t) (orcL (e6 ++ e7 ++ e11 ++ e12 ++ e14 ++ e28 ++ e29 ++ e38 ++ e39 ++ e40 ++ e43 ++ e44 ++ e61 ++ e63))) (tabG t)) d80 = true := by kernel_rfl

end Go.Proofs.YtcacabipfbbjlabGreatDoor
