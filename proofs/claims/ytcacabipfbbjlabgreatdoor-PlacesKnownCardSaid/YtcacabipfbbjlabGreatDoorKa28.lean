/-
  Says: what calls answer, as the kernel runs them (level 7).
-/
import Derived.Test.YtcacabipfbbjlabGreatDoorKr
import Derived.Test.YtcacabipfbbjlabGreatDoorKa0
import Derived.Test.YtcacabipfbbjlabGreatDoorKa1
import Derived.Test.YtcacabipfbbjlabGreatDoorKa10
import Derived.Test.YtcacabipfbbjlabGreatDoorKa11
import Derived.Test.YtcacabipfbbjlabGreatDoorKa13
import Derived.Test.YtcacabipfbbjlabGreatDoorKa16
import Derived.Test.YtcacabipfbbjlabGreatDoorKa2
import Derived.Test.YtcacabipfbbjlabGreatDoorKa24
import Derived.Test.YtcacabipfbbjlabGreatDoorKa25
import Derived.Test.YtcacabipfbbjlabGreatDoorKa26
import Derived.Test.YtcacabipfbbjlabGreatDoorKa27
import Derived.Test.YtcacabipfbbjlabGreatDoorKa4
import Derived.Test.YtcacabipfbbjlabGreatDoorKa6
import Derived.KernelRfl
set_option maxRecDepth 1000000
set_option linter.unusedVariables false
set_option linter.unusedSimpArgs false
namespace Go.Proofs.YtcacabipfbbjlabGreatDoor
open Go Go.Vx
attribute [local instance] anySyms

noncomputable def d174 : List DeepE := [⟨14,[va [vi 3,vi 1,vr 0 0 2 9223372036854775808]],[r123],vp [va [vi 0,vi 0],vf,vi 0],[]⟩,⟨14,[va [vi 4,vi 3,vr 0 0 2 9223372036854775808]],[r126],vp [va [vi 0,vi 0],vf,vi 0],[]⟩,⟨17,[va [vi 2,vi 4,vr 0 0 6 9223372036854775808],va [vu 1,vi 13,vi 9]],[r138],vt,[]⟩,⟨17,[va [vi 3,vi 3,vr 0 0 2 9223372036854775808],va [vu 2,vi 1,vi 3]],[r124],vt,[]⟩,⟨17,[va [vi 3,vi 4,vr 0 0 6 9223372036854775808],va [vu 6,vi 19,vi 7]],[r136],vt,[]⟩,⟨17,[va [vi 4,vi 2,vr 0 0 3 9223372036854775808],va [vu 3,vi 15,vi 3]],[r128],vt,[]⟩,⟨17,[va [vi 4,vi 4,vr 0 0 5 9223372036854775808],va [vu 7,vi 16,vi 8]],[r133],vt,[]⟩,⟨24,[va [vi 2,vi 2,vr 0 0 3 3],va [vu 0,vi 0,vi 0]],[r167],vp [vz 0 0,vi 11],[]⟩,⟨28,[va [vi 2,vi 2,vr 0 0 3 3],va [vi 2,vi 2]],[r167],vp [vf,vi 0],[]⟩,⟨28,[va [vi 2,vi 2,vr 0 0 6 6],va [vi 2,vi 2]],[r169],vp [vt,vi 0],[]⟩,⟨28,[va [vi 2,vi 2,vr 0 0 8 8],va [vi 2,vi 2]],[r170],vp [vt,vi 0],[]⟩,⟨36,[va [vi 2,vi 2,vr 0 0 4 4],va [vu 0,vi 0,vi 0]],[r208],vp [vi 4,vi 0],[]⟩,⟨46,[va [vi 1,vi 1,vz 0 0],va [vu 0,vi 1,vi 1]],[],vp [vr 0 0 4 4,vi 0],[r171]⟩,⟨46,[va [vi 1,vi 1,vz 0 0],va [vu 0,vi 4096,vi 0]],[],vp [vr 0 0 4 4,vi 0],[r147]⟩,⟨46,[va [vi 2,vi 2,vr 0 0 2 9223372036854775808],va [vu 5,vi 19,vi 5]],[r150],vp [vr 1 0 16 16,vi 0],[r151]⟩,⟨46,[va [vi 4,vi 2,vr 0 0 2 9223372036854775808],va [vu 3,vi 15,vi 3]],[r125],vp [vr 1 0 32 32,vi 0],[r156]⟩,⟨46,[va [vi 2,vi 4,vr 0 0 12 9223372036854775808],va [vu 1,vi 13,vi 9]],[r141],vp [vr 1 0 32 32,vi 0],[r155]⟩,⟨46,[va [vi 3,vi 3,vr 0 0 6 9223372036854775808],va [vu 6,vi 19,vi 7]],[r135],vp [vr 1 0 36 36,vi 0],[r157]⟩,⟨46,[va [vi 4,vi 3,vr 0 0 2 9223372036854775808],va [vu 7,vi 16,vi 8]],[r126],vp [vr 1 0 48 48,vi 0],[r154]⟩]
theorem d174_run (t : Nat → TypeId) : allL (deepOk Tryz.prog (deepOrc Tryz.prog (tabG t) (orcL (e0 ++ e7 ++ e12 ++ e28 ++ e29 ++ e30 ++ e38 ++ e75 ++ e76)) 9223543560970698752 (d20 ++ d64 ++ d65 ++ d66 ++ d67 ++ d68 ++ d69 ++ d77 ++ d78 ++ d89 ++ d112 ++ d158 ++ d159 ++ d161 ++ d162 ++ d164 ++ d165 ++ d166 ++ d167 ++ d168 ++ d169 ++ d170 ++ d172 ++ d173) noCuts) (tabG t)) d174 = true := by kernel_rfl

end Go.Proofs.YtcacabipfbbjlabGreatDoor
