/-
  Says: what calls answer, as the kernel runs them (level 6).
-/
import Derived.Test.YtcacabipfbbjlabGreatDoorKr
import Derived.Test.YtcacabipfbbjlabGreatDoorKa0
import Derived.Test.YtcacabipfbbjlabGreatDoorKa11
import Derived.Test.YtcacabipfbbjlabGreatDoorKa13
import Derived.Test.YtcacabipfbbjlabGreatDoorKa16
import Derived.Test.YtcacabipfbbjlabGreatDoorKa2
import Derived.Test.YtcacabipfbbjlabGreatDoorKa22
import Derived.Test.YtcacabipfbbjlabGreatDoorKa5
import Derived.Test.YtcacabipfbbjlabGreatDoorKa6
import Derived.Test.YtcacabipfbbjlabGreatDoorKa8
import Derived.Test.YtcacabipfbbjlabGreatDoorKa9
import Derived.KernelRfl
set_option maxRecDepth 1000000
set_option linter.unusedVariables false
set_option linter.unusedSimpArgs false
namespace Go.Proofs.YtcacabipfbbjlabGreatDoor
open Go Go.Vx
attribute [local instance] anySyms

noncomputable def d158 : List DeepE := [⟨25,[va [vi 1,vi 1,vz 0 0],va [vu 0,vi 0,vi 0]],[],vp [vr 0 0 4 4,vi 1],[r158]⟩,⟨25,[va [vi 1,vi 1,vz 0 0],va [vu 0,vi 1,vi 1]],[],vp [vr 0 0 4 4,vi 1],[r171]⟩,⟨25,[va [vi 1,vi 1,vz 0 0],va [vu 0,vi 4096,vi 0]],[],vp [vr 0 0 4 4,vi 1],[r147]⟩,⟨25,[va [vi 1,vi 2,vz 0 0],va [vu 0,vi 0,vi 0]],[],vp [vr 0 0 8 8,vi 1],[r160]⟩,⟨25,[va [vi 2,vi 1,vr 0 0 1 9223372036854775808],va [vu 0,vi 0,vi 0]],[r120],vp [vz 0 0,vi 0],[]⟩,⟨25,[va [vi 1,vi 4,vr 0 0 3 9223372036854775808],va [vu 0,vi 0,vi 0]],[r131],vp [vz 0 0,vi 0],[]⟩,⟨25,[va [vi 2,vi 2,vr 0 0 1 9223372036854775808],va [vu 0,vi 0,vi 0]],[r166],vp [vz 0 0,vi 0],[]⟩]
theorem d158_run (t : Nat → TypeId) : allL (deepOk Tryz.prog (deepOrc Tryz.prog (tabG t) (orcL (e7 ++ e31 ++ e34 ++ e52 ++ e58 ++ e72 ++ e74)) 1152921504607633408 (d20 ++ d83 ++ d84 ++ d108 ++ d109) noCuts) (tabG t)) d158 = true := by kernel_rfl

noncomputable def d159 : List DeepE := [⟨25,[va [vi 2,vi 2,vr 0 0 2 9223372036854775808],va [vu 5,vi 19,vi 5]],[r150],vp [vr 1 0 16 16,vi 1],[r151]⟩,⟨25,[va [vi 2,vi 4,vr 0 0 6 9223372036854775808],va [vu 0,vi 0,vi 0]],[r138],vp [vz 0 0,vi 0],[]⟩]
theorem d159_run (t : Nat → TypeId) : allL (deepOk Tryz.prog (deepOrc Tryz.prog (tabG t) (orcL (e6 ++ e7 ++ e8 ++ e31 ++ e34 ++ e38 ++ e52 ++ e58 ++ e72 ++ e74)) 1152921504607633408 (d20 ++ d84 ++ d85 ++ d108 ++ d111) noCuts) (tabG t)) d159 = true := by kernel_rfl

noncomputable def d160 : List DeepE := [⟨25,[va [vi 3,vi 3,vr 0 0 2 9223372036854775808],va [vu 0,vi 0,vi 0]],[r124],vp [vz 0 0,vi 0],[]⟩]
theorem d160_run (t : Nat → TypeId) : allL (deepOk Tryz.prog (deepOrc Tryz.prog (tabG t) (orcL (e52 ++ e72 ++ e73 ++ e74)) 1152921504607633408 (d20 ++ d86 ++ d109) noCuts) (tabG t)) d160 = true := by kernel_rfl

noncomputable def d161 : List DeepE := [⟨25,[va [vi 3,vi 3,vr 0 0 2 9223372036854775808],va [vu 2,vi 1,vi 3]],[r124],vp [vz 0 0,vi 0],[]⟩]
theorem d161_run (t : Nat → TypeId) : allL (deepOk Tryz.prog (deepOrc Tryz.prog (tabG t) (orcL (e52 ++ e72 ++ e73 ++ e75)) 1152921504607633408 (d20 ++ d86 ++ d109) noCuts) (tabG t)) d161 = true := by kernel_rfl

noncomputable def d162 : List DeepE := [⟨25,[va [vi 2,vi 4,vr 0 0 6 9223372036854775808],va [vu 1,vi 13,vi 9]],[r138],vp [vz 0 0,vi 0],[]⟩]
theorem d162_run (t : Nat → TypeId) : allL (deepOk Tryz.prog (deepOrc Tryz.prog (tabG t) (orcL (e6 ++ e8 ++ e31 ++ e34 ++ e52 ++ e58 ++ e72 ++ e75)) 1152921504607633408 (d20 ++ d85 ++ d111) noCuts) (tabG t)) d162 = true := by kernel_rfl

noncomputable def d163 : List DeepE := [⟨25,[va [vi 4,vi 2,vr 0 0 3 9223372036854775808],va [vu 0,vi 0,vi 0]],[r128],vp [vz 0 0,vi 0],[]⟩]
theorem d163_run (t : Nat → TypeId) : allL (deepOk Tryz.prog (deepOrc Tryz.prog (tabG t) (orcL (e31 ++ e34 ++ e52 ++ e73 ++ e74)) 1152921504607633408 (d20 ++ d85 ++ d110) noCuts) (tabG t)) d163 = true := by kernel_rfl

noncomputable def d164 : List DeepE := [⟨25,[va [vi 2,vi 4,vr 0 0 12 9223372036854775808],va [vu 1,vi 13,vi 9]],[r141],vp [vr 1 0 32 32,vi 1],[r155]⟩]
theorem d164_run (t : Nat → TypeId) : allL (deepOk Tryz.prog (deepOrc Tryz.prog (tabG t) (orcL (e7 ++ e8 ++ e31 ++ e34 ++ e35 ++ e52 ++ e58 ++ e72 ++ e74 ++ e75)) 1152921504607633408 (d20 ++ d85 ++ d148) noCuts) (tabG t)) d164 = true := by kernel_rfl

noncomputable def d165 : List DeepE := [⟨25,[va [vi 4,vi 2,vr 0 0 3 9223372036854775808],va [vu 3,vi 15,vi 3]],[r128],vp [vz 0 0,vi 0],[]⟩]
theorem d165_run (t : Nat → TypeId) : allL (deepOk Tryz.prog (deepOrc Tryz.prog (tabG t) (orcL (e31 ++ e34 ++ e52 ++ e73 ++ e75)) 1152921504607633408 (d20 ++ d85 ++ d110) noCuts) (tabG t)) d165 = true := by kernel_rfl

end Go.Proofs.YtcacabipfbbjlabGreatDoor
