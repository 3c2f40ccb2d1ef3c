/-
  Says: what calls answer, as the kernel runs them (level 5).
-/
import Derived.Test.YtcacabipfbbjlabGreatDoorKr
import Derived.Test.YtcacabipfbbjlabGreatDoorKa0
import Derived.Test.YtcacabipfbbjlabGreatDoorKa1
import Derived.Test.YtcacabipfbbjlabGreatDoorKa10
import Derived.Test.YtcacabipfbbjlabGreatDoorKa11
import Derived.Test.YtcacabipfbbjlabGreatDoorKa13
import Derived.Test.YtcacabipfbbjlabGreatDoorKa14
import Derived.Test.YtcacabipfbbjlabGreatDoorKa2
import Derived.Test.YtcacabipfbbjlabGreatDoorKa3
import Derived.Test.YtcacabipfbbjlabGreatDoorKa4
import Derived.Test.YtcacabipfbbjlabGreatDoorKa5
import Derived.Test.YtcacabipfbbjlabGreatDoorKa6
import Derived.Test.YtcacabipfbbjlabGreatDoorKa8
import Derived.Test.YtcacabipfbbjlabGreatDoorKa9
import Derived.KernelRfl
set_option maxRecDepth 1000000
set_option linter.unusedVariables false
set_option linter.unusedSimpArgs false
namespace Go.Proofs.YtcacabipfbbjlabGreatDoor
open Go Go.Vx
attribute [local instance] anySyms

noncomputable def e106 : List Ent := [(11,[va [vu 0,vu 1,vz 0 0]],va [vi 1,vi 2,vz 0 0]),(13,[va [vu 0,vu 0,vz 0 0,vz 0 0]],va [vi 1,vi 1,vz 0 0])]
theorem e106_run (t : Nat → TypeId) : allL (entOk Tryz.prog (deepOrc Tryz.prog (tabG t) (orcL ([])) 262144 (d83 ++ d84) noCuts) (tabG t)) e106 = true := by kernel_rfl

noncomputable def d107 : List DeepE := [⟨11,[va [vu 8,vu 120,vr 0 0 24 9223372036854775808]],[r232],va [vi 1,vi 1,vz 0 0],[]⟩,⟨11,[va [vu 1,vu 1,vr 0 0 3 9223372036854775808]],[r233],va [vi 2,vi 2,vr 1 0 1 9223372036854775808],[r166]⟩,⟨11,[va [vu 5,vu 232,vr 0 0 15 9223372036854775808]],[r234],va [vi 2,vi 1,vr 1 0 1 9223372036854775808],[r120]⟩,⟨11,[va [vu 4,vu 123,vr 0 0 12 9223372036854775808]],[r235],va [vi 1,vi 4,vr 1 0 3 9223372036854775808],[r131]⟩,⟨11,[va [vu 2,vu 42,vr 0 0 6 9223372036854775808]],[r236],va [vi 3,vi 3,vr 1 0 2 9223372036854775808],[r124]⟩,⟨11,[va [vu 3,vu 17,vr 0 0 9 9223372036854775808]],[r237],va [vi 4,vi 2,vr 1 0 3 9223372036854775808],[r128]⟩,⟨11,[va [vu 9,vu 251,vr 0 0 27 9223372036854775808]],[r238],va [vi 2,vi 4,vr 1 0 6 9223372036854775808],[r138]⟩,⟨11,[va [vu 6,vu 135,vr 0 0 18 9223372036854775808]],[r239],va [vi 3,vi 4,vr 1 0 6 9223372036854775808],[r136]⟩,⟨11,[va [vu 7,vu 135,vr 0 0 21 9223372036854775808]],[r240],va [vi 4,vi 4,vr 1 0 5 9223372036854775808],[r133]⟩,⟨13,[va [vu 1,vu 0,vr 0 0 1 9223372036854775808,vz 0 0]],[r241],va [vi 2,vi 1,vz 0 0],[]⟩,⟨13,[va [vu 2,vu 0,vr 0 0 2 9223372036854775808,vz 0 0]],[r242],va [vi 3,vi 1,vr 1 0 2 9223372036854775808],[r123]⟩]
theorem d107_run (t : Nat → TypeId) : allL (deepOk Tryz.prog (deepOrc Tryz.prog (tabG t) (orcL (e0 ++ e1 ++ e2 ++ e3 ++ e8 ++ e31 ++ e33 ++ e34 ++ e35 ++ e52 ++ e58 ++ e59 ++ e72)) 1152921504607109120 (d20 ++ d83 ++ d84 ++ d85 ++ d86 ++ d88) noCuts) (tabG t)) d107 = true := by kernel_rfl

noncomputable def d108 : List DeepE := [⟨13,[va [vu 4,vu 1,vr 0 0 4 9223372036854775808,vz 0 0]],[r243],va [vi 1,vi 2,vz 0 0],[]⟩,⟨14,[va [vi 3,vi 1,vr 0 0 3 9223372036854775808]],[r127],vp [va [vi 1,vi 1],vt,vi 0],[]⟩,⟨14,[va [vi 2,vi 1,vr 0 0 1 9223372036854775808]],[r121],vp [va [vi 3,vi 1],vt,vi 0],[]⟩,⟨14,[va [vi 4,vi 2,vr 0 0 3 9223372036854775808]],[r129],vp [va [vi 6,vi 2],vt,vi 0],[]⟩,⟨16,[va [vi 1,vi 3,vr 0 0 6 9223372036854775808],va [vu 0,vi 7,vi 9]],[r134],vp [vr 1 0 12 12,vi 0],[r244]⟩,⟨16,[va [vi 3,vi 1,vr 0 0 2 9223372036854775808],va [vu 2,vi 1,vi 3]],[r123],vp [vr 1 0 12 12,vi 0],[r245]⟩,⟨19,[va [vi 1,vi 1,vz 0 0]],[],vr 0 0 4 4,[r246]⟩,⟨19,[va [vi 1,vi 2,vz 0 0]],[],vr 0 0 9 9,[r247]⟩,⟨19,[va [vi 2,vi 1,vz 0 0]],[],vr 0 0 9 9,[r247]⟩,⟨19,[va [vi 2,vi 1,vr 0 0 1 9223372036854775808]],[r120],vr 1 0 9 9,[r248]⟩,⟨19,[va [vi 2,vi 2,vr 0 0 1 9223372036854775808]],[r166],vr 1 0 20 20,[r249]⟩,⟨19,[va [vi 3,vi 1,vr 0 0 2 9223372036854775808]],[r123],vr 1 0 14 14,[r250]⟩,⟨19,[va [vi 2,vi 2,vr 0 0 2 9223372036854775808]],[r150],vr 1 0 20 20,[r251]⟩]
theorem d108_run (t : Nat → TypeId) : allL (deepOk Tryz.prog (deepOrc Tryz.prog (tabG t) (orcL (e0 ++ e2 ++ e8 ++ e12 ++ e31 ++ e32 ++ e33 ++ e34 ++ e35 ++ e36 ++ e37 ++ e38 ++ e58 ++ e59 ++ e60 ++ e72 ++ e75 ++ e76)) 1152952291201122304 (d20 ++ d64 ++ d83 ++ d84 ++ d89 ++ d90 ++ d91) noCuts) (tabG t)) d108 = true := by kernel_rfl

noncomputable def d109 : List DeepE := [⟨19,[va [vi 1,vi 4,vr 0 0 3 9223372036854775808]],[r131],vr 1 0 19 19,[r252]⟩,⟨19,[va [vi 1,vi 3,vr 0 0 6 9223372036854775808]],[r134],vr 1 0 14 14,[r253]⟩,⟨19,[va [vi 4,vi 2,vr 0 0 2 9223372036854775808]],[r125],vr 1 0 42 42,[r254]⟩,⟨19,[va [vi 3,vi 3,vr 0 0 2 9223372036854775808]],[r124],vr 1 0 48 48,[r255]⟩]
theorem d109_run (t : Nat → TypeId) : allL (deepOk Tryz.prog (deepOrc Tryz.prog (tabG t) (orcL ([])) 262144 (d84 ++ d85 ++ d86) noCuts) (tabG t)) d109 = true := by kernel_rfl

noncomputable def d110 : List DeepE := [⟨19,[va [vi 4,vi 2,vr 0 0 3 9223372036854775808]],[r128],vr 1 0 42 42,[r256]⟩,⟨19,[va [vi 4,vi 3,vr 0 0 2 9223372036854775808]],[r126],vr 1 0 65 65,[r257]⟩]
theorem d110_run (t : Nat → TypeId) : allL (deepOk Tryz.prog (deepOrc Tryz.prog (tabG t) (orcL ([])) 262144 (d85 ++ d87) noCuts) (tabG t)) d110 = true := by kernel_rfl

noncomputable def d111 : List DeepE := [⟨19,[va [vi 2,vi 4,vr 0 0 6 9223372036854775808]],[r138],vr 1 0 42 42,[r258]⟩]
theorem d111_run (t : Nat → TypeId) : allL (deepOk Tryz.prog (deepOrc Tryz.prog (tabG t) (orcL ([])) 262144 (d85) noCuts) (tabG t)) d111 = true := by kernel_rfl

noncomputable def d112 : List DeepE := [⟨19,[va [vi 3,vi 3,vr 0 0 6 9223372036854775808]],[r135],vr 1 0 48 48,[r259]⟩,⟨24,[va [vi 1,vi 1,vr 0 0 1 9223372036854775808],va [vu 0,vi 0,vi 0]],[r118],vp [vz 0 0,vi 11],[]⟩,⟨24,[va [vi 1,vi 2,vr 0 0 1 9223372036854775808],va [vu 0,vi 0,vi 0]],[r119],vp [vz 0 0,vi 11],[]⟩,⟨24,[va [vi 2,vi 1,vr 0 0 1 9223372036854775808],va [vu 0,vi 0,vi 0]],[r121],vp [vz 0 0,vi 11],[]⟩,⟨28,[va [vi 4,vi 3,vr 0 0 2 9223372036854775808],va [vi 5,vi 5]],[r126],vp [vt,vi 0],[]⟩,⟨28,[va [vi 4,vi 3,vr 0 0 2 9223372036854775808],va [vi 7,vi 5]],[r126],vp [vt,vi 0],[]⟩,⟨28,[va [vi 4,vi 4,vr 0 0 5 9223372036854775808],va [vi 6,vi 6]],[r133],vp [vt,vi 0],[]⟩,⟨28,[va [vi 4,vi 4,vr 0 0 5 9223372036854775808],va [vi 7,vi 7]],[r133],vp [vt,vi 0],[]⟩,⟨28,[va [vi 2,vi 2,vr 0 0 3 3],va [vi 3,vi 1]],[r167],vp [vt,vi 0],[]⟩,⟨28,[va [vi 1,vi 4,vr 0 0 3 9223372036854775808],va [vi 1,vi 1]],[r131],vp [vf,vi 0],[]⟩,⟨28,[va [vi 4,vi 2,vr 0 0 2 9223372036854775808],va [vi 1,vi 3]],[r125],vp [vt,vi 0],[]⟩,⟨28,[va [vi 2,vi 2,vr 0 0 1 9223372036854775808],va [vi 1,vi 1]],[r166],vp [vf,vi 0],[]⟩,⟨30,[va [vi 2,vi 2],vr 0 0 20 9223372036854775808],[r251],va [vi 2,vi 2,vr 1 0 2 9223372036854775808],[r150]⟩,⟨30,[va [vi 4,vi 2],vr 0 0 42 42],[r260],va [vi 4,vi 2,vr 1 0 3 9223372036854775808],[r129]⟩,⟨34,[va [vi 2,vi 2,vr 0 0 1 9223372036854775808]],[r166],vi 0,[]⟩]
theorem d112_run (t : Nat → TypeId) : allL (deepOk Tryz.prog (deepOrc Tryz.prog (tabG t) (orcL (e0 ++ e7 ++ e12 ++ e28 ++ e29 ++ e30 ++ e61 ++ e81)) 2658455991569831755031008147648282624 (d24 ++ d77 ++ d84 ++ d85 ++ d86 ++ d89 ++ d93) noCuts) (tabG t)) d112 = true := by kernel_rfl

noncomputable def d113 : List DeepE := [⟨34,[va [vi 1,vi 4,vr 0 0 3 9223372036854775808]],[r131],vi 0,[]⟩,⟨34,[va [vi 3,vi 3,vr 0 0 2 9223372036854775808]],[r124],vi 0,[]⟩,⟨34,[va [vi 4,vi 2,vr 0 0 3 9223372036854775808]],[r128],vi 0,[]⟩]
theorem d113_run (t : Nat → TypeId) : allL (deepOk Tryz.prog (deepOrc Tryz.prog (tabG t) (orcL ([])) 262144 (d84 ++ d85 ++ d86) noCuts) (tabG t)) d113 = true := by kernel_rfl

noncomputable def d114 : List DeepE := [⟨34,[va [vi 2,vi 4,vr 0 0 6 9223372036854775808]],[r138],vi 0,[]⟩]
theorem d114_run (t : Nat → TypeId) : allL (deepOk Tryz.prog (deepOrc Tryz.prog (tabG t) (orcL ([])) 262144 (d85) noCuts) (tabG t)) d114 = true := by kernel_rfl

end Go.Proofs.YtcacabipfbbjlabGreatDoor
