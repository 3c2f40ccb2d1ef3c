/-
  Says: what calls answer, as the kernel runs them (level 6).
-/
import Derived.Test.YtcacabipfbbjlabGreatDoorKr
import Derived.Test.YtcacabipfbbjlabGreatDoorKa0
import Derived.Test.YtcacabipfbbjlabGreatDoorKa1
import Derived.Test.YtcacabipfbbjlabGreatDoorKa10
import Derived.Test.YtcacabipfbbjlabGreatDoorKa11
import Derived.Test.YtcacabipfbbjlabGreatDoorKa13
import Derived.Test.YtcacabipfbbjlabGreatDoorKa14
import Derived.Test.YtcacabipfbbjlabGreatDoorKa16
import Derived.Test.YtcacabipfbbjlabGreatDoorKa17
import Derived.Test.YtcacabipfbbjlabGreatDoorKa18
import Derived.Test.YtcacabipfbbjlabGreatDoorKa19
import Derived.Test.YtcacabipfbbjlabGreatDoorKa2
import Derived.Test.YtcacabipfbbjlabGreatDoorKa20
import Derived.Test.YtcacabipfbbjlabGreatDoorKa5
import Derived.Test.YtcacabipfbbjlabGreatDoorKa6
import Derived.Test.YtcacabipfbbjlabGreatDoorKa8
import Derived.Test.YtcacabipfbbjlabGreatDoorKa9
import Derived.KernelRfl
set_option maxRecDepth 1000000
set_option linter.unusedVariables false
set_option linter.unusedSimpArgs false
namespace Go.Proofs.YtcacabipfbbjlabGreatDoor
open Go Go.Vx
attribute [local instance] anySyms

noncomputable def e149 : List Ent := [(17,[va [vi 1,vi 1,vz 0 0],va [vu 0,vi 7,vi 9]],vt),(17,[va [vi 1,vi 2,vz 0 0],va [vu 0,vi 1,vi 1]],vt)]
theorem e149_run (t : Nat → TypeId) : allL (entOk Tryz.prog (deepOrc Tryz.prog (tabG t) (orcL (e0 ++ e10 ++ e72)) 19342814266913901077331968 (d20 ++ d77 ++ d78 ++ d83 ++ d84 ++ d108) noCuts) (tabG t)) e149 = true := by kernel_rfl

noncomputable def e150 : List Ent := [(17,[va [vi 1,vi 2,vz 0 0],va [vu 4,vi 4,vi 4]],vt)]
theorem e150_run (t : Nat → TypeId) : allL (entOk Tryz.prog (deepOrc Tryz.prog (tabG t) (orcL (e72)) 1153079834282098688 (d20 ++ d66 ++ d78 ++ d83 ++ d84 ++ d108) noCuts) (tabG t)) e150 = true := by kernel_rfl

noncomputable def e151 : List Ent := [(17,[va [vi 2,vi 1,vz 0 0],va [vu 1,vi 2,vi 2]],vt)]
theorem e151_run (t : Nat → TypeId) : allL (entOk Tryz.prog (deepOrc Tryz.prog (tabG t) (orcL (e10 ++ e52 ++ e72)) 1153079834282098688 (d20 ++ d65 ++ d78 ++ d83 ++ d84 ++ d108) noCuts) (tabG t)) e151 = true := by kernel_rfl

noncomputable def d152 : List DeepE := [⟨13,[va [vu 5,vu 1,vr 0 0 5 9223372036854775808,vz 0 0]],[r313],va [vi 2,vi 2,vr 1 0 2 9223372036854775808],[r150]⟩,⟨13,[va [vu 3,vu 1,vr 0 0 3 9223372036854775808,vz 0 0]],[r314],va [vi 4,vi 2,vr 1 0 2 9223372036854775808],[r125]⟩,⟨13,[va [vu 6,vu 2,vr 0 0 6 9223372036854775808,vz 0 0]],[r315],va [vi 3,vi 3,vr 1 0 6 9223372036854775808],[r135]⟩,⟨13,[va [vu 7,vu 2,vr 0 0 7 9223372036854775808,vz 0 0]],[r316],va [vi 4,vi 3,vr 1 0 2 9223372036854775808],[r126]⟩,⟨13,[va [vu 9,vu 3,vr 0 0 9 9223372036854775808,vz 0 0]],[r317],va [vi 2,vi 4,vr 1 0 12 9223372036854775808],[r141]⟩]
theorem d152_run (t : Nat → TypeId) : allL (deepOk Tryz.prog (deepOrc Tryz.prog (tabG t) (orcL (e0 ++ e2 ++ e35 ++ e36 ++ e37 ++ e38 ++ e52 ++ e59 ++ e60 ++ e72)) 1152922605192478720 (d20 ++ d84 ++ d85 ++ d86 ++ d87 ++ d112 ++ d117 ++ d118 ++ d119 ++ d120 ++ d121 ++ d122 ++ d123 ++ d124 ++ d125 ++ d126 ++ d127 ++ d128 ++ d129 ++ d130 ++ d131 ++ d132 ++ d133 ++ d134 ++ d135 ++ d136) noCuts) (tabG t)) d152 = true := by kernel_rfl

noncomputable def d153 : List DeepE := [⟨13,[va [vu 8,vu 2,vr 0 0 8 9223372036854775808,vz 0 0]],[r318],va [vi 1,vi 3,vr 1 0 6 9223372036854775808],[r134]⟩,⟨14,[va [vi 1,vi 4,vr 0 0 3 9223372036854775808]],[r131],vp [va [vi 1,vi 1],vt,vi 0],[]⟩]
theorem d153_run (t : Nat → TypeId) : allL (deepOk Tryz.prog (deepOrc Tryz.prog (tabG t) (orcL (e0 ++ e1 ++ e2 ++ e6 ++ e8 ++ e31 ++ e32 ++ e33 ++ e34 ++ e35 ++ e36 ++ e37 ++ e38 ++ e58 ++ e59 ++ e60 ++ e72)) 1152935798526705664 (d20 ++ d64 ++ d84 ++ d112 ++ d118) noCuts) (tabG t)) d153 = true := by kernel_rfl

noncomputable def d154 : List DeepE := [⟨14,[va [vi 4,vi 2,vr 0 0 2 9223372036854775808]],[r125],vp [va [vi 0,vi 0],vf,vi 0],[]⟩,⟨15,[va [vi 1,vi 1,vr 0 0 2 2],va [vu 0,vi 0,vi 0]],[r122],vp [vr 1 0 4 4,vi 0],[r292]⟩,⟨16,[va [vi 2,vi 2,vr 0 0 2 9223372036854775808],va [vu 5,vi 19,vi 5]],[r150],vp [vr 1 0 16 16,vi 0],[r319]⟩,⟨16,[va [vi 4,vi 2,vr 0 0 2 9223372036854775808],va [vu 3,vi 15,vi 3]],[r125],vp [vr 1 0 32 32,vi 0],[r320]⟩,⟨16,[va [vi 3,vi 3,vr 0 0 6 9223372036854775808],va [vu 6,vi 19,vi 7]],[r135],vp [vr 1 0 36 36,vi 0],[r321]⟩,⟨16,[va [vi 2,vi 4,vr 0 0 12 9223372036854775808],va [vu 1,vi 13,vi 9]],[r141],vp [vr 1 0 32 32,vi 0],[r322]⟩,⟨16,[va [vi 4,vi 3,vr 0 0 2 9223372036854775808],va [vu 7,vi 16,vi 8]],[r126],vp [vr 1 0 48 48,vi 0],[r323]⟩,⟨17,[va [vi 2,vi 1,vr 0 0 1 9223372036854775808],va [vu 5,vi 19,vi 5]],[r120],vt,[]⟩,⟨17,[va [vi 2,vi 2,vr 0 0 1 9223372036854775808],va [vu 1,vi 2,vi 2]],[r166],vt,[]⟩]
theorem d154_run (t : Nat → TypeId) : allL (deepOk Tryz.prog (deepOrc Tryz.prog (tabG t) (orcL (e0 ++ e6 ++ e8 ++ e12 ++ e31 ++ e38 ++ e52 ++ e58 ++ e72 ++ e75 ++ e76)) 1152952291201646592 (d20 ++ d64 ++ d77 ++ d84 ++ d89 ++ d108 ++ d112 ++ d137 ++ d138 ++ d139 ++ d141 ++ d143) noCuts) (tabG t)) d154 = true := by kernel_rfl

noncomputable def d155 : List DeepE := [⟨17,[va [vi 1,vi 4,vr 0 0 3 9223372036854775808],va [vu 4,vi 4,vi 4]],[r131],vt,[]⟩]
theorem d155_run (t : Nat → TypeId) : allL (deepOk Tryz.prog (deepOrc Tryz.prog (tabG t) (orcL (e8 ++ e31 ++ e34 ++ e58 ++ e72 ++ e75)) 1152939096793677824 (d20 ++ d77 ++ d84 ++ d109) noCuts) (tabG t)) d155 = true := by kernel_rfl

noncomputable def d156 : List DeepE := [⟨17,[va [vi 1,vi 3,vr 0 0 6 9223372036854775808],va [vu 0,vi 7,vi 9]],[r134],vt,[]⟩]
theorem d156_run (t : Nat → TypeId) : allL (deepOk Tryz.prog (deepOrc Tryz.prog (tabG t) (orcL (e7 ++ e8 ++ e9 ++ e31 ++ e38 ++ e58 ++ e72 ++ e74 ++ e75)) 1153079834282098688 (d20 ++ d78 ++ d84 ++ d90 ++ d108 ++ d109) noCuts) (tabG t)) d156 = true := by kernel_rfl

noncomputable def d157 : List DeepE := [⟨17,[va [vi 3,vi 1,vr 0 0 2 9223372036854775808],va [vu 2,vi 1,vi 3]],[r123],vt,[]⟩,⟨24,[va [vi 3,vi 1,vr 0 0 3 9223372036854775808],va [vu 0,vi 0,vi 0]],[r127],vp [vz 0 0,vi 11],[]⟩]
theorem d157_run (t : Nat → TypeId) : allL (deepOk Tryz.prog (deepOrc Tryz.prog (tabG t) (orcL (e8 ++ e9 ++ e31 ++ e33 ++ e52 ++ e58 ++ e72 ++ e74)) 1153079834282098688 (d20 ++ d78 ++ d84 ++ d91 ++ d108 ++ d136) noCuts) (tabG t)) d157 = true := by kernel_rfl

end Go.Proofs.YtcacabipfbbjlabGreatDoor
