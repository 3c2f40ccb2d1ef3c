/-
  Says: what calls answer, as the kernel runs them (level 2).
-/
import Derived.Test.YtcacabipfbbjlabGreatDoorKr
import Derived.Test.YtcacabipfbbjlabGreatDoorKa0
import Derived.Test.YtcacabipfbbjlabGreatDoorKa1
import Derived.Test.YtcacabipfbbjlabGreatDoorKa2
import Derived.Test.YtcacabipfbbjlabGreatDoorKa3
import Derived.Test.YtcacabipfbbjlabGreatDoorKa4
import Derived.Test.YtcacabipfbbjlabGreatDoorKa5
import Derived.Test.YtcacabipfbbjlabGreatDoorKa6
import Derived.Test.YtcacabipfbbjlabGreatDoorKa7
import Derived.KernelRfl
set_option maxRecDepth 1000000
set_option linter.unusedVariables false
set_option linter.unusedSimpArgs false
namespace Go.Proofs.YtcacabipfbbjlabGreatDoor
open Go Go.Vx
attribute [local instance] anySyms

noncomputable def d64 : List DeepE := [⟨42,[va [vi 1,vi 1,vr 0 0 1 9223372036854775808]],[r118],vi 0,[]⟩,⟨42,[va [vi 1,vi 2,vr 0 0 1 9223372036854775808]],[r119],vi 0,[]⟩,⟨42,[va [vi 2,vi 1,vr 0 0 1 9223372036854775808]],[r120],vi 0,[]⟩,⟨42,[va [vi 2,vi 1,vr 0 0 1 9223372036854775808]],[r121],vi 0,[]⟩,⟨42,[va [vi 1,vi 1,vr 0 0 2 2]],[r122],vi 0,[]⟩,⟨42,[va [vi 3,vi 1,vr 0 0 2 9223372036854775808]],[r123],vi 0,[]⟩,⟨42,[va [vi 3,vi 3,vr 0 0 2 9223372036854775808]],[r124],vi 0,[]⟩,⟨42,[va [vi 4,vi 2,vr 0 0 2 9223372036854775808]],[r125],vi 0,[]⟩,⟨42,[va [vi 4,vi 3,vr 0 0 2 9223372036854775808]],[r126],vi 0,[]⟩,⟨42,[va [vi 3,vi 1,vr 0 0 3 9223372036854775808]],[r127],vi 0,[]⟩,⟨42,[va [vi 4,vi 2,vr 0 0 3 9223372036854775808]],[r128],vi 0,[]⟩,⟨42,[va [vi 4,vi 2,vr 0 0 3 9223372036854775808]],[r129],vi 0,[]⟩,⟨42,[va [vi 4,vi 3,vr 0 0 3 9223372036854775808]],[r130],vi 0,[]⟩,⟨42,[va [vi 1,vi 4,vr 0 0 3 9223372036854775808]],[r131],vi 0,[]⟩,⟨42,[va [vi 1,vi 3,vr 0 0 5 9223372036854775808]],[r132],vi 0,[]⟩,⟨42,[va [vi 4,vi 4,vr 0 0 5 9223372036854775808]],[r133],vi 0,[]⟩,⟨42,[va [vi 1,vi 3,vr 0 0 6 9223372036854775808]],[r134],vi 0,[]⟩,⟨42,[va [vi 3,vi 3,vr 0 0 6 9223372036854775808]],[r135],vi 0,[]⟩,⟨42,[va [vi 3,vi 4,vr 0 0 6 9223372036854775808]],[r136],vi 0,[]⟩,⟨42,[va [vi 3,vi 3,vr 0 0 7 9223372036854775808]],[r137],vi 0,[]⟩,⟨42,[va [vi 2,vi 4,vr 0 0 6 9223372036854775808]],[r138],vi 0,[]⟩,⟨42,[va [vi 2,vi 4,vr 0 0 11 9223372036854775808]],[r139],vi 0,[]⟩,⟨42,[va [vi 2,vi 4,vr 0 0 12 12]],[r140],vi 0,[]⟩,⟨42,[va [vi 2,vi 4,vr 0 0 12 9223372036854775808]],[r141],vi 0,[]⟩]
theorem d64_run (t : Nat → TypeId) : allL (deepOk Tryz.prog (valOrc (fun _ => false) (tabG t) (orcL (e7 ++ e39 ++ e40 ++ e41 ++ e42 ++ e43))) (tabG t)) d64 = true := by kernel_rfl

noncomputable def d65 : List DeepE := [⟨44,[va [vi 2,vi 1,vr 0 0 0 0],va [vu 3,vi 1,vi 3]],[r142],vp [vr 1 0 8 8,vr 2 0 8 8,vi 0],[r143,r144]⟩,⟨44,[va [vi 1,vi 2,vr 0 0 0 0],va [vu 4,vi 7,vi 9]],[r142],vp [vr 1 0 8 8,vr 2 0 8 8,vi 0],[r145,r146]⟩,⟨47,[va [vi 1,vi 1,vz 0 0],vr 0 0 4 4],[r147],vr 1 0 4 9223372036854775808,[r22]⟩,⟨47,[va [vi 2,vi 1,vz 0 0],vr 0 0 8 8],[r148],vr 1 0 8 9223372036854775808,[r149]⟩,⟨47,[va [vi 2,vi 2,vr 0 0 2 9223372036854775808],vr 1 0 16 16],[r150,r151],vr 2 0 16 9223372036854775808,[r101]⟩]
theorem d65_run (t : Nat → TypeId) : allL (deepOk Tryz.prog (deepOrc Tryz.prog (tabG t) (orcL (e0 ++ e1 ++ e2 ++ e3 ++ e8 ++ e10 ++ e14 ++ e15 ++ e16 ++ e18 ++ e28 ++ e29 ++ e30 ++ e31 ++ e32 ++ e33 ++ e36 ++ e37 ++ e38 ++ e39 ++ e40 ++ e44)) 1152921504606846976 (d20) noCuts) (tabG t)) d65 = true := by kernel_rfl

noncomputable def d66 : List DeepE := [⟨47,[va [vi 1,vi 2,vz 0 0],vr 0 0 8 8],[r152],vr 1 0 8 9223372036854775808,[r153]⟩,⟨47,[va [vi 4,vi 3,vr 0 0 2 9223372036854775808],vr 1 0 48 48],[r126,r154],vr 2 0 48 9223372036854775808,[r103]⟩]
theorem d66_run (t : Nat → TypeId) : allL (deepOk Tryz.prog (deepOrc Tryz.prog (tabG t) (orcL (e0 ++ e1 ++ e2 ++ e3 ++ e8 ++ e31 ++ e32 ++ e33)) 1152921504606846976 (d20) noCuts) (tabG t)) d66 = true := by kernel_rfl

noncomputable def d67 : List DeepE := [⟨47,[va [vi 2,vi 4,vr 0 0 12 9223372036854775808],vr 1 0 32 32],[r141,r155],vr 2 0 32 9223372036854775808,[r114]⟩]
theorem d67_run (t : Nat → TypeId) : allL (deepOk Tryz.prog (deepOrc Tryz.prog (tabG t) (orcL (e0 ++ e1 ++ e2 ++ e3 ++ e31 ++ e32 ++ e33)) 1152921504606846976 (d20) noCuts) (tabG t)) d67 = true := by kernel_rfl

noncomputable def d68 : List DeepE := [⟨47,[va [vi 4,vi 2,vr 0 0 2 9223372036854775808],vr 1 0 32 32],[r125,r156],vr 2 0 32 9223372036854775808,[r115]⟩]
theorem d68_run (t : Nat → TypeId) : allL (deepOk Tryz.prog (deepOrc Tryz.prog (tabG t) (orcL (e0 ++ e1 ++ e2 ++ e3 ++ e31 ++ e32 ++ e33)) 1152921504606846976 (d20) noCuts) (tabG t)) d68 = true := by kernel_rfl

noncomputable def d69 : List DeepE := [⟨47,[va [vi 3,vi 3,vr 0 0 6 9223372036854775808],vr 1 0 36 36],[r135,r157],vr 2 0 36 9223372036854775808,[r102]⟩]
theorem d69_run (t : Nat → TypeId) : allL (deepOk Tryz.prog (deepOrc Tryz.prog (tabG t) (orcL (e0 ++ e1 ++ e2 ++ e3 ++ e31 ++ e32 ++ e33)) 1152921504606846976 (d20) noCuts) (tabG t)) d69 = true := by kernel_rfl

noncomputable def d70 : List DeepE := [⟨69,[vr 0 0 36 36],[r102],vp [vr 1 0 26 26,vi 0],[r16]⟩,⟨79,[va [vi 1,vi 1,vz 0 0]],[],vp [vr 0 0 4 4,vf],[r158]⟩,⟨79,[va [vi 1,vi 1,vr 0 0 0 0]],[r142],vp [vr 1 0 4 4,vf],[r158]⟩]
theorem d70_run (t : Nat → TypeId) : allL (deepOk Tryz.prog (deepOrc Tryz.prog (tabG t) (orcL (e8 ++ e9 ++ e10 ++ e28 ++ e38 ++ e39)) 1496577676626844588240593075742102378212073309995008 (d24 ++ d50) noCuts) (tabG t)) d70 = true := by kernel_rfl

noncomputable def d71 : List DeepE := [⟨79,[va [vi 1,vi 1,vr 0 0 2 2]],[r122],vp [vr 1 0 4 4,vf],[r159]⟩,⟨79,[va [vi 1,vi 2,vz 0 0]],[],vp [vr 0 0 8 8,vf],[r160]⟩,⟨79,[va [vi 2,vi 1,vz 0 0]],[],vp [vr 0 0 8 8,vf],[r160]⟩,⟨79,[va [vi 2,vi 1,vr 0 0 1 1]],[r161],vp [vr 1 0 8 8,vf],[r162]⟩,⟨100,[va [vi 2,vi 1],va [vu 1,vu 1,vi 1,vi 0,vi 2]],[],vp [vr 0 0 1 1,vi 0],[r163]⟩,⟨100,[va [vi 1,vi 1],va [vu 1,vu 3,vi 1,vi 0,vi 2]],[],vp [vr 0 0 2 2,vi 0],[r164]⟩,⟨170,[vr 0 0 48 9223372036854775808,vi 0,vi 22,(vfn 97)],[r109],vp [vi 10,vi 1],[]⟩,⟨170,[vr 0 0 48 9223372036854775808,vi 23,vi 48,(vfn 97)],[r111],vp [vi 35,vi 1],[]⟩,⟨170,[vr 0 0 48 9223372036854775808,vi 9,vi 22,(vfn 97)],[r110],vp [vi 15,vi 1],[]⟩]
theorem d71_run (t : Nat → TypeId) : allL (deepOk Tryz.prog (deepOrc Tryz.prog (tabG t) (orcL (e7 ++ e12 ++ e13 ++ e14 ++ e28 ++ e30 ++ e38 ++ e39 ++ e40)) 102844034832575377634685573909834406561420991602098741459288064 (d50 ++ d51) noCuts) (tabG t)) d71 = true := by kernel_rfl

end Go.Proofs.YtcacabipfbbjlabGreatDoor
