/-
  Says: what calls answer, as the kernel runs them (level 5).
-/
import Derived.Test.YtcacabipfbbjlabGreatDoorKr
import Derived.Test.YtcacabipfbbjlabGreatDoorKa0
import Derived.Test.YtcacabipfbbjlabGreatDoorKa11
import Derived.Test.YtcacabipfbbjlabGreatDoorKa13
import Derived.Test.YtcacabipfbbjlabGreatDoorKa14
import Derived.Test.YtcacabipfbbjlabGreatDoorKa2
import Derived.Test.YtcacabipfbbjlabGreatDoorKa5
import Derived.Test.YtcacabipfbbjlabGreatDoorKa6
import Derived.Test.YtcacabipfbbjlabGreatDoorKa8
import Derived.Test.YtcacabipfbbjlabGreatDoorKa9
import Derived.KernelRfl
set_option maxRecDepth 1000000
set_option linter.unusedVariables false
set_option linter.unusedSimpArgs false
namespace Go.Proofs.YtcacabipfbbjlabGreatDoor
open Go Go.Vx
attribute [local instance] anySyms

noncomputable def d115 : List DeepE := [⟨34,[va [vi 3,vi 4,vr 0 0 6 9223372036854775808]],[r136],vi 0,[]⟩]
theorem d115_run (t : Nat → TypeId) : allL (deepOk Tryz.prog (deepOrc Tryz.prog (tabG t) (orcL ([])) 262144 (d86) noCuts) (tabG t)) d115 = true := by kernel_rfl

noncomputable def d116 : List DeepE := [⟨34,[va [vi 4,vi 4,vr 0 0 5 9223372036854775808]],[r133],vi 0,[]⟩,⟨37,[vi 2,vi 2,vr 0 0 2 2],[r216],va [vi 2,vi 2,vr 1 0 3 3],[r167]⟩]
theorem d116_run (t : Nat → TypeId) : allL (deepOk Tryz.prog (deepOrc Tryz.prog (tabG t) (orcL ([])) 1180591620717411565568 (d88 ++ d93) noCuts) (tabG t)) d116 = true := by kernel_rfl

noncomputable def d117 : List DeepE := [⟨40,[va [vi 2,vi 2],vr 0 0 16 9223372036854775808,vr 1 0 20 9223372036854775808,va [vu 4,vi 1],vi 0,vi 1],[r261,r251],vp [vr 2 0 16 9223372036854775808,vr 3 0 20 9223372036854775808],[r261,r251]⟩,⟨40,[va [vi 2,vi 2],vr 0 0 16 9223372036854775808,vr 1 0 20 9223372036854775808,va [vu 3,vi 3],vi 1,vi 1],[r262,r263],vp [vr 2 0 16 9223372036854775808,vr 3 0 20 9223372036854775808],[r261,r251]⟩,⟨40,[va [vi 2,vi 2],vr 0 0 16 9223372036854775808,vr 1 0 20 9223372036854775808,va [vu 4,vi 4],vi 0,vi 0],[r264,r263],vp [vr 2 0 16 9223372036854775808,vr 3 0 20 9223372036854775808],[r262,r263]⟩,⟨40,[va [vi 2,vi 2],vr 0 0 16 16,vr 1 0 20 20,va [vu 1,vi 4],vi 1,vi 1],[r264,r263],vp [vr 2 0 16 9223372036854775808,vr 3 0 20 9223372036854775808],[r264,r263]⟩]
theorem d117_run (t : Nat → TypeId) : allL (deepOk Tryz.prog (deepOrc Tryz.prog (tabG t) (orcL (e0 ++ e1 ++ e2 ++ e3 ++ e34 ++ e35 ++ e36 ++ e37 ++ e52 ++ e58 ++ e59 ++ e60 ++ e72)) 1152921504607109120 (d20 ++ d84) noCuts) (tabG t)) d117 = true := by kernel_rfl

noncomputable def d118 : List DeepE := [⟨40,[va [vi 2,vi 2],vr 0 0 16 9223372036854775808,vr 1 0 20 9223372036854775808,va [vu 1,vi 5],vi 1,vi 0],[r262,r263],vp [vr 2 0 16 9223372036854775808,vr 3 0 20 9223372036854775808],[r262,r263]⟩,⟨40,[va [vi 1,vi 3],vr 0 0 12 9223372036854775808,vr 1 0 14 9223372036854775808,va [vu 3,vi 0],vi 1,vi 0],[r265,r266],vp [vr 2 0 12 9223372036854775808,vr 3 0 14 9223372036854775808],[r267,r266]⟩,⟨40,[va [vi 2,vi 4],vr 0 0 32 9223372036854775808,vr 1 0 42 9223372036854775808,va [vu 1,vi 1],vi 1,vi 0],[r268,r269],vp [vr 2 0 32 9223372036854775808,vr 3 0 42 9223372036854775808],[r268,r269]⟩]
theorem d118_run (t : Nat → TypeId) : allL (deepOk Tryz.prog (deepOrc Tryz.prog (tabG t) (orcL (e0 ++ e1 ++ e2 ++ e6 ++ e31 ++ e32 ++ e33 ++ e35 ++ e36 ++ e37 ++ e38 ++ e52 ++ e59 ++ e60 ++ e72)) 1152921504607109120 (d20 ++ d84 ++ d85) noCuts) (tabG t)) d118 = true := by kernel_rfl

noncomputable def d119 : List DeepE := [⟨40,[va [vi 3,vi 3],vr 0 0 36 9223372036854775808,vr 1 0 48 9223372036854775808,va [vu 2,vi 1],vi 0,vi 0],[r270,r271],vp [vr 2 0 36 9223372036854775808,vr 3 0 48 9223372036854775808],[r270,r271]⟩,⟨40,[va [vi 2,vi 4],vr 0 0 32 9223372036854775808,vr 1 0 42 9223372036854775808,va [vu 4,vi 4],vi 0,vi 1],[r272,r273],vp [vr 2 0 32 9223372036854775808,vr 3 0 42 9223372036854775808],[r268,r269]⟩]
theorem d119_run (t : Nat → TypeId) : allL (deepOk Tryz.prog (deepOrc Tryz.prog (tabG t) (orcL (e0 ++ e1 ++ e2 ++ e3 ++ e7 ++ e8 ++ e35 ++ e36 ++ e37 ++ e38 ++ e52 ++ e58 ++ e59 ++ e60 ++ e72 ++ e73)) 1152921504607109120 (d20 ++ d85 ++ d86) noCuts) (tabG t)) d119 = true := by kernel_rfl

noncomputable def d120 : List DeepE := [⟨40,[va [vi 2,vi 4],vr 0 0 32 9223372036854775808,vr 1 0 42 9223372036854775808,va [vu 3,vi 3],vi 1,vi 1],[r274,r275],vp [vr 2 0 32 9223372036854775808,vr 3 0 42 9223372036854775808],[r272,r273]⟩]
theorem d120_run (t : Nat → TypeId) : allL (deepOk Tryz.prog (deepOrc Tryz.prog (tabG t) (orcL (e0 ++ e1 ++ e2 ++ e3 ++ e31 ++ e32 ++ e33 ++ e34 ++ e35 ++ e36 ++ e37 ++ e52 ++ e58 ++ e60 ++ e72)) 1152921504607109120 (d20 ++ d85) noCuts) (tabG t)) d120 = true := by kernel_rfl

noncomputable def d121 : List DeepE := [⟨40,[va [vi 3,vi 3],vr 0 0 36 9223372036854775808,vr 1 0 48 9223372036854775808,va [vu 3,vi 1],vi 1,vi 0],[r270,r271],vp [vr 2 0 36 9223372036854775808,vr 3 0 48 9223372036854775808],[r276,r259]⟩]
theorem d121_run (t : Nat → TypeId) : allL (deepOk Tryz.prog (deepOrc Tryz.prog (tabG t) (orcL (e0 ++ e1 ++ e2 ++ e3 ++ e34 ++ e35 ++ e36 ++ e52 ++ e58 ++ e59 ++ e60 ++ e72 ++ e73)) 1152921504607109120 (d20 ++ d86) noCuts) (tabG t)) d121 = true := by kernel_rfl

noncomputable def d122 : List DeepE := [⟨40,[va [vi 4,vi 2],vr 0 0 32 32,vr 1 0 42 42,va [vu 2,vi 2],vi 0,vi 0],[r277,r278],vp [vr 2 0 32 9223372036854775808,vr 3 0 42 9223372036854775808],[r279,r278]⟩]
theorem d122_run (t : Nat → TypeId) : allL (deepOk Tryz.prog (deepOrc Tryz.prog (tabG t) (orcL (e0 ++ e1 ++ e2 ++ e3 ++ e34 ++ e52 ++ e59 ++ e73)) 1152921504607109120 (d20 ++ d85) noCuts) (tabG t)) d122 = true := by kernel_rfl

end Go.Proofs.YtcacabipfbbjlabGreatDoor
