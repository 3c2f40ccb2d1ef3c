/-
  Says: what calls answer, as the kernel runs them (level 5).
-/
import Derived.Test.YtcacabipfbbjlabGreatDoorKr
import Derived.Test.YtcacabipfbbjlabGreatDoorKa0
import Derived.Test.YtcacabipfbbjlabGreatDoorKa1
import Derived.Test.YtcacabipfbbjlabGreatDoorKa10
import Derived.Test.YtcacabipfbbjlabGreatDoorKa11
import Derived.Test.YtcacabipfbbjlabGreatDoorKa13
import Derived.Test.YtcacabipfbbjlabGreatDoorKa14
import Derived.Test.YtcacabipfbbjlabGreatDoorKa15
import Derived.Test.YtcacabipfbbjlabGreatDoorKa2
import Derived.Test.YtcacabipfbbjlabGreatDoorKa4
import Derived.Test.YtcacabipfbbjlabGreatDoorKa5
import Derived.Test.YtcacabipfbbjlabGreatDoorKa6
import Derived.Test.YtcacabipfbbjlabGreatDoorKa7
import Derived.Test.YtcacabipfbbjlabGreatDoorKa8
import Derived.Test.YtcacabipfbbjlabGreatDoorKa9
import Derived.KernelRfl
set_option maxRecDepth 1000000
set_option linter.unusedVariables false
set_option linter.unusedSimpArgs false
namespace Go.Proofs.YtcacabipfbbjlabGreatDoor
open Go Go.Vx
attribute [local instance] anySyms

noncomputable def d132 : List DeepE := [⟨40,[va [vi 3,vi 3],vr 0 0 36 9223372036854775808,vr 1 0 48 9223372036854775808,va [vu 2,vi 4],vi 0,vi 0],[r276,r259],vp [vr 2 0 36 9223372036854775808,vr 3 0 48 9223372036854775808],[r287,r259]⟩]
theorem d132_run (t : Nat → TypeId) : allL (deepOk Tryz.prog (deepOrc Tryz.prog (tabG t) (orcL (e0 ++ e1 ++ e2 ++ e3 ++ e8 ++ e31 ++ e32 ++ e33 ++ e34 ++ e35 ++ e52 ++ e59 ++ e72 ++ e73)) 1152921504607109120 (d20 ++ d86) noCuts) (tabG t)) d132 = true := by kernel_rfl

noncomputable def d133 : List DeepE := [⟨40,[va [vi 4,vi 3],vr 0 0 48 9223372036854775808,vr 1 0 65 9223372036854775808,va [vu 3,vi 1],vi 1,vi 0],[r285,r286],vp [vr 2 0 48 9223372036854775808,vr 3 0 65 9223372036854775808],[r284,r257]⟩]
theorem d133_run (t : Nat → TypeId) : allL (deepOk Tryz.prog (deepOrc Tryz.prog (tabG t) (orcL (e0 ++ e2 ++ e34 ++ e36 ++ e37 ++ e38 ++ e52 ++ e58 ++ e60 ++ e73 ++ e74)) 1152921504607109120 (d20 ++ d87) noCuts) (tabG t)) d133 = true := by kernel_rfl

noncomputable def d134 : List DeepE := [⟨40,[va [vi 3,vi 3],vr 0 0 36 9223372036854775808,vr 1 0 48 9223372036854775808,va [vu 4,vi 0],vi 0,vi 1],[r288,r259],vp [vr 2 0 36 9223372036854775808,vr 3 0 48 9223372036854775808],[r288,r259]⟩]
theorem d134_run (t : Nat → TypeId) : allL (deepOk Tryz.prog (deepOrc Tryz.prog (tabG t) (orcL (e0 ++ e1 ++ e2 ++ e3 ++ e31 ++ e32 ++ e33 ++ e35 ++ e52 ++ e72 ++ e73)) 1152921504607109120 (d20 ++ d86) noCuts) (tabG t)) d134 = true := by kernel_rfl

noncomputable def d135 : List DeepE := [⟨40,[va [vi 4,vi 2],vr 0 0 32 9223372036854775808,vr 1 0 42 9223372036854775808,va [vu 3,vi 3],vi 1,vi 0],[r279,r278],vp [vr 2 0 32 9223372036854775808,vr 3 0 42 9223372036854775808],[r290,r254]⟩]
theorem d135_run (t : Nat → TypeId) : allL (deepOk Tryz.prog (deepOrc Tryz.prog (tabG t) (orcL (e0 ++ e1 ++ e2 ++ e3 ++ e31 ++ e32 ++ e33 ++ e34 ++ e52 ++ e58 ++ e60 ++ e73)) 1152921504607109120 (d20 ++ d85) noCuts) (tabG t)) d135 = true := by kernel_rfl

noncomputable def d136 : List DeepE := [⟨40,[va [vi 4,vi 2],vr 0 0 32 9223372036854775808,vr 1 0 42 9223372036854775808,va [vu 4,vi 5],vi 0,vi 1],[r290,r254],vp [vr 2 0 32 9223372036854775808,vr 3 0 42 9223372036854775808],[r291,r254]⟩,⟨44,[va [vi 3,vi 1,vr 0 0 3 9223372036854775808],va [vu 0,vi 0,vi 0]],[r127],vp [vz 0 0,vz 0 0,vi 11],[]⟩]
theorem d136_run (t : Nat → TypeId) : allL (deepOk Tryz.prog (deepOrc Tryz.prog (tabG t) (orcL (e0 ++ e1 ++ e2 ++ e3 ++ e6 ++ e31 ++ e32 ++ e33 ++ e35 ++ e36 ++ e52 ++ e59 ++ e60 ++ e73)) 604464062733217240973312 (d20 ++ d64 ++ d85 ++ d93) noCuts) (tabG t)) d136 = true := by kernel_rfl

noncomputable def d137 : List DeepE := [⟨44,[va [vi 1,vi 1,vr 0 0 2 2],va [vu 0,vi 0,vi 0]],[r122],vp [vr 1 0 4 4,vr 2 0 4 4,vi 0],[r159,r292]⟩,⟨44,[va [vi 2,vi 4,vr 0 0 12 12],va [vu 2,vn 5,vi 18]],[r140],vp [vr 1 0 32 32,vr 2 0 32 32,vi 0],[r293,r294]⟩,⟨44,[va [vi 2,vi 4,vr 0 0 12 9223372036854775808],va [vu 1,vi 13,vi 9]],[r141],vp [vr 1 0 32 32,vr 2 0 32 32,vi 0],[r155,r114]⟩]
theorem d137_run (t : Nat → TypeId) : allL (deepOk Tryz.prog (deepOrc Tryz.prog (tabG t) (orcL (e6 ++ e10 ++ e14 ++ e15 ++ e16 ++ e17 ++ e18 ++ e19 ++ e28 ++ e29 ++ e30 ++ e38 ++ e43 ++ e44 ++ e45 ++ e58 ++ e60 ++ e61 ++ e75 ++ e81)) 604462909811712633864192 (d64 ++ d71 ++ d98 ++ d99) noCuts) (tabG t)) d137 = true := by kernel_rfl

noncomputable def d138 : List DeepE := [⟨44,[va [vi 4,vi 3,vr 0 0 2 2],va [vu 7,vi 19,vi 13]],[r122],vp [vr 1 0 48 48,vr 2 0 48 48,vi 0],[r295,r296]⟩,⟨44,[va [vi 4,vi 3,vr 0 0 2 9223372036854775808],va [vu 7,vi 16,vi 8]],[r126],vp [vr 1 0 48 48,vr 2 0 48 48,vi 0],[r154,r103]⟩]
theorem d138_run (t : Nat → TypeId) : allL (deepOk Tryz.prog (deepOrc Tryz.prog (tabG t) (orcL (e6 ++ e7 ++ e11 ++ e14 ++ e15 ++ e16 ++ e29 ++ e30 ++ e42 ++ e44 ++ e45 ++ e58 ++ e60 ++ e61 ++ e75 ++ e81)) 604462909811712633864192 (d64 ++ d103 ++ d104) noCuts) (tabG t)) d138 = true := by kernel_rfl

end Go.Proofs.YtcacabipfbbjlabGreatDoor
