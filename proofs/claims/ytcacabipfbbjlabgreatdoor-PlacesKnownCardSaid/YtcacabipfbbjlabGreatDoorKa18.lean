/-
  Says: what calls answer, as the kernel runs them (level 5).
-/
import Derived.Test.YtcacabipfbbjlabGreatDoorKr
import Derived.Test.YtcacabipfbbjlabGreatDoorKa0
import Derived.Test.YtcacabipfbbjlabGreatDoorKa11
import Derived.Test.YtcacabipfbbjlabGreatDoorKa13
import Derived.Test.YtcacabipfbbjlabGreatDoorKa2
import Derived.Test.YtcacabipfbbjlabGreatDoorKa5
import Derived.Test.YtcacabipfbbjlabGreatDoorKa6
import Derived.Test.YtcacabipfbbjlabGreatDoorKa8
import Derived.Test.YtcacabipfbbjlabGreatDoorKa9
import Derived.KernelRfl
set_option maxRecDepth 1000000
set_option linter.unusedVariables false
set_option linter.unusedSimpArgs false
namespace Go.Proofs.YtcacabipfbbjlabGreatDoor
open Go Go.Vx
attribute [local instance] anySyms

noncomputable def d123 : List DeepE := [⟨40,[va [vi 2,vi 4],vr 0 0 32 9223372036854775808,vr 1 0 42 9223372036854775808,va [vu 1,vi 0],vi 1,vi 1],[r280,r281],vp [vr 2 0 32 9223372036854775808,vr 3 0 42 9223372036854775808],[r274,r275]⟩]
theorem d123_run (t : Nat → TypeId) : allL (deepOk Tryz.prog (deepOrc Tryz.prog (tabG t) (orcL (e0 ++ e1 ++ e2 ++ e3 ++ e32 ++ e33 ++ e34 ++ e35 ++ e36 ++ e37 ++ e52 ++ e58 ++ e59 ++ e60 ++ e72)) 1152921504607109120 (d20 ++ d85) noCuts) (tabG t)) d123 = true := by kernel_rfl

noncomputable def d124 : List DeepE := [⟨40,[va [vi 3,vi 3],vr 0 0 36 36,vr 1 0 48 48,va [vu 4,vi 1],vi 0,vi 1],[r282,r283],vp [vr 2 0 36 9223372036854775808,vr 3 0 48 9223372036854775808],[r270,r271]⟩]
theorem d124_run (t : Nat → TypeId) : allL (deepOk Tryz.prog (deepOrc Tryz.prog (tabG t) (orcL (e0 ++ e1 ++ e2 ++ e3 ++ e34 ++ e52 ++ e59 ++ e72 ++ e73)) 1152921504607109120 (d20 ++ d86) noCuts) (tabG t)) d124 = true := by kernel_rfl

noncomputable def d125 : List DeepE := [⟨40,[va [vi 2,vi 4],vr 0 0 32 32,vr 1 0 42 42,va [vu 4,vi 3],vi 0,vi 0],[r277,r278],vp [vr 2 0 32 9223372036854775808,vr 3 0 42 9223372036854775808],[r280,r281]⟩]
theorem d125_run (t : Nat → TypeId) : allL (deepOk Tryz.prog (deepOrc Tryz.prog (tabG t) (orcL (e0 ++ e1 ++ e2 ++ e3 ++ e31 ++ e32 ++ e33 ++ e34 ++ e52 ++ e59 ++ e72)) 1152921504607109120 (d20 ++ d85) noCuts) (tabG t)) d125 = true := by kernel_rfl

noncomputable def d126 : List DeepE := [⟨40,[va [vi 4,vi 3],vr 0 0 48 9223372036854775808,vr 1 0 65 9223372036854775808,va [vu 1,vi 2],vi 1,vi 0],[r284,r257],vp [vr 2 0 48 9223372036854775808,vr 3 0 65 9223372036854775808],[r284,r257]⟩]
theorem d126_run (t : Nat → TypeId) : allL (deepOk Tryz.prog (deepOrc Tryz.prog (tabG t) (orcL (e0 ++ e2 ++ e35 ++ e36 ++ e37 ++ e52 ++ e59 ++ e60 ++ e73 ++ e74)) 1152921504607109120 (d20 ++ d87) noCuts) (tabG t)) d126 = true := by kernel_rfl

noncomputable def d127 : List DeepE := [⟨40,[va [vi 4,vi 3],vr 0 0 48 9223372036854775808,vr 1 0 65 9223372036854775808,va [vu 3,vi 5],vi 1,vi 0],[r284,r257],vp [vr 2 0 48 9223372036854775808,vr 3 0 65 9223372036854775808],[r284,r257]⟩]
theorem d127_run (t : Nat → TypeId) : allL (deepOk Tryz.prog (deepOrc Tryz.prog (tabG t) (orcL (e0 ++ e2 ++ e35 ++ e36 ++ e37 ++ e52 ++ e59 ++ e60 ++ e73 ++ e74)) 1152921504607109120 (d20 ++ d87) noCuts) (tabG t)) d127 = true := by kernel_rfl

noncomputable def d128 : List DeepE := [⟨40,[va [vi 4,vi 3],vr 0 0 48 9223372036854775808,vr 1 0 65 9223372036854775808,va [vu 1,vi 4],vi 1,vi 1],[r285,r286],vp [vr 2 0 48 9223372036854775808,vr 3 0 65 9223372036854775808],[r285,r286]⟩]
theorem d128_run (t : Nat → TypeId) : allL (deepOk Tryz.prog (deepOrc Tryz.prog (tabG t) (orcL (e0 ++ e2 ++ e36 ++ e37 ++ e38 ++ e52 ++ e60 ++ e73 ++ e74)) 1152921504607109120 (d20 ++ d87) noCuts) (tabG t)) d128 = true := by kernel_rfl

noncomputable def d129 : List DeepE := [⟨40,[va [vi 3,vi 3],vr 0 0 36 9223372036854775808,vr 1 0 48 9223372036854775808,va [vu 3,vi 3],vi 1,vi 1],[r287,r259],vp [vr 2 0 36 9223372036854775808,vr 3 0 48 9223372036854775808],[r288,r259]⟩]
theorem d129_run (t : Nat → TypeId) : allL (deepOk Tryz.prog (deepOrc Tryz.prog (tabG t) (orcL (e0 ++ e1 ++ e2 ++ e3 ++ e7 ++ e31 ++ e32 ++ e33 ++ e34 ++ e35 ++ e36 ++ e37 ++ e38 ++ e52 ++ e58 ++ e60 ++ e72 ++ e73)) 1152921504607109120 (d20 ++ d86) noCuts) (tabG t)) d129 = true := by kernel_rfl

noncomputable def d130 : List DeepE := [⟨40,[va [vi 4,vi 3],vr 0 0 48 9223372036854775808,vr 1 0 65 9223372036854775808,va [vu 4,vi 5],vi 0,vi 0],[r285,r286],vp [vr 2 0 48 9223372036854775808,vr 3 0 65 9223372036854775808],[r285,r286]⟩]
theorem d130_run (t : Nat → TypeId) : allL (deepOk Tryz.prog (deepOrc Tryz.prog (tabG t) (orcL (e0 ++ e2 ++ e36 ++ e37 ++ e38 ++ e52 ++ e60 ++ e73 ++ e74)) 1152921504607109120 (d20 ++ d87) noCuts) (tabG t)) d130 = true := by kernel_rfl

noncomputable def d131 : List DeepE := [⟨40,[va [vi 4,vi 3],vr 0 0 48 48,vr 1 0 65 65,va [vu 4,vi 5],vi 0,vi 0],[r289,r286],vp [vr 2 0 48 9223372036854775808,vr 3 0 65 9223372036854775808],[r285,r286]⟩]
theorem d131_run (t : Nat → TypeId) : allL (deepOk Tryz.prog (deepOrc Tryz.prog (tabG t) (orcL (e0 ++ e1 ++ e2 ++ e3 ++ e31 ++ e32 ++ e33 ++ e35 ++ e36 ++ e52 ++ e58 ++ e59 ++ e73 ++ e74)) 1152921504607109120 (d20 ++ d87) noCuts) (tabG t)) d131 = true := by kernel_rfl

end Go.Proofs.YtcacabipfbbjlabGreatDoor
