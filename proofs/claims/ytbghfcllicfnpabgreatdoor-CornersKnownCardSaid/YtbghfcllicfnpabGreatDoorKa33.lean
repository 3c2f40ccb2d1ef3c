/-
  Says: what calls answer, as the kernel runs them (level 5).
-/
import Derived.Test.YtbghfcllicfnpabGreatDoorKr
import Derived.Test.YtbghfcllicfnpabGreatDoorKa1
import Derived.Test.YtbghfcllicfnpabGreatDoorKa10
import Derived.Test.YtbghfcllicfnpabGreatDoorKa11
import Derived.Test.YtbghfcllicfnpabGreatDoorKa25
import Derived.Test.YtbghfcllicfnpabGreatDoorKa28
import Derived.KernelRfl
set_option maxRecDepth 1000000
set_option linter.unusedVariables false
set_option linter.unusedSimpArgs false
namespace Go.Proofs.YtbghfcllicfnpabGreatDoor
open Go Go.Vx
attribute [local instance] anySyms

noncomputable def d106 : List DeepE := [⟨16, [va [vi 4,vi 4,vr 0 0 41 9223372036854775808], va [vi 3,vi 1]], [r154], vp [vr 1 0 3 3,vi 0], [r189]⟩, ⟨16, [va [vi 4,vi 4,vr 0 0 41 9223372036854775808], va [vi 5,vi 3]], [r154], vp [vr 1 0 3 3,vi 0], [r190]⟩, ⟨16, [va [vi 4,vi 4,vr 0 0 41 9223372036854775808], va [vi 1,vi 3]], [r154], vp [vr 1 0 3 3,vi 0], [r191]⟩, ⟨16, [va [vi 4,vi 3,vr 0 0 36 9223372036854775808], va [vi 6,vi 4]], [r151], vp [vr 1 0 4 4,vi 0], [r192]⟩, ⟨16, [va [vi 2,vi 4,vr 0 0 34 9223372036854775808], va [vi 3,vi 3]], [r146], vp [vr 1 0 4 4,vi 0], [r193]⟩, ⟨16, [va [vi 3,vi 4,vr 0 0 36 9223372036854775808], va [vi 1,vi 1]], [r148], vp [vr 1 0 4 4,vi 0], [r194]⟩, ⟨16, [va [vi 4,vi 3,vr 0 0 36 9223372036854775808], va [vi 1,vi 1]], [r151], vp [vr 1 0 4 4,vi 0], [r195]⟩, ⟨16, [va [vi 2,vi 4,vr 0 0 34 9223372036854775808], va [vi 1,vi 5]], [r146], vp [vr 1 0 4 4,vi 0], [r196]⟩, ⟨16, [va [vi 4,vi 3,vr 0 0 36 9223372036854775808], va [vi 5,vi 1]], [r151], vp [vr 1 0 4 4,vi 0], [r152]⟩]
theorem d106_run (t : Nat → TypeId) : allL (deepOk Tryz.prog (deepOrc Tryz.prog (tabG t) (orcL (e4 ++ e5 ++ e74 ++ e75)) 137438961664 (d36 ++ d90 ++ d91) noCuts) (tabG t)) d106 = true := by kernel_rfl

noncomputable def d107 : List DeepE := [⟨16, [va [vi 4,vi 3,vr 0 0 36 9223372036854775808], va [vi 1,vi 3]], [r151], vp [vr 1 0 4 4,vi 0], [r197]⟩, ⟨16, [va [vi 2,vi 4,vr 0 0 34 9223372036854775808], va [vi 3,vi 5]], [r146], vp [vr 1 0 4 4,vi 0], [r150]⟩, ⟨16, [va [vi 4,vi 4,vr 0 0 41 9223372036854775808], va [vi 1,vi 1]], [r154], vp [vr 1 0 4 4,vi 0], [r94]⟩, ⟨16, [va [vi 4,vi 4,vr 0 0 41 9223372036854775808], va [vi 5,vi 1]], [r154], vp [vr 1 0 4 4,vi 0], [r198]⟩, ⟨16, [va [vi 4,vi 4,vr 0 0 41 9223372036854775808], va [vi 7,vi 1]], [r154], vp [vr 1 0 4 4,vi 0], [r199]⟩, ⟨16, [va [vi 3,vi 4,vr 0 0 36 9223372036854775808], va [vi 4,vi 6]], [r148], vp [vr 1 0 3 3,vi 0], [r200]⟩, ⟨16, [va [vi 4,vi 4,vr 0 0 41 9223372036854775808], va [vi 6,vi 4]], [r154], vp [vr 1 0 5 5,vi 0], [r155]⟩, ⟨16, [va [vi 4,vi 4,vr 0 0 41 9223372036854775808], va [vi 7,vi 3]], [r154], vp [vr 1 0 4 4,vi 0], [r201]⟩]
theorem d107_run (t : Nat → TypeId) : allL (deepOk Tryz.prog (deepOrc Tryz.prog (tabG t) (orcL (e4 ++ e5 ++ e38 ++ e74 ++ e75)) 137438961664 (d36 ++ d90 ++ d91) noCuts) (tabG t)) d107 = true := by kernel_rfl

noncomputable def d108 : List DeepE := [⟨16, [va [vi 4,vi 3,vr 0 0 36 9223372036854775808], va [vi 6,vi 2]], [r151], vp [vr 1 0 5 5,vi 0], [r202]⟩, ⟨16, [va [vi 3,vi 4,vr 0 0 36 9223372036854775808], va [vi 4,vi 2]], [r148], vp [vr 1 0 5 5,vi 0], [r203]⟩, ⟨16, [va [vi 4,vi 3,vr 0 0 36 9223372036854775808], va [vi 2,vi 2]], [r151], vp [vr 1 0 5 5,vi 0], [r204]⟩, ⟨16, [va [vi 4,vi 4,vr 0 0 41 9223372036854775808], va [vi 4,vi 4]], [r154], vp [vr 1 0 5 5,vi 0], [r205]⟩, ⟨16, [va [vi 3,vi 4,vr 0 0 36 9223372036854775808], va [vi 2,vi 2]], [r148], vp [vr 1 0 6 6,vi 0], [r206]⟩, ⟨16, [va [vi 4,vi 3,vr 0 0 36 9223372036854775808], va [vi 4,vi 2]], [r151], vp [vr 1 0 6 6,vi 0], [r207]⟩]
theorem d108_run (t : Nat → TypeId) : allL (deepOk Tryz.prog (deepOrc Tryz.prog (tabG t) (orcL (e4 ++ e5 ++ e74 ++ e75)) 137438961664 (d36 ++ d90 ++ d91) noCuts) (tabG t)) d108 = true := by kernel_rfl

noncomputable def d109 : List DeepE := [⟨16, [va [vi 3,vi 4,vr 0 0 36 9223372036854775808], va [vi 4,vi 4]], [r148], vp [vr 1 0 6 6,vi 0], [r153]⟩, ⟨16, [va [vi 2,vi 4,vr 0 0 34 9223372036854775808], va [vi 2,vi 6]], [r146], vp [vr 1 0 6 6,vi 0], [r208]⟩, ⟨16, [va [vi 4,vi 4,vr 0 0 41 9223372036854775808], va [vi 6,vi 2]], [r154], vp [vr 1 0 6 6,vi 0], [r209]⟩, ⟨16, [va [vi 4,vi 4,vr 0 0 41 9223372036854775808], va [vi 2,vi 4]], [r154], vp [vr 1 0 6 6,vi 0], [r210]⟩, ⟨16, [va [vi 2,vi 4,vr 0 0 34 9223372036854775808], va [vi 2,vi 2]], [r146], vp [vr 1 0 7 7,vi 0], [r211]⟩]
theorem d109_run (t : Nat → TypeId) : allL (deepOk Tryz.prog (deepOrc Tryz.prog (tabG t) (orcL (e4 ++ e5 ++ e74 ++ e75)) 137438961664 (d36 ++ d90 ++ d91) noCuts) (tabG t)) d109 = true := by kernel_rfl

end Go.Proofs.YtbghfcllicfnpabGreatDoor
