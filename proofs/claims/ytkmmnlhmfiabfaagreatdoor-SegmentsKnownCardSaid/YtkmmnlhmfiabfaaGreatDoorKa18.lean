/-
  Says: what calls answer, as the kernel runs them (level 4).
-/
import Derived.Test.YtkmmnlhmfiabfaaGreatDoorKr
import Derived.Test.YtkmmnlhmfiabfaaGreatDoorKa0
import Derived.Test.YtkmmnlhmfiabfaaGreatDoorKa10
import Derived.Test.YtkmmnlhmfiabfaaGreatDoorKa14
import Derived.Test.YtkmmnlhmfiabfaaGreatDoorKa15
import Derived.Test.YtkmmnlhmfiabfaaGreatDoorKa16
import Derived.Test.YtkmmnlhmfiabfaaGreatDoorKa5
import Derived.Test.YtkmmnlhmfiabfaaGreatDoorKa7
import Derived.Test.YtkmmnlhmfiabfaaGreatDoorKa8
import Derived.Test.YtkmmnlhmfiabfaaGreatDoorKa9
import Derived.KernelRfl
set_option maxRecDepth 1000000
set_option linter.unusedVariables false
set_option linter.unusedSimpArgs false
namespace Go.Proofs.YtkmmnlhmfiabfaaGreatDoor
open Go Go.Vx
attribute [local instance] anySyms

noncomputable def a85_0 : List DeepE := (qAll [-1, 0, 1, 2] 5).map fun x => atE 135 9223372036854775808 l0 (liesC l0) 4 x.1 x.2.1 x.2.2
noncomputable def e85 : List Ent := [(13, [], vt), (15, [va [vu 0,vu 0,vz 0 0]], va [vi 1,vi 1,vz 0 0]), (17, [va [vi 1,vi 1,vz 0 0]], vz 0 0)]
theorem e85_run (t : Nat → TypeId) : allL (entOk Tryz.prog (deepOrc Tryz.prog (tabG t) (orcL (e0 ++ e3 ++ e4 ++ e22 ++ e23 ++ e24 ++ e33 ++ e47 ++ sKw)) 1126037345798144 (d70 ++ d76 ++ a85_0) noCuts) (tabG t)) e85 = true := by kernel_rfl

noncomputable def d86 : List DeepE := [⟨15, [va [vu 1,vu 0,vr 0 0 4 9223372036854775808]], [r188], va [vi 2,vi 1,vr 1 0 2 9223372036854775808], [r143]⟩, ⟨15, [va [vu 4,vu 1,vr 0 0 16 9223372036854775808]], [r189], va [vi 1,vi 2,vr 1 0 5 9223372036854775808], [r145]⟩, ⟨15, [va [vu 2,vu 0,vr 0 0 8 9223372036854775808]], [r190], va [vi 3,vi 1,vr 1 0 6 9223372036854775808], [r147]⟩, ⟨15, [va [vu 3,vu 0,vr 0 0 12 9223372036854775808]], [r191], va [vi 4,vi 1,vr 1 0 8 9223372036854775808], [r7]⟩, ⟨15, [va [vu 8,vu 2,vr 0 0 32 9223372036854775808]], [r192], va [vi 1,vi 3,vr 1 0 9 9223372036854775808], [r148]⟩, ⟨15, [va [vu 5,vu 1,vr 0 0 20 9223372036854775808]], [r193], va [vi 2,vi 2,vr 1 0 16 9223372036854775808], [r2]⟩, ⟨15, [va [vu 6,vu 1,vr 0 0 24 9223372036854775808]], [r194], va [vi 3,vi 2,vr 1 0 18 9223372036854775808], [r3]⟩, ⟨15, [va [vu 9,vu 2,vr 0 0 36 9223372036854775808]], [r195], va [vi 2,vi 3,vr 1 0 19 9223372036854775808], [r4]⟩, ⟨15, [va [vu 7,vu 1,vr 0 0 28 9223372036854775808]], [r196], va [vi 4,vi 2,vr 1 0 19 9223372036854775808], [r5]⟩, ⟨15, [va [vu 10,vu 2,vr 0 0 40 9223372036854775808]], [r197], va [vi 3,vi 3,vr 1 0 29 9223372036854775808], [r6]⟩, ⟨16, [va [vi 2,vi 1,vr 0 0 2 9223372036854775808]], [r143], vp [vr 1 0 2 2,vi 0], [r159]⟩, ⟨16, [va [vi 2,vi 1,vr 0 0 2 2]], [r198], vp [vr 1 0 2 2,vi 0], [r199]⟩, ⟨16, [va [vi 1,vi 2,vr 0 0 5 5]], [r144], vp [vr 1 0 5 5,vi 0], [r200]⟩, ⟨16, [va [vi 1,vi 2,vr 0 0 5 9223372036854775808]], [r145], vp [vr 1 0 5 5,vi 0], [r160]⟩]
theorem d86_run (t : Nat → TypeId) : allL (deepOk Tryz.prog (deepOrc Tryz.prog (tabG t) (orcL (e0 ++ e3 ++ e4 ++ e22 ++ e23 ++ e46 ++ e47)) 1128648685912064 (d42 ++ d45 ++ d76 ++ d77 ++ d78 ++ d79 ++ d80 ++ d82 ++ d83) noCuts) (tabG t)) d86 = true := by kernel_rfl

noncomputable def d87 : List DeepE := [⟨16, [va [vi 3,vi 1,vr 0 0 6 6]], [r146], vp [vr 1 0 6 6,vi 0], [r201]⟩, ⟨16, [va [vi 3,vi 1,vr 0 0 6 9223372036854775808]], [r147], vp [vr 1 0 6 6,vi 0], [r161]⟩, ⟨16, [va [vi 1,vi 3,vr 0 0 9 9223372036854775808]], [r148], vp [vr 1 0 9 9,vi 0], [r162]⟩, ⟨16, [va [vi 4,vi 1,vr 0 0 8 9223372036854775808]], [r7], vp [vr 1 0 6 6,vi 0], [r163]⟩]
theorem d87_run (t : Nat → TypeId) : allL (deepOk Tryz.prog (deepOrc Tryz.prog (tabG t) (orcL (e0 ++ e1 ++ e4 ++ e22 ++ e46 ++ e47 ++ e48)) 549755813888 (d42 ++ d43) noCuts) (tabG t)) d87 = true := by kernel_rfl

noncomputable def d88 : List DeepE := [⟨16, [va [vi 2,vi 2,vr 0 0 16 9223372036854775808]], [r2], vp [vr 1 0 12 12,vi 0], [r202]⟩]
theorem d88_run (t : Nat → TypeId) : allL (deepOk Tryz.prog (deepOrc Tryz.prog (tabG t) (orcL (e0 ++ e4 ++ e22 ++ e23 ++ e46 ++ e47)) 549755813888 (d43) noCuts) (tabG t)) d88 = true := by kernel_rfl

noncomputable def d89 : List DeepE := [⟨16, [va [vi 3,vi 2,vr 0 0 18 9223372036854775808]], [r3], vp [vr 1 0 15 15,vi 0], [r164]⟩]
theorem d89_run (t : Nat → TypeId) : allL (deepOk Tryz.prog (deepOrc Tryz.prog (tabG t) (orcL (e0 ++ e1 ++ e4 ++ e22 ++ e23 ++ e46 ++ e47 ++ e48)) 549755813888 (d43) noCuts) (tabG t)) d89 = true := by kernel_rfl

noncomputable def d90 : List DeepE := [⟨16, [va [vi 2,vi 2,vr 0 0 16 16]], [r169], vp [vr 1 0 12 12,vi 0], [r203]⟩]
theorem d90_run (t : Nat → TypeId) : allL (deepOk Tryz.prog (valOrc (fun _ => false) (tabG t) (orcL (e0 ++ e3 ++ e4 ++ e22 ++ e23 ++ e24 ++ e26 ++ e46 ++ e47))) (tabG t)) d90 = true := by kernel_rfl

noncomputable def d91 : List DeepE := [⟨16, [va [vi 4,vi 2,vr 0 0 19 9223372036854775808]], [r5], vp [vr 1 0 17 17,vi 0], [r166]⟩]
theorem d91_run (t : Nat → TypeId) : allL (deepOk Tryz.prog (deepOrc Tryz.prog (tabG t) (orcL (e0 ++ e1 ++ e4 ++ e22 ++ e23 ++ e46 ++ e48)) 549755813888 (d43) noCuts) (tabG t)) d91 = true := by kernel_rfl

end Go.Proofs.YtkmmnlhmfiabfaaGreatDoor
