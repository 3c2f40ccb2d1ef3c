/-
  Says: what calls answer, as the kernel runs them (level 10).
-/
import Derived.Test.YtcacabipfbbjlabGreatDoorKr
import Derived.Test.YtcacabipfbbjlabGreatDoorKa0
import Derived.Test.YtcacabipfbbjlabGreatDoorKa1
import Derived.Test.YtcacabipfbbjlabGreatDoorKa10
import Derived.Test.YtcacabipfbbjlabGreatDoorKa11
import Derived.Test.YtcacabipfbbjlabGreatDoorKa13
import Derived.Test.YtcacabipfbbjlabGreatDoorKa14
import Derived.Test.YtcacabipfbbjlabGreatDoorKa15
import Derived.Test.YtcacabipfbbjlabGreatDoorKa16
import Derived.Test.YtcacabipfbbjlabGreatDoorKa19
import Derived.Test.YtcacabipfbbjlabGreatDoorKa2
import Derived.Test.YtcacabipfbbjlabGreatDoorKa22
import Derived.Test.YtcacabipfbbjlabGreatDoorKa23
import Derived.Test.YtcacabipfbbjlabGreatDoorKa24
import Derived.Test.YtcacabipfbbjlabGreatDoorKa25
import Derived.Test.YtcacabipfbbjlabGreatDoorKa28
import Derived.Test.YtcacabipfbbjlabGreatDoorKa3
import Derived.Test.YtcacabipfbbjlabGreatDoorKa33
import Derived.Test.YtcacabipfbbjlabGreatDoorKa4
import Derived.Test.YtcacabipfbbjlabGreatDoorKa6
import Derived.Test.YtcacabipfbbjlabGreatDoorKa7
import Derived.Test.YtcacabipfbbjlabGreatDoorKa8
import Derived.Test.YtcacabipfbbjlabGreatDoorKa9
import Derived.KernelRfl
set_option maxRecDepth 1000000
set_option linter.unusedVariables false
set_option linter.unusedSimpArgs false
namespace Go.Proofs.YtcacabipfbbjlabGreatDoor
open Go Go.Vx
attribute [local instance] anySyms

noncomputable def d189 : List DeepE := [⟨5,[va [vu 9,vu 3,vr 0 0 9 9223372036854775808,vz 0 0],va [vu 9,vk .i8 13,vk .i8 9],va [vu 105,vk .i8 3,vk .i8 5]],[r317],vt,[]⟩,⟨6,[va [vu 4,vu 123,vr 0 0 12 9223372036854775808],va [vu 4,vi 4,vi 4]],[r235],vt,[]⟩,⟨6,[va [vu 6,vu 135,vr 0 0 18 9223372036854775808],va [vu 6,vi 19,vi 7]],[r239],vt,[]⟩,⟨6,[va [vu 7,vu 135,vr 0 0 21 9223372036854775808],va [vu 7,vi 16,vi 8]],[r240],vt,[]⟩,⟨6,[va [vu 9,vu 251,vr 0 0 27 9223372036854775808],va [vu 1,vi 13,vi 9]],[r238],vt,[]⟩,⟨6,[va [vu 1,vu 1,vr 0 0 3 9223372036854775808],va [vu 1,vi 2,vi 2]],[r233],vt,[]⟩,⟨6,[va [vu 3,vu 17,vr 0 0 9 9223372036854775808],va [vu 3,vi 15,vi 3]],[r237],vt,[]⟩,⟨6,[va [vu 5,vu 232,vr 0 0 15 9223372036854775808],va [vu 5,vi 19,vi 5]],[r234],vt,[]⟩,⟨8,[va [vu 4,vu 123,vr 0 0 12 9223372036854775808],vu 232,va [vi 4,vi 4]],[r235],vt,[]⟩,⟨8,[va [vu 3,vu 17,vr 0 0 9 9223372036854775808],vu 123,va [vi 3,vi 3]],[r237],vt,[]⟩,⟨8,[va [vu 9,vu 251,vr 0 0 27 9223372036854775808],vu 105,va [vi 9,vi 9]],[r238],vt,[]⟩,⟨8,[va [vu 2,vu 42,vr 0 0 6 9223372036854775808],vu 17,va [vi 2,vi 2]],[r236],vt,[]⟩,⟨8,[va [vu 7,vu 135,vr 0 0 21 9223372036854775808],vu 120,va [vi 7,vi 7]],[r240],vt,[]⟩,⟨8,[va [vu 6,vu 135,vr 0 0 18 9223372036854775808],vu 135,va [vi 6,vi 6]],[r239],vt,[]⟩,⟨9,[va [vu 1,vu 0,vr 0 0 1 9223372036854775808,vz 0 0],vu 42],[r241],vt,[]⟩,⟨9,[va [vu 4,vu 1,vr 0 0 4 9223372036854775808,vz 0 0],vu 232],[r243],vt,[]⟩,⟨9,[va [vu 3,vu 1,vr 0 0 3 9223372036854775808,vz 0 0],vu 123],[r314],vt,[]⟩]
theorem d189_run (t : Nat → TypeId) : allL (deepOk Tryz.prog (deepOrc Tryz.prog (tabG t) (orcL (e0 ++ e1 ++ e2 ++ e3 ++ e6 ++ e7 ++ e11 ++ e12 ++ e29 ++ e30 ++ e38 ++ e44 ++ e52 ++ e53 ++ e54 ++ e58 ++ e63 ++ e76 ++ e181)) 2658455991570436208717452223538161664 (d20 ++ d24 ++ d46 ++ d64 ++ d77 ++ d82 ++ d84 ++ d85 ++ d88 ++ d89 ++ d94 ++ d107 ++ d108 ++ d109 ++ d112 ++ d137 ++ d152 ++ d153 ++ d154 ++ d155 ++ d158 ++ d159 ++ d163 ++ d169 ++ d170 ++ d171 ++ d174) noCuts) (tabG t)) d189 = true := by kernel_rfl

noncomputable def d190 : List DeepE := [⟨9,[va [vu 2,vu 0,vr 0 0 2 9223372036854775808,vz 0 0],vu 17],[r242],vt,[]⟩,⟨9,[va [vu 7,vu 2,vr 0 0 7 9223372036854775808,vz 0 0],vu 120],[r316],vt,[]⟩,⟨9,[va [vu 5,vu 1,vr 0 0 5 9223372036854775808,vz 0 0],vu 135],[r313],vt,[]⟩]
theorem d190_run (t : Nat → TypeId) : allL (deepOk Tryz.prog (deepOrc Tryz.prog (tabG t) (orcL (e0 ++ e1 ++ e2 ++ e3 ++ e6 ++ e7 ++ e11 ++ e12 ++ e14 ++ e28 ++ e30 ++ e38 ++ e52 ++ e54 ++ e61 ++ e75 ++ e76 ++ e81 ++ e181)) 2658455991570436208717434629305163776 (d20 ++ d24 ++ d46 ++ d64 ++ d77 ++ d84 ++ d87 ++ d97 ++ d107 ++ d108 ++ d110 ++ d152 ++ d157) noCuts) (tabG t)) d190 = true := by kernel_rfl

noncomputable def d191 : List DeepE := [⟨9,[va [vu 8,vu 2,vr 0 0 8 9223372036854775808,vz 0 0],vu 251],[r318],vt,[]⟩,⟨9,[va [vu 6,vu 2,vr 0 0 6 9223372036854775808,vz 0 0],vu 135],[r315],vt,[]⟩]
theorem d191_run (t : Nat → TypeId) : allL (deepOk Tryz.prog (deepOrc Tryz.prog (tabG t) (orcL (e0 ++ e1 ++ e2 ++ e3 ++ e6 ++ e7 ++ e11 ++ e12 ++ e28 ++ e30 ++ e38 ++ e39 ++ e40 ++ e52 ++ e54 ++ e75 ++ e76 ++ e181)) 2658455991570436208717434629288370176 (d20 ++ d24 ++ d64 ++ d84 ++ d86 ++ d100 ++ d109 ++ d112 ++ d152 ++ d153) noCuts) (tabG t)) d191 = true := by kernel_rfl

noncomputable def d192 : List DeepE := [⟨9,[va [vu 9,vu 3,vr 0 0 9 9223372036854775808,vz 0 0],vu 105],[r317],vt,[]⟩,⟨10,[va [vi 1,vi 4,vr 0 0 3 9223372036854775808],va [vu 4,vi 4,vi 4]],[r131],vt,[]⟩,⟨10,[va [vi 2,vi 2,vr 0 0 1 9223372036854775808],va [vu 1,vi 2,vi 2]],[r166],vt,[]⟩,⟨10,[va [vi 3,vi 3,vr 0 0 2 9223372036854775808],va [vu 2,vi 1,vi 3]],[r124],vt,[]⟩,⟨10,[va [vi 4,vi 2,vr 0 0 3 9223372036854775808],va [vu 3,vi 15,vi 3]],[r128],vt,[]⟩]
theorem d192_run (t : Nat → TypeId) : allL (deepOk Tryz.prog (deepOrc Tryz.prog (tabG t) (orcL (e1 ++ e3 ++ e7 ++ e12 ++ e28 ++ e30 ++ e38 ++ e39 ++ e40 ++ e52 ++ e75 ++ e76 ++ e181)) 13211320328192 (d20 ++ d64 ++ d85 ++ d112 ++ d113 ++ d148 ++ d152 ++ d154 ++ d155 ++ d174) noCuts) (tabG t)) d192 = true := by kernel_rfl

end Go.Proofs.YtcacabipfbbjlabGreatDoor
