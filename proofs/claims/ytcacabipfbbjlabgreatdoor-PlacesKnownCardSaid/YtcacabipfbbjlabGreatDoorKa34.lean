/-
  Says: what calls answer, as the kernel runs them (level 10).
-/
import Derived.Test.YtcacabipfbbjlabGreatDoorKr
import Derived.Test.YtcacabipfbbjlabGreatDoorKa0
import Derived.Test.YtcacabipfbbjlabGreatDoorKa1
import Derived.Test.YtcacabipfbbjlabGreatDoorKa10
import Derived.Test.YtcacabipfbbjlabGreatDoorKa11
import Derived.Test.YtcacabipfbbjlabGreatDoorKa13
import Derived.Test.YtcacabipfbbjlabGreatDoorKa14
import Derived.Test.YtcacabipfbbjlabGreatDoorKa16
import Derived.Test.YtcacabipfbbjlabGreatDoorKa19
import Derived.Test.YtcacabipfbbjlabGreatDoorKa2
import Derived.Test.YtcacabipfbbjlabGreatDoorKa20
import Derived.Test.YtcacabipfbbjlabGreatDoorKa22
import Derived.Test.YtcacabipfbbjlabGreatDoorKa23
import Derived.Test.YtcacabipfbbjlabGreatDoorKa24
import Derived.Test.YtcacabipfbbjlabGreatDoorKa28
import Derived.Test.YtcacabipfbbjlabGreatDoorKa29
import Derived.Test.YtcacabipfbbjlabGreatDoorKa3
import Derived.Test.YtcacabipfbbjlabGreatDoorKa30
import Derived.Test.YtcacabipfbbjlabGreatDoorKa31
import Derived.Test.YtcacabipfbbjlabGreatDoorKa32
import Derived.Test.YtcacabipfbbjlabGreatDoorKa33
import Derived.Test.YtcacabipfbbjlabGreatDoorKa4
import Derived.Test.YtcacabipfbbjlabGreatDoorKa5
import Derived.Test.YtcacabipfbbjlabGreatDoorKa6
import Derived.Test.YtcacabipfbbjlabGreatDoorKa7
import Derived.Test.YtcacabipfbbjlabGreatDoorKa8
import Derived.Test.YtcacabipfbbjlabGreatDoorKa9
import Derived.KernelRfl
set_option maxRecDepth 1000000
set_option linter.unusedVariables false
set_option linter.unusedSimpArgs false
namespace Go.Proofs.YtcacabipfbbjlabGreatDoor
open Go Go.Vx
attribute [local instance] anySyms

noncomputable def e182 : List Ent := [(4,[va [vu 0,vu 0,vz 0 0,vz 0 0],va [vu 0,vk .i8 1,vk .i8 0]],vt),(5,[va [vu 0,vu 0,vz 0 0,vz 0 0],va [vu 0,vk .i8 1,vk .i8 0],va [vu 1,vk .i8 3,vk .i8 5]],vt),(6,[va [vu 0,vu 1,vz 0 0],va [vu 0,vi 1,vi 1]],vt),(6,[va [vu 0,vu 0,vz 0 0],va [vu 0,vi 4096,vi 0]],vt),(6,[va [vu 1,vu 0,vz 0 0],va [vu 0,vi 4096,vi 0]],vt),(9,[va [vu 0,vu 0,vz 0 0,vz 0 0],vu 1],vt)]
theorem e182_run (t : Nat → TypeId) : allL (entOk Tryz.prog (deepOrc Tryz.prog (tabG t) (orcL (e0 ++ e1 ++ e2 ++ e3 ++ e7 ++ e12 ++ e26 ++ e27 ++ e29 ++ e36 ++ e37 ++ e38 ++ e44 ++ e52 ++ e54 ++ e56 ++ e63 ++ e72 ++ e74 ++ e106 ++ e149 ++ e175 ++ e181)) 2658455991569831746960566411544297472 (d20 ++ d24 ++ d64 ++ d77 ++ d83 ++ d84 ++ d88 ++ d108 ++ d112 ++ d158) noCuts) (tabG t)) e182 = true := by kernel_rfl

noncomputable def d183 : List DeepE := [⟨4,[va [vu 1,vu 0,vr 0 0 1 9223372036854775808,vz 0 0],va [vu 1,vk .i8 2,vk .i8 1]],[r241],vt,[]⟩,⟨4,[va [vu 4,vu 1,vr 0 0 4 9223372036854775808,vz 0 0],va [vu 4,vk .i8 4,vk .i8 4]],[r243],vt,[]⟩,⟨4,[va [vu 2,vu 0,vr 0 0 2 9223372036854775808,vz 0 0],va [vu 2,vk .i8 1,vk .i8 2]],[r242],vt,[]⟩,⟨4,[va [vu 8,vu 2,vr 0 0 8 9223372036854775808,vz 0 0],va [vu 8,vk .i8 7,vk .i8 8]],[r318],vt,[]⟩]
theorem d183_run (t : Nat → TypeId) : allL (deepOk Tryz.prog (deepOrc Tryz.prog (tabG t) (orcL (e0 ++ e1 ++ e3 ++ e4 ++ e5 ++ e6 ++ e7 ++ e11 ++ e12 ++ e25 ++ e26 ++ e27 ++ e28 ++ e30 ++ e31 ++ e32 ++ e33 ++ e38 ++ e52 ++ e54 ++ e55 ++ e56 ++ e57 ++ e58 ++ e72 ++ e75 ++ e76 ++ e150 ++ e151 ++ e181)) 30786326585344 (d20 ++ d64 ++ d78 ++ d83 ++ d84 ++ d90 ++ d91 ++ d107 ++ d108 ++ d109 ++ d153 ++ d156 ++ d157 ++ d174) noCuts) (tabG t)) d183 = true := by kernel_rfl

noncomputable def d184 : List DeepE := [⟨4,[va [vu 5,vu 1,vr 0 0 5 9223372036854775808,vz 0 0],va [vu 5,vk .i8 19,vk .i8 5]],[r313],vt,[]⟩,⟨4,[va [vu 3,vu 1,vr 0 0 3 9223372036854775808,vz 0 0],va [vu 3,vk .i8 15,vk .i8 3]],[r314],vt,[]⟩]
theorem d184_run (t : Nat → TypeId) : allL (deepOk Tryz.prog (deepOrc Tryz.prog (tabG t) (orcL (e1 ++ e2 ++ e3 ++ e4 ++ e5 ++ e7 ++ e11 ++ e12 ++ e25 ++ e26 ++ e27 ++ e28 ++ e30 ++ e31 ++ e32 ++ e33 ++ e52 ++ e53 ++ e55 ++ e56 ++ e57 ++ e58 ++ e61 ++ e72 ++ e73 ++ e81 ++ e181)) 30786326585344 (d46 ++ d77 ++ d84 ++ d85 ++ d108 ++ d109 ++ d139 ++ d141 ++ d152 ++ d154 ++ d176 ++ d177) noCuts) (tabG t)) d184 = true := by kernel_rfl

noncomputable def d185 : List DeepE := [⟨4,[va [vu 9,vu 3,vr 0 0 9 9223372036854775808,vz 0 0],va [vu 9,vk .i8 13,vk .i8 9]],[r317],vt,[]⟩]
theorem d185_run (t : Nat → TypeId) : allL (deepOk Tryz.prog (deepOrc Tryz.prog (tabG t) (orcL (e1 ++ e2 ++ e3 ++ e4 ++ e5 ++ e25 ++ e26 ++ e27 ++ e28 ++ e32 ++ e52 ++ e53 ++ e55 ++ e56 ++ e58 ++ e72 ++ e181)) 17592187052032 (d83 ++ d85 ++ d137 ++ d148 ++ d152 ++ d154 ++ d178) noCuts) (tabG t)) d185 = true := by kernel_rfl

noncomputable def d186 : List DeepE := [⟨4,[va [vu 7,vu 2,vr 0 0 7 9223372036854775808,vz 0 0],va [vu 7,vk .i8 16,vk .i8 7]],[r316],vt,[]⟩]
theorem d186_run (t : Nat → TypeId) : allL (deepOk Tryz.prog (deepOrc Tryz.prog (tabG t) (orcL (e2 ++ e4 ++ e5 ++ e25 ++ e26 ++ e27 ++ e31 ++ e32 ++ e52 ++ e53 ++ e56 ++ e57 ++ e73 ++ e74 ++ e181)) 17592187052032 (d87 ++ d110 ++ d138 ++ d152 ++ d154 ++ d174 ++ d180) noCuts) (tabG t)) d186 = true := by kernel_rfl

noncomputable def d187 : List DeepE := [⟨4,[va [vu 6,vu 2,vr 0 0 6 9223372036854775808,vz 0 0],va [vu 6,vk .i8 19,vk .i8 6]],[r315],vt,[]⟩,⟨5,[va [vu 4,vu 1,vr 0 0 4 9223372036854775808,vz 0 0],va [vu 4,vk .i8 4,vk .i8 4],va [vu 232,vk .i8 3,vk .i8 5]],[r243],vt,[]⟩]
theorem d187_run (t : Nat → TypeId) : allL (deepOk Tryz.prog (deepOrc Tryz.prog (tabG t) (orcL (e0 ++ e1 ++ e2 ++ e3 ++ e4 ++ e5 ++ e6 ++ e25 ++ e26 ++ e27 ++ e28 ++ e30 ++ e31 ++ e32 ++ e33 ++ e52 ++ e53 ++ e55 ++ e56 ++ e57 ++ e58 ++ e72 ++ e73 ++ e181)) 17592187052032 (d65 ++ d78 ++ d82 ++ d86 ++ d108 ++ d112 ++ d143 ++ d152 ++ d154 ++ d179) noCuts) (tabG t)) d187 = true := by kernel_rfl

noncomputable def d188 : List DeepE := [⟨5,[va [vu 1,vu 0,vr 0 0 1 9223372036854775808,vz 0 0],va [vu 1,vk .i8 2,vk .i8 1],va [vu 42,vk .i8 3,vk .i8 5]],[r241],vt,[]⟩,⟨5,[va [vu 2,vu 0,vr 0 0 2 9223372036854775808,vz 0 0],va [vu 2,vk .i8 1,vk .i8 2],va [vu 17,vk .i8 3,vk .i8 5]],[r242],vt,[]⟩,⟨5,[va [vu 8,vu 2,vr 0 0 8 9223372036854775808,vz 0 0],va [vu 8,vk .i8 7,vk .i8 8],va [vu 251,vk .i8 3,vk .i8 5]],[r318],vt,[]⟩,⟨5,[va [vu 5,vu 1,vr 0 0 5 9223372036854775808,vz 0 0],va [vu 5,vk .i8 19,vk .i8 5],va [vu 135,vk .i8 3,vk .i8 5]],[r313],vt,[]⟩,⟨5,[va [vu 3,vu 1,vr 0 0 3 9223372036854775808,vz 0 0],va [vu 3,vk .i8 15,vk .i8 3],va [vu 123,vk .i8 3,vk .i8 5]],[r314],vt,[]⟩,⟨5,[va [vu 6,vu 2,vr 0 0 6 9223372036854775808,vz 0 0],va [vu 6,vk .i8 19,vk .i8 6],va [vu 135,vk .i8 3,vk .i8 5]],[r315],vt,[]⟩,⟨5,[va [vu 7,vu 2,vr 0 0 7 9223372036854775808,vz 0 0],va [vu 7,vk .i8 16,vk .i8 7],va [vu 120,vk .i8 3,vk .i8 5]],[r316],vt,[]⟩]
theorem d188_run (t : Nat → TypeId) : allL (deepOk Tryz.prog (deepOrc Tryz.prog (tabG t) (orcL (e0 ++ e29 ++ e30 ++ e58 ++ e181)) 21990232563712 (d64 ++ d65 ++ d77 ++ d78 ++ d90 ++ d91 ++ d92 ++ d93 ++ d107 ++ d138 ++ d139 ++ d140 ++ d141 ++ d142 ++ d143 ++ d144 ++ d152 ++ d153) noCuts) (tabG t)) d188 = true := by kernel_rfl

end Go.Proofs.YtcacabipfbbjlabGreatDoor
