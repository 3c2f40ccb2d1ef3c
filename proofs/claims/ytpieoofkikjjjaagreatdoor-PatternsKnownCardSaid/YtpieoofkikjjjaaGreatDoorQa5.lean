/-
  Says: what calls answer, as the kernel runs them (level 3).
-/
import Derived.Test.YtpieoofkikjjjaaGreatDoorQr
import Derived.Test.YtpieoofkikjjjaaGreatDoorQa0
import Derived.Test.YtpieoofkikjjjaaGreatDoorQa1
import Derived.Test.YtpieoofkikjjjaaGreatDoorQa2
import Derived.Test.YtpieoofkikjjjaaGreatDoorQa3
import Derived.KernelRfl
set_option maxRecDepth 1000000
set_option linter.unusedVariables false
set_option linter.unusedSimpArgs false
namespace Go.Proofs.YtpieoofkikjjjaaGreatDoor
open Go Go.Vx
attribute [local instance] anySyms

noncomputable def d37 : List DeepE := [⟨29,[va [vi 3,vi 2]],[],vr 0 0 31 9223372036854775808,[r138]⟩,⟨29,[va [vi 4,vi 2]],[],vr 0 0 42 9223372036854775808,[r139]⟩,⟨29,[va [vi 3,vi 3]],[],vr 0 0 48 9223372036854775808,[r140]⟩]
theorem d37_run (t : Nat → TypeId) : allL (deepOk Tryz.prog (ndOrc Tryz.prog (tabG t) (orcL (e12 ++ e22 ++ e23)) 0 [] noCuts) (tabG t)) d37 = true := by kernel_rfl

noncomputable def d38 : List DeepE := [⟨29,[va [vi 4,vi 3]],[],vr 0 0 65 9223372036854775808,[r141]⟩]
theorem d38_run (t : Nat → TypeId) : allL (deepOk Tryz.prog (ndOrc Tryz.prog (tabG t) (orcL (e12 ++ e22 ++ e23)) 0 [] noCuts) (tabG t)) d38 = true := by kernel_rfl

noncomputable def d39 : List DeepE := [⟨29,[va [vi 4,vi 4]],[],vr 0 0 88 9223372036854775808,[r142]⟩,⟨35,[va [vi 2,vi 1,vr 0 0 2 2]],[r80],vp [va [vi 2,vi 1,vr 1 0 2 2],vi 0],[r0]⟩,⟨35,[va [vi 2,vi 1,vr 0 0 2 9223372036854775808]],[r0],vp [va [vi 2,vi 1,vr 1 0 2 2],vi 0],[r80]⟩,⟨35,[va [vi 1,vi 1,vr 0 0 3 3]],[r81],vp [va [vi 1,vi 1,vr 1 0 3 3],vi 0],[r1]⟩,⟨35,[va [vi 1,vi 1,vr 0 0 3 9223372036854775808]],[r1],vp [va [vi 1,vi 1,vr 1 0 3 3],vi 0],[r81]⟩,⟨35,[va [vi 1,vi 2,vr 0 0 6 9223372036854775808]],[r3],vp [va [vi 1,vi 2,vr 1 0 6 6],vi 0],[r96]⟩,⟨35,[va [vi 1,vi 2,vr 0 0 6 6]],[r96],vp [va [vi 1,vi 2,vr 1 0 6 6],vi 0],[r3]⟩,⟨35,[va [vi 4,vi 1,vr 0 0 5 5]],[r87],vp [va [vi 4,vi 1,vr 1 0 5 5],vi 0],[r2]⟩,⟨35,[va [vi 4,vi 1,vr 0 0 5 9223372036854775808]],[r2],vp [va [vi 4,vi 1,vr 1 0 5 5],vi 0],[r87]⟩,⟨35,[va [vi 3,vi 1,vr 0 0 6 6]],[r95],vp [va [vi 3,vi 1,vr 1 0 6 6],vi 0],[r4]⟩,⟨35,[va [vi 3,vi 1,vr 0 0 6 9223372036854775808]],[r4],vp [va [vi 3,vi 1,vr 1 0 6 6],vi 0],[r95]⟩]
theorem d39_run (t : Nat → TypeId) : allL (deepOk Tryz.prog (ndOrc Tryz.prog (tabG t) (orcL (e0 ++ e1 ++ e2 ++ e3 ++ e4 ++ e5 ++ e6 ++ e7 ++ e8 ++ e10 ++ e12 ++ e13 ++ e14 ++ e15 ++ e17 ++ e22 ++ e23)) 274877906944 (d25) noCuts) (tabG t)) d39 = true := by kernel_rfl

noncomputable def d40 : List DeepE := [⟨35,[va [vi 2,vi 1,vr 0 0 9 9]],[r102],vp [va [vi 2,vi 1,vr 1 0 9 9],vi 0],[r5]⟩,⟨35,[va [vi 2,vi 1,vr 0 0 9 9223372036854775808]],[r5],vp [va [vi 2,vi 1,vr 1 0 9 9],vi 0],[r102]⟩,⟨35,[va [vi 1,vi 4,vr 0 0 13 13]],[r12],vp [va [vi 1,vi 4,vr 1 0 13 13],vi 0],[r11]⟩,⟨35,[va [vi 1,vi 4,vr 0 0 13 9223372036854775808]],[r11],vp [va [vi 1,vi 4,vr 1 0 13 13],vi 0],[r12]⟩,⟨35,[va [vi 2,vi 2,vr 0 0 12 12]],[r113],vp [va [vi 2,vi 2,vr 1 0 12 12],vi 0],[r9]⟩,⟨35,[va [vi 2,vi 2,vr 0 0 12 9223372036854775808]],[r9],vp [va [vi 2,vi 2,vr 1 0 12 12],vi 0],[r113]⟩,⟨35,[va [vi 4,vi 1,vr 0 0 12 12]],[r114],vp [va [vi 4,vi 1,vr 1 0 12 12],vi 0],[r10]⟩]
theorem d40_run (t : Nat → TypeId) : allL (deepOk Tryz.prog (ndOrc Tryz.prog (tabG t) (orcL (e0 ++ e1 ++ e2 ++ e3 ++ e4 ++ e5 ++ e6 ++ e8 ++ e9 ++ e10 ++ e12 ++ e13 ++ e14 ++ e15 ++ e17 ++ e23)) 431359146674410236714672241392314090778194310760649159697932641894400 (d21 ++ d25 ++ d26 ++ d27) noCuts) (tabG t)) d40 = true := by kernel_rfl

noncomputable def d41 : List DeepE := [⟨35,[va [vi 2,vi 3,vr 0 0 16 16]],[r19],vp [va [vi 2,vi 3,vr 1 0 16 16],vi 0],[r18]⟩,⟨35,[va [vi 2,vi 3,vr 0 0 16 9223372036854775808]],[r18],vp [va [vi 2,vi 3,vr 1 0 16 16],vi 0],[r19]⟩,⟨35,[va [vi 4,vi 2,vr 0 0 11 11]],[r107],vp [va [vi 4,vi 2,vr 1 0 11 11],vi 0],[r8]⟩,⟨35,[va [vi 4,vi 2,vr 0 0 11 9223372036854775808]],[r8],vp [va [vi 4,vi 2,vr 1 0 11 11],vi 0],[r107]⟩]
theorem d41_run (t : Nat → TypeId) : allL (deepOk Tryz.prog (ndOrc Tryz.prog (tabG t) (orcL (e0 ++ e1 ++ e2 ++ e3 ++ e4 ++ e5 ++ e6 ++ e9 ++ e10 ++ e12 ++ e13 ++ e14 ++ e15 ++ e16 ++ e17 ++ e23)) 431359146674410236714672241392314090778194310760649159697932641894400 (d11 ++ d21 ++ d26 ++ d27) noCuts) (tabG t)) d41 = true := by kernel_rfl

noncomputable def d42 : List DeepE := [⟨35,[va [vi 4,vi 1,vr 0 0 12 9223372036854775808]],[r10],vp [va [vi 4,vi 1,vr 1 0 12 12],vi 0],[r114]⟩,⟨35,[va [vi 4,vi 4,vr 0 0 34 9223372036854775808]],[r31],vp [va [vi 4,vi 4,vr 1 0 34 34],vi 0],[r30]⟩]
theorem d42_run (t : Nat → TypeId) : allL (deepOk Tryz.prog (ndOrc Tryz.prog (tabG t) (orcL (e1 ++ e2 ++ e3 ++ e4 ++ e5 ++ e6 ++ e7 ++ e9 ++ e10 ++ e13 ++ e14 ++ e15 ++ e17 ++ e23)) 274877906944 (d26 ++ d30) noCuts) (tabG t)) d42 = true := by kernel_rfl

noncomputable def d43 : List DeepE := [⟨35,[va [vi 4,vi 4,vr 0 0 34 34]],[r30],vp [va [vi 4,vi 4,vr 1 0 34 34],vi 0],[r31]⟩,⟨36,[va [vi 1,vi 1,vr 0 0 3 3]],[r82],vp [va [vi 1,vi 1,vr 1 0 3 3],vi 0],[r1]⟩,⟨36,[va [vi 4,vi 1,vr 0 0 5 5]],[r85],vp [va [vi 4,vi 1,vr 1 0 5 5],vi 0],[r2]⟩,⟨36,[va [vi 1,vi 2,vr 0 0 6 6]],[r91],vp [va [vi 1,vi 2,vr 1 0 6 6],vi 0],[r3]⟩,⟨36,[va [vi 3,vi 1,vr 0 0 6 6]],[r94],vp [va [vi 3,vi 1,vr 1 0 6 6],vi 0],[r4]⟩,⟨36,[va [vi 2,vi 1,vr 0 0 9 9]],[r101],vp [va [vi 2,vi 1,vr 1 0 9 9],vi 0],[r5]⟩,⟨36,[va [vi 4,vi 2,vr 0 0 11 11]],[r108],vp [va [vi 4,vi 2,vr 1 0 11 11],vi 0],[r8]⟩,⟨36,[va [vi 2,vi 2,vr 0 0 12 12]],[r111],vp [va [vi 2,vi 2,vr 1 0 12 12],vi 0],[r9]⟩,⟨36,[va [vi 4,vi 1,vr 0 0 12 12]],[r110],vp [va [vi 4,vi 1,vr 1 0 12 12],vi 0],[r10]⟩,⟨36,[va [vi 1,vi 4,vr 0 0 13 13]],[r115],vp [va [vi 1,vi 4,vr 1 0 13 13],vi 0],[r11]⟩,⟨36,[va [vi 2,vi 3,vr 0 0 16 16]],[r118],vp [va [vi 2,vi 3,vr 1 0 16 16],vi 0],[r18]⟩,⟨36,[va [vi 4,vi 4,vr 0 0 34 34]],[r127],vp [va [vi 4,vi 4,vr 1 0 34 34],vi 0],[r31]⟩,⟨36,[va [vi 4,vi 4,vr 0 0 34 9223372036854775808]],[r31],vp [va [vi 4,vi 4,vr 1 0 34 34],vi 0],[r127]⟩,⟨38,[va [vi 3,vi 2,vr 0 0 2 2]],[r143],vi 6,[]⟩,⟨38,[va [vi 3,vi 2,vr 0 0 3 3]],[r144],vi 7,[]⟩,⟨38,[va [vi 3,vi 2,vr 0 0 13 13]],[r145],vi 0,[]⟩,⟨38,[va [vi 3,vi 2,vr 0 0 13 13]],[r52],vi 0,[]⟩,⟨38,[va [vi 3,vi 2,vr 0 0 13 13]],[r53],vi 0,[]⟩]
theorem d43_run (t : Nat → TypeId) : allL (deepOk Tryz.prog (ndOrc Tryz.prog (tabG t) (orcL (e0 ++ e1 ++ e2 ++ e3 ++ e4 ++ e5 ++ e6 ++ e10 ++ e13 ++ e14 ++ e17 ++ e23 ++ e24)) 274877906944 (d25 ++ d26 ++ d27 ++ d30) noCuts) (tabG t)) d43 = true := by kernel_rfl

end Go.Proofs.YtpieoofkikjjjaaGreatDoor
