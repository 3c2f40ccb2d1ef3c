/-
  Says: what calls answer, as the kernel runs them (level 0).
-/
import Derived.Test.YtcacabipfbbjlabGreatDoorKr
import Derived.KernelRfl
set_option maxRecDepth 1000000
set_option linter.unusedVariables false
set_option linter.unusedSimpArgs false
namespace Go.Proofs.YtcacabipfbbjlabGreatDoor
open Go Go.Vx
attribute [local instance] anySyms

noncomputable def d23 : List DeepE := [⟨84,[vr 0 0 23 9223372036854775808,va [vi 17,vi 8,vu 2]],[r83],vr 1 0 24 9223372036854775808,[r86]⟩,⟨84,[vr 0 0 32 9223372036854775808,va [vi 16,vi 6,vu 0]],[r85],vr 1 0 33 9223372036854775808,[r87]⟩,⟨84,[vr 0 0 29 9223372036854775808,va [vi 16,vn 0,vu 2]],[r84],vr 1 0 30 9223372036854775808,[r19]⟩,⟨84,[vr 0 0 25 9223372036854775808,va [vi 17,vi 8,vu 0]],[r88],vr 1 0 26 9223372036854775808,[r17]⟩,⟨84,[vr 0 0 24 9223372036854775808,va [vi 17,vi 8,vu 3]],[r86],vr 1 0 25 9223372036854775808,[r88]⟩,⟨84,[vr 0 0 33 9223372036854775808,va [vi 16,vi 6,vu 1]],[r87],vr 1 0 34 9223372036854775808,[r89]⟩,⟨84,[vr 0 0 34 9223372036854775808,va [vi 15,vi 6,vu 2]],[r89],vr 1 0 35 9223372036854775808,[r90]⟩,⟨84,[vr 0 0 35 9223372036854775808,va [vi 15,vi 6,vu 3]],[r90],vr 1 0 36 9223372036854775808,[r91]⟩,⟨84,[vr 0 0 36 9223372036854775808,va [vi 15,vi 6,vu 0]],[r91],vr 1 0 37 9223372036854775808,[r92]⟩,⟨84,[vr 0 0 37 9223372036854775808,va [vi 15,vi 6,vu 1]],[r92],vr 1 0 38 9223372036854775808,[r93]⟩,⟨84,[vr 0 0 38 9223372036854775808,va [vi 14,vi 6,vu 2]],[r93],vr 1 0 39 9223372036854775808,[r94]⟩,⟨84,[vr 0 0 39 9223372036854775808,va [vi 14,vi 6,vu 3]],[r94],vr 1 0 40 9223372036854775808,[r95]⟩]
theorem d23_run (t : Nat → TypeId) : allL (deepOk Tryz.prog (noOrc (tabG t)) (tabG t)) d23 = true := by kernel_rfl

noncomputable def d24 : List DeepE := [⟨84,[vr 0 0 40 9223372036854775808,va [vi 14,vi 6,vu 0]],[r95],vr 1 0 41 9223372036854775808,[r96]⟩,⟨84,[vr 0 0 41 9223372036854775808,va [vi 14,vi 6,vu 1]],[r96],vr 1 0 42 9223372036854775808,[r97]⟩,⟨84,[vr 0 0 42 9223372036854775808,va [vi 13,vi 6,vu 2]],[r97],vr 1 0 43 9223372036854775808,[r98]⟩,⟨84,[vr 0 0 43 9223372036854775808,va [vi 13,vi 6,vu 3]],[r98],vr 1 0 44 9223372036854775808,[r99]⟩,⟨84,[vr 0 0 44 9223372036854775808,va [vi 13,vi 6,vu 0]],[r99],vr 1 0 45 9223372036854775808,[r100]⟩,⟨84,[vr 0 0 45 9223372036854775808,va [vi 13,vi 6,vu 1]],[r100],vr 1 0 46 9223372036854775808,[r21]⟩,⟨94,[vr 0 0 16 16],[r101],vt,[]⟩,⟨94,[vr 0 0 36 36],[r102],vt,[]⟩,⟨94,[vr 0 0 48 48],[r103],vt,[]⟩,⟨121,[vr 0 0 1 9223372036854775808,(vfn 122)],[r104],vp [],[]⟩,⟨121,[vr 0 0 1 9223372036854775808,(vfn 122)],[r105],vp [],[]⟩,⟨121,[vr 0 0 1 9223372036854775808,(vfn 122)],[r106],vp [],[]⟩,⟨121,[vr 0 0 1 9223372036854775808,(vfn 122)],[r107],vp [],[]⟩,⟨121,[vr 0 0 1 9223372036854775808,(vfn 122)],[r108],vp [],[]⟩,⟨172,[vr 0 0 48 9223372036854775808,vi 0,vi 22,(vfn 97)],[r109],vf,[]⟩,⟨172,[vr 0 0 48 9223372036854775808,vi 9,vi 22,(vfn 97)],[r110],vf,[]⟩,⟨215,[vr 0 0 48 9223372036854775808,vi 29,vi 35,vq 1 0,(vfn 97)],[r111,r112],vp [vi 29,vi 35],[]⟩,⟨215,[vr 0 0 48 9223372036854775808,vi 5,vi 10,vq 1 0,(vfn 97)],[r109,r112],vp [vi 5,vi 10],[]⟩,⟨215,[vr 0 0 48 9223372036854775808,vi 12,vi 15,vq 1 0,(vfn 97)],[r110,r112],vp [vi 12,vi 15],[]⟩]
theorem d24_run (t : Nat → TypeId) : allL (deepOk Tryz.prog (noOrc (tabG t)) (tabG t)) d24 = true := by kernel_rfl

end Go.Proofs.YtcacabipfbbjlabGreatDoor
