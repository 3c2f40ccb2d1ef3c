/-
  Says: what calls answer, as the kernel runs them (level 5).
-/
import Derived.Test.YtbghfcllicfnpabGreatDoorKr
import Derived.Test.YtbghfcllicfnpabGreatDoorKa0
import Derived.Test.YtbghfcllicfnpabGreatDoorKa1
import Derived.Test.YtbghfcllicfnpabGreatDoorKa10
import Derived.Test.YtbghfcllicfnpabGreatDoorKa11
import Derived.Test.YtbghfcllicfnpabGreatDoorKa12
import Derived.Test.YtbghfcllicfnpabGreatDoorKa21
import Derived.Test.YtbghfcllicfnpabGreatDoorKa25
import Derived.Test.YtbghfcllicfnpabGreatDoorKa28
import Derived.Test.YtbghfcllicfnpabGreatDoorKa29
import Derived.Test.YtbghfcllicfnpabGreatDoorKa30
import Derived.Test.YtbghfcllicfnpabGreatDoorKa9
import Derived.KernelRfl
set_option maxRecDepth 1000000
set_option linter.unusedVariables false
set_option linter.unusedSimpArgs false
namespace Go.Proofs.YtbghfcllicfnpabGreatDoor
open Go Go.Vx
attribute [local instance] anySyms

noncomputable def d110 : List DeepE := [⟨16, [va [vi 2,vi 4,vr 0 0 34 9223372036854775808], va [vi 2,vi 4]], [r146], vp [vr 1 0 7 7,vi 0], [r212]⟩, ⟨16, [va [vi 4,vi 4,vr 0 0 41 9223372036854775808], va [vi 2,vi 2]], [r154], vp [vr 1 0 7 7,vi 0], [r213]⟩, ⟨16, [va [vi 3,vi 4,vr 0 0 36 9223372036854775808], va [vi 2,vi 4]], [r148], vp [vr 1 0 8 8,vi 0], [r214]⟩, ⟨16, [va [vi 2,vi 4,vr 0 0 34 34], va [vi 3,vi 7]], [r215], vp [vr 1 0 2 2,vi 0], [r27]⟩]
theorem d110_run (t : Nat → TypeId) : allL (deepOk Tryz.prog (deepOrc Tryz.prog (tabG t) (orcL (e2 ++ e3 ++ e4 ++ e5 ++ e32 ++ e33 ++ e38 ++ e63 ++ e64 ++ e74 ++ e75)) 590295810496144613376 (d8 ++ d36 ++ d90 ++ d91) noCuts) (tabG t)) d110 = true := by kernel_rfl

noncomputable def d111 : List DeepE := [⟨16, [va [vi 3,vi 4,vr 0 0 36 36], va [vi 5,vi 5]], [r216], vp [vr 1 0 3 3,vi 0], [r217]⟩, ⟨16, [va [vi 4,vi 3,vr 0 0 36 36], va [vi 7,vi 3]], [r218], vp [vr 1 0 4 4,vi 0], [r219]⟩]
theorem d111_run (t : Nat → TypeId) : allL (deepOk Tryz.prog (valOrc (fun _ => false) (tabG t) (orcL (e2 ++ e3 ++ e4 ++ e5 ++ e7 ++ e32 ++ e33 ++ e38 ++ e43 ++ e63 ++ e64 ++ e74 ++ e75))) (tabG t)) d111 = true := by kernel_rfl

noncomputable def d112 : List DeepE := [⟨16, [va [vi 4,vi 4,vr 0 0 41 41], va [vi 6,vi 4]], [r220], vp [vr 1 0 6 6,vi 0], [r221]⟩, ⟨17, [va [vi 4,vi 4,vr 0 0 41 9223372036854775808], va [vi 7,vi 5]], [r154], vp [vi 0,vi 0], []⟩, ⟨23, [va [vu 12,vu 4,vr 0 0 50 9223372036854775808]], [r222], va [vi 1,vi 1,vr 1 0 2 9223372036854775808], [r50]⟩, ⟨23, [va [vu 0,vu 0,vr 0 0 50 9223372036854775808]], [r223], va [vi 1,vi 1,vr 1 0 3 9223372036854775808], [r51]⟩, ⟨23, [va [vu 13,vu 4,vr 0 0 50 9223372036854775808]], [r224], va [vi 2,vi 1,vr 1 0 4 9223372036854775808], [r53]⟩, ⟨23, [va [vu 1,vu 0,vr 0 0 50 9223372036854775808]], [r225], va [vi 2,vi 1,vr 1 0 8 9223372036854775808], [r57]⟩, ⟨23, [va [vu 4,vu 1,vr 0 0 50 9223372036854775808]], [r226], va [vi 1,vi 2,vr 1 0 8 9223372036854775808], [r56]⟩, ⟨23, [va [vu 14,vu 4,vr 0 0 50 9223372036854775808]], [r227], va [vi 3,vi 1,vr 1 0 11 9223372036854775808], [r62]⟩, ⟨23, [va [vu 2,vu 0,vr 0 0 50 9223372036854775808]], [r228], va [vi 3,vi 1,vr 1 0 11 9223372036854775808], [r61]⟩, ⟨23, [va [vu 5,vu 1,vr 0 0 50 9223372036854775808]], [r229], va [vi 2,vi 2,vr 1 0 17 9223372036854775808], [r64]⟩]
theorem d112_run (t : Nat → TypeId) : allL (deepOk Tryz.prog (deepOrc Tryz.prog (tabG t) (orcL (e2 ++ e3 ++ e4 ++ e5 ++ e6 ++ e32 ++ e33 ++ e38 ++ e43 ++ e64 ++ e74 ++ e75)) 4503737066332160 (d36 ++ d91) noCuts) (tabG t)) d112 = true := by kernel_rfl

noncomputable def d113 : List DeepE := [⟨23, [va [vu 3,vu 1,vr 0 0 50 9223372036854775808]], [r230], va [vi 4,vi 2,vr 1 0 31 9223372036854775808], [r65]⟩, ⟨23, [va [vu 15,vu 5,vr 0 0 50 9223372036854775808]], [r231], va [vi 4,vi 2,vr 1 0 35 9223372036854775808], [r66]⟩, ⟨23, [va [vu 6,vu 2,vr 0 0 50 9223372036854775808]], [r232], va [vi 3,vi 3,vr 1 0 35 9223372036854775808], [r118]⟩, ⟨23, [va [vu 7,vu 2,vr 0 0 50 9223372036854775808]], [r233], va [vi 4,vi 3,vr 1 0 36 9223372036854775808], [r151]⟩, ⟨23, [va [vu 11,vu 3,vr 0 0 50 9223372036854775808]], [r234], va [vi 4,vi 4,vr 1 0 41 9223372036854775808], [r154]⟩]
theorem d113_run (t : Nat → TypeId) : allL (deepOk Tryz.prog (deepOrc Tryz.prog (tabG t) (orcL ([])) 4503599627370496 (d92 ++ d93 ++ d94 ++ d96) noCuts) (tabG t)) d113 = true := by kernel_rfl

end Go.Proofs.YtbghfcllicfnpabGreatDoor
