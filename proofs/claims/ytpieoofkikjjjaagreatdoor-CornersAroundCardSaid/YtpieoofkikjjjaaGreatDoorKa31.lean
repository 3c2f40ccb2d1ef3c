/-
  Says: what calls answer, as the kernel runs them (level 3).
-/
import Derived.Test.YtpieoofkikjjjaaGreatDoorKr
import Derived.Test.YtpieoofkikjjjaaGreatDoorKa0
import Derived.Test.YtpieoofkikjjjaaGreatDoorKa1
import Derived.Test.YtpieoofkikjjjaaGreatDoorKa30
import Derived.KernelRfl
set_option maxRecDepth 1000000
set_option linter.unusedVariables false
set_option linter.unusedSimpArgs false
namespace Go.Proofs.YtpieoofkikjjjaaGreatDoor
open Go Go.Vx
attribute [local instance] anySyms

noncomputable def e331 : List Ent := [(127,[va [vi 2,vi 2],va [vi 0,vu 2]],vp [va [vi 0,vi 0,vi 1,vi 1],vi 0])]
theorem e331_run (t : Nat → TypeId) : allL (entOk Tryz.prog (valOrc (fun _ => false) (tabG t) (gO (e11 ++ e329))) (tabG t)) e331 = true := by kernel_rfl

noncomputable def d332 : List DeepE := [⟨20,[va [vi 5,vi 5],va [vi 5,vi 7]],[],vp [vr 0 0 4 4,vi 0],[r102]⟩,⟨20,[va [vi 5,vi 5],va [vi 7,vi 7]],[],vp [vr 0 0 4 4,vi 0],[r103]⟩,⟨20,[va [vi 4,vi 5],va [vi 3,vi 9]],[],vp [vr 0 0 4 4,vi 0],[r102]⟩,⟨20,[va [vi 4,vi 5],va [vi 5,vi 9]],[],vp [vr 0 0 4 4,vi 0],[r103]⟩,⟨20,[va [vi 5,vi 4],va [vi 5,vi 7]],[],vp [vr 0 0 4 4,vi 0],[r102]⟩,⟨20,[va [vi 5,vi 4],va [vi 7,vi 7]],[],vp [vr 0 0 4 4,vi 0],[r103]⟩,⟨20,[va [vi 5,vi 5],va [vi 3,vi 9]],[],vp [vr 0 0 4 4,vi 0],[r110]⟩,⟨20,[va [vi 5,vi 5],va [vi 5,vi 9]],[],vp [vr 0 0 4 4,vi 0],[r111]⟩,⟨20,[va [vi 5,vi 5],va [vi 7,vi 9]],[],vp [vr 0 0 4 4,vi 0],[r112]⟩,⟨20,[va [vi 5,vi 5],va [vi 9,vi 7]],[],vp [vr 0 0 4 4,vi 0],[r104]⟩,⟨20,[va [vi 4,vi 5],va [vi 7,vi 9]],[],vp [vr 0 0 4 4,vi 0],[r104]⟩,⟨20,[va [vi 5,vi 4],va [vi 9,vi 7]],[],vp [vr 0 0 4 4,vi 0],[r104]⟩,⟨20,[va [vi 5,vi 5],va [vi 1,vi 9]],[],vp [vr 0 0 4 4,vi 0],[r109]⟩,⟨20,[va [vi 5,vi 5],va [vi 2,vi 8]],[],vp [vr 0 0 8 8,vi 0],[r105]⟩,⟨20,[va [vi 5,vi 5],va [vi 4,vi 8]],[],vp [vr 0 0 8 8,vi 0],[r106]⟩,⟨20,[va [vi 5,vi 5],va [vi 6,vi 8]],[],vp [vr 0 0 8 8,vi 0],[r107]⟩,⟨20,[va [vi 5,vi 5],va [vi 9,vi 9]],[],vp [vr 0 0 4 4,vi 0],[r113]⟩,⟨20,[va [vi 5,vi 5],va [vi 8,vi 8]],[],vp [vr 0 0 8 8,vi 0],[r108]⟩,⟨38,[va [vi 2,vi 2,vr 0 0 5 5]],[r115],vi 0,[]⟩,⟨51,[va [vi 2,vi 2],vr 0 0 3 3],[r116],vp [va [vi 2,vi 2,vr 1 0 5 5],vi 0,vi 0],[r115]⟩]
theorem d332_run (t : Nat → TypeId) : allL (deepOk Tryz.prog (deepOrc Tryz.prog (tabG t) (gO (e0 ++ e2 ++ e3 ++ e4 ++ e5 ++ e10 ++ e11 ++ e327 ++ e329)) 32768 (d330) noCuts) (tabG t)) d332 = true := by kernel_rfl

end Go.Proofs.YtpieoofkikjjjaaGreatDoor
