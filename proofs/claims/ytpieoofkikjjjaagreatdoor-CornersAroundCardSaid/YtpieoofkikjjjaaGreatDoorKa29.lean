/-
  Says: what calls answer, as the kernel runs them (level 1).
-/
import Derived.Test.YtpieoofkikjjjaaGreatDoorKr
import Derived.Test.YtpieoofkikjjjaaGreatDoorKa0
import Derived.KernelRfl
set_option maxRecDepth 1000000
set_option linter.unusedVariables false
set_option linter.unusedSimpArgs false
namespace Go.Proofs.YtpieoofkikjjjaaGreatDoor
open Go Go.Vx
attribute [local instance] anySyms

noncomputable def d325 : List DeepE := [⟨22,[va [vi 5,vi 5],va [vi 9,vi 9]],[],vr 0 0 4 9223372036854775808,[r113]⟩]
theorem d325_run (t : Nat → TypeId) : allL (deepOk Tryz.prog (deepOrc Tryz.prog (tabG t) (gO ([])) 2305843009213693952 (d9) noCuts) (tabG t)) d325 = true := by kernel_rfl

noncomputable def d326 : List DeepE := [⟨100,[vr 0 0 32 32,va [vi 3,vi 9]],[r23],vt,[]⟩,⟨100,[vr 0 0 32 32,va [vi 5,vi 7]],[r22],vt,[]⟩,⟨100,[vr 0 0 32 32,va [vi 5,vi 9]],[r23],vt,[]⟩,⟨100,[vr 0 0 32 32,va [vi 7,vi 7]],[r22],vt,[]⟩,⟨100,[vr 0 0 32 32,va [vi 7,vi 9]],[r23],vt,[]⟩,⟨100,[vr 0 0 32 32,va [vi 9,vi 7]],[r22],vt,[]⟩,⟨100,[vr 0 0 41 41,va [vi 1,vi 9]],[r24],vt,[]⟩,⟨100,[vr 0 0 41 41,va [vi 2,vi 8]],[r24],vt,[]⟩,⟨100,[vr 0 0 41 41,va [vi 3,vi 9]],[r24],vt,[]⟩,⟨100,[vr 0 0 41 41,va [vi 4,vi 8]],[r24],vt,[]⟩,⟨100,[vr 0 0 41 41,va [vi 5,vi 7]],[r24],vt,[]⟩,⟨100,[vr 0 0 41 41,va [vi 5,vi 9]],[r24],vt,[]⟩,⟨100,[vr 0 0 41 41,va [vi 6,vi 8]],[r24],vt,[]⟩,⟨100,[vr 0 0 41 41,va [vi 7,vi 7]],[r24],vt,[]⟩,⟨100,[vr 0 0 41 41,va [vi 7,vi 9]],[r24],vt,[]⟩,⟨100,[vr 0 0 41 41,va [vi 8,vi 8]],[r24],vt,[]⟩,⟨100,[vr 0 0 41 41,va [vi 9,vi 7]],[r24],vt,[]⟩,⟨100,[vr 0 0 41 41,va [vi 9,vi 9]],[r24],vt,[]⟩]
theorem d326_run (t : Nat → TypeId) : allL (deepOk Tryz.prog (deepOrc Tryz.prog (tabG t) (gO ([])) 174224571863520493293247799005065324265472 (d9) noCuts) (tabG t)) d326 = true := by kernel_rfl

end Go.Proofs.YtpieoofkikjjjaaGreatDoor
