/-
  Says: what calls answer, as the kernel runs them (level 7).
-/
import Derived.Test.YtkmmnlhmfiabfaaGreatDoorKr
import Derived.Test.YtkmmnlhmfiabfaaGreatDoorKa15
import Derived.Test.YtkmmnlhmfiabfaaGreatDoorKa18
import Derived.Test.YtkmmnlhmfiabfaaGreatDoorKa20
import Derived.Test.YtkmmnlhmfiabfaaGreatDoorKa24
import Derived.Test.YtkmmnlhmfiabfaaGreatDoorKa28
import Derived.Test.YtkmmnlhmfiabfaaGreatDoorKa6
import Derived.Test.YtkmmnlhmfiabfaaGreatDoorKa8
import Derived.KernelRfl
set_option maxRecDepth 1000000
set_option linter.unusedVariables false
set_option linter.unusedSimpArgs false
namespace Go.Proofs.YtkmmnlhmfiabfaaGreatDoor
open Go Go.Vx
attribute [local instance] anySyms

noncomputable def d142 : List DeepE := [⟨4, [va [vu 11,vu 2,vr 0 0 44 9223372036854775808]], [r235], vt, []⟩, ⟨5, [va [vu 8,vu 3], vr 0 0 4 9223372036854775808], [r247], vt, []⟩]
theorem d142_run (t : Nat → TypeId) : allL (deepOk Tryz.prog (deepOrc Tryz.prog (tabG t) (orcL (e85)) 2590720 (d31 ++ d40 ++ d41 ++ d42 ++ d75 ++ d99 ++ d121 ++ d140 ++ d141) noCuts) (tabG t)) d142 = true := by kernel_rfl

end Go.Proofs.YtkmmnlhmfiabfaaGreatDoor
