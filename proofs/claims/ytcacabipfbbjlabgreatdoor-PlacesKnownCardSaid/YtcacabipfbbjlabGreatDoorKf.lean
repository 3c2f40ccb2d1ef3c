/-
  Says: the statement, run over what is known.
-/
import Derived.Test.YtcacabipfbbjlabGreatDoorKr
import Derived.Test.YtcacabipfbbjlabGreatDoorKa0
import Derived.Test.YtcacabipfbbjlabGreatDoorKa1
import Derived.Test.YtcacabipfbbjlabGreatDoorKa10
import Derived.Test.YtcacabipfbbjlabGreatDoorKa11
import Derived.Test.YtcacabipfbbjlabGreatDoorKa13
import Derived.Test.YtcacabipfbbjlabGreatDoorKa16
import Derived.Test.YtcacabipfbbjlabGreatDoorKa17
import Derived.Test.YtcacabipfbbjlabGreatDoorKa2
import Derived.Test.YtcacabipfbbjlabGreatDoorKa23
import Derived.Test.YtcacabipfbbjlabGreatDoorKa24
import Derived.Test.YtcacabipfbbjlabGreatDoorKa28
import Derived.Test.YtcacabipfbbjlabGreatDoorKa3
import Derived.Test.YtcacabipfbbjlabGreatDoorKa33
import Derived.Test.YtcacabipfbbjlabGreatDoorKa34
import Derived.Test.YtcacabipfbbjlabGreatDoorKa35
import Derived.Test.YtcacabipfbbjlabGreatDoorKa4
import Derived.Test.YtcacabipfbbjlabGreatDoorKa6
import Derived.Test.YtcacabipfbbjlabGreatDoorKa8
import Derived.Test.YtcacabipfbbjlabGreatDoorKa9
import Derived.KernelRfl
set_option maxRecDepth 1000000
set_option linter.unusedVariables false
set_option linter.unusedSimpArgs false
namespace Go.Proofs.YtcacabipfbbjlabGreatDoor
open Go Go.Vx
attribute [local instance] anySyms
theorem last_run (t : Nat → TypeId) : allL (entOk Tryz.prog (deepOrc Tryz.prog (tabG t) (orcL (e0 ++ e7 ++ e12 ++ e29 ++ e38 ++ e52 ++ e58 ++ e76 ++ e106 ++ e149 ++ e181 ++ e182)) 2658455991569831745807627332182478704 (d20 ++ d24 ++ d64 ++ d83 ++ d84 ++ d107 ++ d112 ++ d114 ++ d115 ++ d116 ++ d154 ++ d158 ++ d160 ++ d174 ++ d183 ++ d184 ++ d185 ++ d186 ++ d187 ++ d188 ++ d189 ++ d190 ++ d191 ++ d192) noCuts) (tabG t)) [(3, [], vt)] = true := by kernel_rfl

end Go.Proofs.YtcacabipfbbjlabGreatDoor
