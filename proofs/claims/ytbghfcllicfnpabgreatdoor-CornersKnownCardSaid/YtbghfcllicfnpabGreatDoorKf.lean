/-
  Says: the statement, run over what is known.
-/
import Derived.Test.YtbghfcllicfnpabGreatDoorKr
import Derived.Test.YtbghfcllicfnpabGreatDoorKa0
import Derived.Test.YtbghfcllicfnpabGreatDoorKa1
import Derived.Test.YtbghfcllicfnpabGreatDoorKa10
import Derived.Test.YtbghfcllicfnpabGreatDoorKa25
import Derived.Test.YtbghfcllicfnpabGreatDoorKa26
import Derived.Test.YtbghfcllicfnpabGreatDoorKa28
import Derived.Test.YtbghfcllicfnpabGreatDoorKa29
import Derived.Test.YtbghfcllicfnpabGreatDoorKa31
import Derived.Test.YtbghfcllicfnpabGreatDoorKa32
import Derived.Test.YtbghfcllicfnpabGreatDoorKa34
import Derived.Test.YtbghfcllicfnpabGreatDoorKa36
import Derived.Test.YtbghfcllicfnpabGreatDoorKa37
import Derived.Test.YtbghfcllicfnpabGreatDoorKa38
import Derived.Test.YtbghfcllicfnpabGreatDoorKa39
import Derived.Test.YtbghfcllicfnpabGreatDoorKa40
import Derived.Test.YtbghfcllicfnpabGreatDoorKa41
import Derived.KernelRfl
set_option maxRecDepth 1000000
set_option linter.unusedVariables false
set_option linter.unusedSimpArgs false
namespace Go.Proofs.YtbghfcllicfnpabGreatDoor
open Go Go.Vx
attribute [local instance] anySyms
theorem last_run (t : Nat → TypeId) : allL (entOk Tryz.prog (deepOrc Tryz.prog (tabG t) (orcL (e0 ++ e74 ++ e97 ++ e98 ++ e99 ++ e100)) 4503599770084224 (d8 ++ d36 ++ d78 ++ d91 ++ d92 ++ d102 ++ d105 ++ d110 ++ d111 ++ d117 ++ d118 ++ d119 ++ d120 ++ d121 ++ d122 ++ d123 ++ d124 ++ d125 ++ d127 ++ d128 ++ d129 ++ d130) noCuts) (tabG t)) [(3, [], vt)] = true := by kernel_rfl

end Go.Proofs.YtbghfcllicfnpabGreatDoor
