/-
  Says: what is no corner of a sheet: runs.
-/
import Derived.Test.YtbghfcllicfnpaaGreatDoorCg
import Derived.Test.YtbghfcllicfnpaaGreatDoorKr
import Derived.Test.YtbghfcllicfnpaaGreatDoorKa0
import Derived.Test.YtbghfcllicfnpaaGreatDoorKa1
import Derived.Test.YtbghfcllicfnpaaGreatDoorKa2
import Derived.Test.YtbghfcllicfnpaaGreatDoorKa3
import Derived.Test.YtbghfcllicfnpaaGreatDoorKa4
import Derived.Test.YtbghfcllicfnpaaGreatDoorKa5
import Derived.Test.YtbghfcllicfnpaaGreatDoorKa6
import Derived.Test.YtbghfcllicfnpaaGreatDoorKa7
import Derived.Test.YtbghfcllicfnpaaGreatDoorKa8
import Derived.Test.YtbghfcllicfnpaaGreatDoorKa9
import Derived.Test.YtbghfcllicfnpaaGreatDoorKa10
import Derived.Test.YtbghfcllicfnpaaGreatDoorKa11
import Derived.Test.YtbghfcllicfnpaaGreatDoorKa12
import Derived.Test.YtbghfcllicfnpaaGreatDoorKa13
import Derived.Test.YtbghfcllicfnpaaGreatDoorKa14
import Derived.Test.YtbghfcllicfnpaaGreatDoorKa15
import Derived.Test.YtbghfcllicfnpaaGreatDoorKa16
import Derived.Test.YtbghfcllicfnpaaGreatDoorKa17
import Derived.Test.YtbghfcllicfnpaaGreatDoorKa18
import Derived.Test.YtbghfcllicfnpaaGreatDoorKa19
import Derived.KernelRfl
set_option linter.unusedVariables false
set_option linter.unusedSimpArgs false
namespace Go.Proofs.YtbghfcllicfnpaaGreatDoor
open Go Go.RowKit

open Go.Vx
set_option maxRecDepth 1000000
section
attribute [local instance] anySyms
noncomputable def qa_1_1 (t : Nat → TypeId) : Orc := deepOrc Tryz.prog (tabG t) (orcL []) 1024 d8 noCuts
theorem ra_1_1 (t : Nat → TypeId) : rAll t (qa_1_1 t) 1 1 = true := by kernel_rfl
noncomputable def qa_1_2 (t : Nat → TypeId) : Orc := deepOrc Tryz.prog (tabG t) (orcL []) 1024 d8 noCuts
theorem ra_1_2 (t : Nat → TypeId) : rAll t (qa_1_2 t) 1 2 = true := by kernel_rfl
noncomputable def qa_1_3 (t : Nat → TypeId) : Orc := deepOrc Tryz.prog (tabG t) (orcL []) 1024 d8 noCuts
theorem ra_1_3 (t : Nat → TypeId) : rAll t (qa_1_3 t) 1 3 = true := by kernel_rfl
noncomputable def qa_1_4 (t : Nat → TypeId) : Orc := deepOrc Tryz.prog (tabG t) (orcL []) 1024 d8 noCuts
theorem ra_1_4 (t : Nat → TypeId) : rAll t (qa_1_4 t) 1 4 = true := by kernel_rfl
noncomputable def qa_1_5 (t : Nat → TypeId) : Orc := deepOrc Tryz.prog (tabG t) (orcL []) 1024 d16 noCuts
theorem ra_1_5 (t : Nat → TypeId) : rAll t (qa_1_5 t) 1 5 = true := by kernel_rfl
noncomputable def qa_2_1 (t : Nat → TypeId) : Orc := deepOrc Tryz.prog (tabG t) (orcL []) 1024 d8 noCuts
theorem ra_2_1 (t : Nat → TypeId) : rAll t (qa_2_1 t) 2 1 = true := by kernel_rfl
noncomputable def qa_2_2 (t : Nat → TypeId) : Orc := deepOrc Tryz.prog (tabG t) (orcL []) 1024 d8 noCuts
theorem ra_2_2 (t : Nat → TypeId) : rAll t (qa_2_2 t) 2 2 = true := by kernel_rfl
noncomputable def qa_2_3 (t : Nat → TypeId) : Orc := deepOrc Tryz.prog (tabG t) (orcL []) 1024 d8 noCuts
theorem ra_2_3 (t : Nat → TypeId) : rAll t (qa_2_3 t) 2 3 = true := by kernel_rfl
noncomputable def qa_2_4 (t : Nat → TypeId) : Orc := deepOrc Tryz.prog (tabG t) (orcL []) 1024 d8 noCuts
theorem ra_2_4 (t : Nat → TypeId) : rAll t (qa_2_4 t) 2 4 = true := by kernel_rfl
noncomputable def qa_2_5 (t : Nat → TypeId) : Orc := deepOrc Tryz.prog (tabG t) (orcL []) 1024 d8 noCuts
theorem ra_2_5 (t : Nat → TypeId) : rAll t (qa_2_5 t) 2 5 = true := by kernel_rfl
noncomputable def qa_3_1 (t : Nat → TypeId) : Orc := deepOrc Tryz.prog (tabG t) (orcL []) 1024 d8 noCuts
theorem ra_3_1 (t : Nat → TypeId) : rAll t (qa_3_1 t) 3 1 = true := by kernel_rfl
noncomputable def qa_3_2 (t : Nat → TypeId) : Orc := deepOrc Tryz.prog (tabG t) (orcL []) 1024 d8 noCuts
theorem ra_3_2 (t : Nat → TypeId) : rAll t (qa_3_2 t) 3 2 = true := by kernel_rfl
noncomputable def qa_3_3 (t : Nat → TypeId) : Orc := deepOrc Tryz.prog (tabG t) (orcL []) 1024 d8 noCuts
theorem ra_3_3 (t : Nat → TypeId) : rAll t (qa_3_3 t) 3 3 = true := by kernel_rfl
noncomputable def qa_3_4 (t : Nat → TypeId) : Orc := deepOrc Tryz.prog (tabG t) (orcL []) 1024 d8 noCuts
theorem ra_3_4 (t : Nat → TypeId) : rAll t (qa_3_4 t) 3 4 = true := by kernel_rfl
noncomputable def qa_3_5 (t : Nat → TypeId) : Orc := deepOrc Tryz.prog (tabG t) (orcL []) 1024 d8 noCuts
theorem ra_3_5 (t : Nat → TypeId) : rAll t (qa_3_5 t) 3 5 = true := by kernel_rfl
noncomputable def qa_4_1 (t : Nat → TypeId) : Orc := deepOrc Tryz.prog (tabG t) (orcL []) 1024 d8 noCuts
theorem ra_4_1 (t : Nat → TypeId) : rAll t (qa_4_1 t) 4 1 = true := by kernel_rfl
noncomputable def qa_4_2 (t : Nat → TypeId) : Orc := deepOrc Tryz.prog (tabG t) (orcL []) 1024 d8 noCuts
theorem ra_4_2 (t : Nat → TypeId) : rAll t (qa_4_2 t) 4 2 = true := by kernel_rfl
noncomputable def qa_4_3 (t : Nat → TypeId) : Orc := deepOrc Tryz.prog (tabG t) (orcL []) 1024 d8 noCuts
theorem ra_4_3 (t : Nat → TypeId) : rAll t (qa_4_3 t) 4 3 = true := by kernel_rfl
noncomputable def qa_4_4 (t : Nat → TypeId) : Orc := deepOrc Tryz.prog (tabG t) (orcL []) 1024 d8 noCuts
theorem ra_4_4 (t : Nat → TypeId) : rAll t (qa_4_4 t) 4 4 = true := by kernel_rfl
noncomputable def qa_4_5 (t : Nat → TypeId) : Orc := deepOrc Tryz.prog (tabG t) (orcL []) 1024 d16 noCuts
theorem ra_4_5 (t : Nat → TypeId) : rAll t (qa_4_5 t) 4 5 = true := by kernel_rfl
noncomputable def qa_5_1 (t : Nat → TypeId) : Orc := deepOrc Tryz.prog (tabG t) (orcL []) 1024 d16 noCuts
theorem ra_5_1 (t : Nat → TypeId) : rAll t (qa_5_1 t) 5 1 = true := by kernel_rfl
noncomputable def qa_5_2 (t : Nat → TypeId) : Orc := deepOrc Tryz.prog (tabG t) (orcL []) 1024 d8 noCuts
theorem ra_5_2 (t : Nat → TypeId) : rAll t (qa_5_2 t) 5 2 = true := by kernel_rfl
noncomputable def qa_5_3 (t : Nat → TypeId) : Orc := deepOrc Tryz.prog (tabG t) (orcL []) 1024 d8 noCuts
theorem ra_5_3 (t : Nat → TypeId) : rAll t (qa_5_3 t) 5 3 = true := by kernel_rfl
noncomputable def qa_5_4 (t : Nat → TypeId) : Orc := deepOrc Tryz.prog (tabG t) (orcL []) 1024 d16 noCuts
theorem ra_5_4 (t : Nat → TypeId) : rAll t (qa_5_4 t) 5 4 = true := by kernel_rfl
noncomputable def qa_5_5 (t : Nat → TypeId) : Orc := deepOrc Tryz.prog (tabG t) (orcL []) 1024 d16 noCuts
theorem ra_5_5 (t : Nat → TypeId) : rAll t (qa_5_5 t) 5 5 = true := by kernel_rfl
end

end Go.Proofs.YtbghfcllicfnpaaGreatDoor
