/-
  Says: what limited and slope give.
-/
import Derived.Test.YtgkiliijefkcaaaDoorFnB
set_option linter.unusedVariables false
set_option linter.unusedSimpArgs false
namespace Go.Proofs.YtgkiliijefkcaaaDoor
open Go Go.RowKit

end Go.Proofs.YtgkiliijefkcaaaDoor
