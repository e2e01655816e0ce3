/-
  Contracts of the laws' own helpers: the cells below a level.
-/
import Derived.Test.YtgepjfdnlnemjaaR6
import Derived.Test.YtgepjfdnlnemjaaR4
import Derived.Test.YtgepjfdnlnemjaaM6
namespace Go.Proofs.Ytgepjfdnlnemjaa
open Go.RowKit
set_option linter.unusedVariables false
set_option linter.unusedSimpArgs false

end Go.Proofs.Ytgepjfdnlnemjaa
