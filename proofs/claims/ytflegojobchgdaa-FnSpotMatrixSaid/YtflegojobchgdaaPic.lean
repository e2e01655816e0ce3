/-
  Contracts of the laws' own helpers over pictures.
-/
import Derived.Test.YtflegojobchgdaaCore
namespace Go.Proofs.Ytflegojobchgdaa
open Go.RowKit
set_option linter.unusedVariables false
set_option linter.unusedSimpArgs false

end Go.Proofs.Ytflegojobchgdaa
