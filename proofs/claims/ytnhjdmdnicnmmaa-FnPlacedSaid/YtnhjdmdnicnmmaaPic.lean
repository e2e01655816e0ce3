/-
  Contracts of the laws' own helpers over pictures.
-/
import Derived.Test.YtnhjdmdnicnmmaaCore
namespace Go.Proofs.Ytnhjdmdnicnmmaa
open Go.RowKit
set_option linter.unusedVariables false
set_option linter.unusedSimpArgs false

end Go.Proofs.Ytnhjdmdnicnmmaa
