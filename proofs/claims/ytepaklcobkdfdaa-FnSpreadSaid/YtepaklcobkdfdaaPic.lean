/-
  Contracts of the laws' own helpers over pictures.
-/
import Derived.Test.YtepaklcobkdfdaaCore
namespace Go.Proofs.Ytepaklcobkdfdaa
open Go.RowKit
set_option linter.unusedVariables false
set_option linter.unusedSimpArgs false

end Go.Proofs.Ytepaklcobkdfdaa
