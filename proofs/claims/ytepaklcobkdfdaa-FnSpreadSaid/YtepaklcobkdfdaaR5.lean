/-
  Contracts of the model's spiral.
-/
import Derived.Test.YtepaklcobkdfdaaD7b
import Derived.Test.YtepaklcobkdfdaaM5
namespace Go.Proofs.Ytepaklcobkdfdaa
open Go.RowKit
set_option linter.unusedVariables false
set_option linter.unusedSimpArgs false

end Go.Proofs.Ytepaklcobkdfdaa
