/-
  Contracts of the model's draws: a plate of a picture's size; a plate.
-/
import Derived.Test.YtepaklcobkdfdaaR2
namespace Go.Proofs.Ytepaklcobkdfdaa
open Go.RowKit
set_option linter.unusedVariables false
set_option linter.unusedSimpArgs false

end Go.Proofs.Ytepaklcobkdfdaa
