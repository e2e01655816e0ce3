/-
  Contracts of the doubling at matrices that are valid, as the laws call it.
-/
import Derived.Test.YtepaklcobkdfdaaM8
import Derived.Test.YtepaklcobkdfdaaR8
import Derived.Test.YtepaklcobkdfdaaD7b
namespace Go.Proofs.Ytepaklcobkdfdaa
open Go.RowKit
set_option linter.unusedVariables false
set_option linter.unusedSimpArgs false

end Go.Proofs.Ytepaklcobkdfdaa
