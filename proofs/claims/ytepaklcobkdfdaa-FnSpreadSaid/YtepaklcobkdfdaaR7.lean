/-
  Contracts of the laws' own helpers: the cells below a level.
-/
import Derived.Test.YtepaklcobkdfdaaR6
import Derived.Test.YtepaklcobkdfdaaR4
import Derived.Test.YtepaklcobkdfdaaM6
namespace Go.Proofs.Ytepaklcobkdfdaa
open Go.RowKit
set_option linter.unusedVariables false
set_option linter.unusedSimpArgs false

end Go.Proofs.Ytepaklcobkdfdaa
