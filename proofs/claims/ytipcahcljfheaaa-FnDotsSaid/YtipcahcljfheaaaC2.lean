/-
  Contracts of SumInk and CountInk, of the program (impl) and of the model (spec).
-/
import Derived.Test.YtipcahcljfheaaaC1
namespace Go.Proofs.Ytipcahcljfheaaa
open Go.RowKit
set_option linter.unusedVariables false
set_option linter.unusedSimpArgs false

end Go.Proofs.Ytipcahcljfheaaa
