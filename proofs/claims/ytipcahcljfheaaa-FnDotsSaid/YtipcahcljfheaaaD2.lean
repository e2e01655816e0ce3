/-
  Contracts of chapter 3: blank matrices, ranks at places, quarters (program and model).
-/
import Derived.Test.YtipcahcljfheaaaD1
import Derived.Deep.QuietTactic
import Derived.BigQuiet
namespace Go.Proofs.Ytipcahcljfheaaa
open Go.RowKit
set_option linter.unusedVariables false
set_option linter.unusedSimpArgs false

end Go.Proofs.Ytipcahcljfheaaa
