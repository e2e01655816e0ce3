/-
  Contracts and plain facts on which the theorem of this claim rests, text 49.
-/
import Derived.Test.YtanccoopbgamdaaGreatDoorDC9
namespace Go.Proofs.YtanccoopbgamdaaGreatDoor.jDesk
open Go.ChangeShapes Go.WideShapes Go.ChangeAt Go.RowKit Go.Lib
set_option linter.unusedVariables false
set_option linter.unusedSimpArgs false
theorem closed:joinedFacts Tryz.checked.prog 3 Tryz.f3 Rows.fnDeskSpec Rows.fnDeskRow=true:=by kernel_rfl
end Go.Proofs.YtanccoopbgamdaaGreatDoor.jDesk
