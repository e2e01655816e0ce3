/-
  Contracts and plain facts on which the theorem of this claim rests, text 49.
-/
import Derived.Test.YtanccoopbgamdaaGreatDoorKC11
namespace Go.Proofs.YtanccoopbgamdaaGreatDoor.jKept
open Go.ChangeShapes Go.WideShapes Go.ChangeAt Go.RowKit Go.Lib
set_option linter.unusedVariables false
set_option linter.unusedSimpArgs false
theorem closed:joinedFacts Tryz.checked.prog 4 Tryz.f4 Rows.fnKeptSpec Rows.fnKeptRow=true:=by kernel_rfl
end Go.Proofs.YtanccoopbgamdaaGreatDoor.jKept
