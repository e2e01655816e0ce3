/-
  Contracts and plain facts on which the theorem of this claim rests, text 48.
-/
import Derived.Test.YtmikajnpgcabfaaGreatDoorSC9
namespace Go.Proofs.YtmikajnpgcabfaaGreatDoor.jScript
open Go.ChangeShapes Go.WideShapes Go.ChangeAt Go.RowKit Go.Lib
set_option linter.unusedVariables false
set_option linter.unusedSimpArgs false
theorem closed:joinedFacts Tryz.checked.prog 4 Tryz.f4 Rows.fnScriptSpec Rows.fnScriptRow=true:=by kernel_rfl
end Go.Proofs.YtmikajnpgcabfaaGreatDoor.jScript
