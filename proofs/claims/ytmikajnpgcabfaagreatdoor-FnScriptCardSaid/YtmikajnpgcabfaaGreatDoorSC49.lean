/-
  Contracts and plain facts on which the theorem of this claim rests, text 49.
-/
import Derived.Test.YtmikajnpgcabfaaGreatDoorSC9
namespace Go.Proofs.YtmikajnpgcabfaaGreatDoor.jScript
open Go.ChangeShapes Go.WideShapes Go.ChangeAt Go.RowKit Go.Lib
set_option linter.unusedVariables false
set_option linter.unusedSimpArgs false
theorem called:Tryz.checked.prog.funcNamed Rows.fnScriptRow.func=some 4:=by kernel_rfl
theorem instanced:Tryz.f4.isInstance Tryz.checked.prog Rows.fnScriptRow.origin Rows.fnScriptRow.targs:=of_decide_eq_true (by kernel_rfl)
theorem wrapped:Tryz.f4.isWrapper Tryz.checked.prog Rows.fnScriptRow.wrapper Rows.fnScriptRow.mainSum:=by unfold Func.isWrapper;first | (rw [if_pos (by decide+kernel)];kernel_rfl) | (rw [if_neg (by decide+kernel)];exact ⟨rfl,rfl⟩)
end Go.Proofs.YtmikajnpgcabfaaGreatDoor.jScript
