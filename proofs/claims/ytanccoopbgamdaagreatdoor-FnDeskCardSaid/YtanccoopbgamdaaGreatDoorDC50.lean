/-
  Contracts and plain facts on which the theorem of this claim rests, text 50.
-/
import Derived.Test.YtanccoopbgamdaaGreatDoorDC9
namespace Go.Proofs.YtanccoopbgamdaaGreatDoor.jDesk
open Go.ChangeShapes Go.WideShapes Go.ChangeAt Go.RowKit Go.Lib
set_option linter.unusedVariables false
set_option linter.unusedSimpArgs false
theorem called:Tryz.checked.prog.funcNamed Rows.fnDeskRow.func=some 3:=by kernel_rfl
theorem instanced:Tryz.f3.isInstance Tryz.checked.prog Rows.fnDeskRow.origin Rows.fnDeskRow.targs:=of_decide_eq_true (by kernel_rfl)
theorem wrapped:Tryz.f3.isWrapper Tryz.checked.prog Rows.fnDeskRow.wrapper Rows.fnDeskRow.mainSum:=by unfold Func.isWrapper;first | (rw [if_pos (by decide+kernel)];kernel_rfl) | (rw [if_neg (by decide+kernel)];exact ⟨rfl,rfl⟩)
end Go.Proofs.YtanccoopbgamdaaGreatDoor.jDesk
