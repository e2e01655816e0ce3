/-
  Contracts and plain facts on which the theorem of this claim rests, text 50.
-/
import Derived.Test.YtanccoopbgamdaaGreatDoorKC11
namespace Go.Proofs.YtanccoopbgamdaaGreatDoor.jKept
open Go.ChangeShapes Go.WideShapes Go.ChangeAt Go.RowKit Go.Lib
set_option linter.unusedVariables false
set_option linter.unusedSimpArgs false
theorem called:Tryz.checked.prog.funcNamed Rows.fnKeptRow.func=some 4:=by kernel_rfl
theorem instanced:Tryz.f4.isInstance Tryz.checked.prog Rows.fnKeptRow.origin Rows.fnKeptRow.targs:=of_decide_eq_true (by kernel_rfl)
theorem wrapped:Tryz.f4.isWrapper Tryz.checked.prog Rows.fnKeptRow.wrapper Rows.fnKeptRow.mainSum:=by unfold Func.isWrapper;first | (rw [if_pos (by decide+kernel)];kernel_rfl) | (rw [if_neg (by decide+kernel)];exact ⟨rfl,rfl⟩)
end Go.Proofs.YtanccoopbgamdaaGreatDoor.jKept
