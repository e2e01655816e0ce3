/- Facts on which this claim rests, 49. -/
import Derived.Test.YtlenfgdjdianiaaGreatDoorF9
set_option linter.all false
set_option maxHeartbeats 6400000
namespace Go.Proofs.YtlenfgdjdianiaaGreatDoor.jERunScript
open Go.ChangeShapes Go.WideShapes Go.ChangeAt Go.RowKit Go.Lib
open Go.Proofs.YtlenfgdjdianiaaGreatDoor (om sI sO sD zK dC aS nC oh og zB zC zN Jh Jr Jd Jm oS oT nI nZ bR nJ nV)
open Go.Proofs.YtlenfgdjdianiaaGreatDoor.Tq Go.Proofs.Tryz
theorem zQP:Tryz.checked.prog.funcNamed Rows.fnExactRunScriptRow.func=some 4:=zK
theorem zKr:Tryz.f4.isInstance Tryz.checked.prog Rows.fnExactRunScriptRow.origin Rows.fnExactRunScriptRow.targs:=of_decide_eq_true zK
theorem zQE:Tryz.f4.isWrapper Tryz.checked.prog Rows.fnExactRunScriptRow.wrapper Rows.fnExactRunScriptRow.mainSum:=by unfold Func.isWrapper;first | (rw [if_pos (by decide+kernel)];kernel_rfl) | (rw [if_neg (by decide+kernel)];exact ⟨rfl,rfl⟩)
end Go.Proofs.YtlenfgdjdianiaaGreatDoor.jERunScript
