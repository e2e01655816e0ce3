/- Facts on which this claim rests, 50. -/
import Derived.Test.YtlenfgdjdianiaaGreatDoorG9
set_option linter.all false
set_option maxHeartbeats 6400000
namespace Go.Proofs.YtlenfgdjdianiaaGreatDoor.jERunLine
open Go.ChangeShapes Go.WideShapes Go.ChangeAt Go.RowKit Go.Lib
open Go.Proofs.YtlenfgdjdianiaaGreatDoor (om sI sO sD zK dC aS nC oh og zB zC zN Jh Jr Jd Jm oS oT nI nZ bR nJ nV)
open Go.Proofs.YtlenfgdjdianiaaGreatDoor.Tq Go.Proofs.Tryz
theorem zCq:Tryz.checked.prog.funcNamed Rows.fnExactRunLineRow.func=some 3:=zK
theorem iV:Tryz.f3.isInstance Tryz.checked.prog Rows.fnExactRunLineRow.origin Rows.fnExactRunLineRow.targs:=of_decide_eq_true zK
theorem zCh:Tryz.f3.isWrapper Tryz.checked.prog Rows.fnExactRunLineRow.wrapper Rows.fnExactRunLineRow.mainSum:=by unfold Func.isWrapper;first | (rw [if_pos (by decide+kernel)];kernel_rfl) | (rw [if_neg (by decide+kernel)];exact ⟨rfl,rfl⟩)
end Go.Proofs.YtlenfgdjdianiaaGreatDoor.jERunLine
