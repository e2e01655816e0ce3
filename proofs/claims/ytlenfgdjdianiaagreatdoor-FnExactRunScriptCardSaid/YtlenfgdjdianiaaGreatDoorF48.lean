/- Facts on which this claim rests, 48. -/
import Derived.Test.YtlenfgdjdianiaaGreatDoorF9
set_option linter.all false
set_option maxHeartbeats 6400000
namespace Go.Proofs.YtlenfgdjdianiaaGreatDoor.jERunScript
open Go.ChangeShapes Go.WideShapes Go.ChangeAt Go.RowKit Go.Lib
open Go.Proofs.YtlenfgdjdianiaaGreatDoor (om sI sO sD zK dC aS nC oh og zB zC zN Jh Jr Jd Jm oS oT nI nZ bR nJ nV)
open Go.Proofs.YtlenfgdjdianiaaGreatDoor.Tq Go.Proofs.Tryz
theorem zQS:joinedFacts Tryz.checked.prog 4 Tryz.f4 Rows.fnExactRunScriptSpec Rows.fnExactRunScriptRow=true:=zK
end Go.Proofs.YtlenfgdjdianiaaGreatDoor.jERunScript
