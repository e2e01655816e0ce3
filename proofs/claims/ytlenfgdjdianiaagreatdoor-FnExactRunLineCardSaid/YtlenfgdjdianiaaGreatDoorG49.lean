/- Facts on which this claim rests, 49. -/
import Derived.Test.YtlenfgdjdianiaaGreatDoorG9
set_option linter.all false
set_option maxHeartbeats 6400000
namespace Go.Proofs.YtlenfgdjdianiaaGreatDoor.jERunLine
open Go.ChangeShapes Go.WideShapes Go.ChangeAt Go.RowKit Go.Lib
open Go.Proofs.YtlenfgdjdianiaaGreatDoor (om sI sO sD zK dC aS nC oh og zB zC zN Jh Jr Jd Jm oS oT nI nZ bR nJ nV)
open Go.Proofs.YtlenfgdjdianiaaGreatDoor.Tq Go.Proofs.Tryz
theorem zCt:joinedFacts Tryz.checked.prog 3 Tryz.f3 Rows.fnExactRunLineSpec Rows.fnExactRunLineRow=true:=zK
end Go.Proofs.YtlenfgdjdianiaaGreatDoor.jERunLine
