/- At every argument RunScript of the program answers as RunScript of its model, every field; it writes into no argument and its answer owns its memory. Conditions: those of the given row, which it states as it stands. -/
import Derived.Test.YtlenfgdjdianiaaGreatDoorF50
import Derived.Test.YtlenfgdjdianiaaGreatDoorF51
set_option linter.all false
set_option maxHeartbeats 6400000
namespace Go.Proofs.YtlenfgdjdianiaaGreatDoor.wRunScript
open Go.Proofs.YtlenfgdjdianiaaGreatDoor (om sI sO sD zK dC aS nC oh og zB zC zN Jh Jr Jd Jm oS oT nI nZ bR nJ nV)
open Go.Proofs.YtlenfgdjdianiaaGreatDoor.Tq Go.Proofs.Tryz
theorem proved:Rows.FnExactRunScriptCardSaid:=jERunScript.card (jERunScript.said xRunScript.okAll)
end Go.Proofs.YtlenfgdjdianiaaGreatDoor.wRunScript
