/- Facts on which this claim rests, 50. -/
import Derived.Test.YtlenfgdjdianiaaGreatDoorF47
import Derived.Test.YtlenfgdjdianiaaGreatDoorF48
import Derived.Test.YtlenfgdjdianiaaGreatDoorF49
set_option linter.all false
set_option maxHeartbeats 6400000
namespace Go.Proofs.YtlenfgdjdianiaaGreatDoor.jERunScript
open Go.ChangeShapes Go.WideShapes Go.ChangeAt Go.RowKit Go.Lib
open Go.Proofs.YtlenfgdjdianiaaGreatDoor (om sI sO sD zK dC aS nC oh og zB zC zN Jh Jr Jd Jm oS oT nI nZ bR nJ nV)
open Go.Proofs.YtlenfgdjdianiaaGreatDoor.Tq Go.Proofs.Tryz
theorem said (ok: ∀(s:ByteArray) (w:World),s.size<=9223372036854775807->jt w->Calls prog 4 #[.string s] w (zR (.bool true) w)):Rows.FnExactRunScriptSaid:=
 OpenClaim.holds_of_wide 4 Tryz.f4 rfl rfl rfl rfl rfl rfl rfl ⟨rfl,rfl,rfl,rfl,rfl⟩ rfl rfl rfl rfl rfl zQP func4 zQS
  zKr zQE
  (fun os a H enc _=>zQc ok os a H enc)
end Go.Proofs.YtlenfgdjdianiaaGreatDoor.jERunScript
