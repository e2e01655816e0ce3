/- Facts on which this claim rests, 51. -/
import Derived.Test.YtlenfgdjdianiaaGreatDoorG48
import Derived.Test.YtlenfgdjdianiaaGreatDoorG49
import Derived.Test.YtlenfgdjdianiaaGreatDoorG50
set_option linter.all false
set_option maxHeartbeats 6400000
namespace Go.Proofs.YtlenfgdjdianiaaGreatDoor.jERunLine
open Go.ChangeShapes Go.WideShapes Go.ChangeAt Go.RowKit Go.Lib
open Go.Proofs.YtlenfgdjdianiaaGreatDoor (om sI sO sD zK dC aS nC oh og zB zC zN Jh Jr Jd Jm oS oT nI nZ bR nJ nV)
open Go.Proofs.YtlenfgdjdianiaaGreatDoor.Tq Go.Proofs.Tryz
theorem said (ok: ∀(D:Dsk) (s:ByteArray) (w:World),RdD w D->D.P.n<=9223372036854775807->D.M.n<=9223372036854775807->D.n<=9223372036854775807->(∀k,k<D.ps.length->(pv D.ps k).n<=9223372036854775807)->s.size<=9223372036854775807->qZ w->Calls prog 3 #[D.val, .string s] w (zR (.bool true) w)):Rows.FnExactRunLineSaid:=
 OpenClaim.holds_of_wide 3 Tryz.f3 rfl rfl rfl rfl rfl rfl rfl ⟨rfl,rfl,rfl,rfl,rfl⟩ rfl rfl rfl rfl rfl zCq func3 zCt
  iV zCh
  (fun os a H enc _=>zDF ok os a H enc)
end Go.Proofs.YtlenfgdjdianiaaGreatDoor.jERunLine
