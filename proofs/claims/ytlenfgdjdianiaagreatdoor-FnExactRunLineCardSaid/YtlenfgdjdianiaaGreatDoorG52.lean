/- Facts on which this claim rests, 52. -/
import Derived.Test.YtlenfgdjdianiaaGreatDoorG9
set_option linter.all false
set_option maxHeartbeats 6400000
namespace Go.Proofs.YtlenfgdjdianiaaGreatDoor.jERunLine
open Go.ChangeShapes Go.WideShapes Go.ChangeAt Go.RowKit Go.Lib
open Go.Proofs.YtlenfgdjdianiaaGreatDoor (om sI sO sD zK dC aS nC oh og zB zC zN Jh Jr Jd Jm oS oT nI nZ bR nJ nV)
open Go.Proofs.YtlenfgdjdianiaaGreatDoor.Tq Go.Proofs.Tryz
set_option maxRecDepth 100000 in
theorem card (g:Rows.FnExactRunLineSaid):Rows.FnExactRunLineCardSaid:=
 Claim7.holds_tied_plain_at .later [] [.data, .data, .data, .data, .sentinel, .sentinel, .pinned] true (true, "090163571c9bfa11790bcdefc51e2c664d88df094169b7f279152775769ca96e") true
  g (fun _ h=>by cases h) zK (fun _ h=>by cases h) fnExactRunLine_row_tie rfl ⟨rfl,rfl⟩ zK rfl
  (fun f e hf b=>by
   obtain rfl:f=3:=Yd ((show prog.funcNamed "loop.example/g03229/laws.FnExactRunLine" =some 3 by kernel_rfl).symm.trans hf) |>.symm;obtain rfl:e=Tryz.f3:=(Yd (func3.symm.trans b)).symm
   exact ⟨zK,fun j t c=>by
    rw [params3] at c;have hm:t ∈ [29,9]:=by simpa using Array.mem_of_getElem? c
    have a:([29,9].all fun u=>!prog.wantsStandIn u)=true:=zK
    exact (show prog.wantsStandIn t=false by simpa using List.all_eq_true.1 a t hm)⟩)
  zK
end Go.Proofs.YtlenfgdjdianiaaGreatDoor.jERunLine
