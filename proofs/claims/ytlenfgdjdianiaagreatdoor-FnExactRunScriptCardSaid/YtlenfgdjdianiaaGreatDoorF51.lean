/- Facts on which this claim rests, 51. -/
import Derived.Test.YtlenfgdjdianiaaGreatDoorF9
set_option linter.all false
set_option maxHeartbeats 6400000
namespace Go.Proofs.YtlenfgdjdianiaaGreatDoor.jERunScript
open Go.ChangeShapes Go.WideShapes Go.ChangeAt Go.RowKit Go.Lib
open Go.Proofs.YtlenfgdjdianiaaGreatDoor (om sI sO sD zK dC aS nC oh og zB zC zN Jh Jr Jd Jm oS oT nI nZ bR nJ nV)
open Go.Proofs.YtlenfgdjdianiaaGreatDoor.Tq Go.Proofs.Tryz
set_option maxRecDepth 100000 in
theorem card (g:Rows.FnExactRunScriptSaid):Rows.FnExactRunScriptCardSaid:=
 Claim7.holds_tied_plain_at .later [] [.data, .data, .data, .data, .sentinel, .sentinel, .pinned] true (true, "090163571c9bfa11790bcdefc51e2c664d88df094169b7f279152775769ca96e") true
  g (fun _ h=>by cases h) zK (fun _ h=>by cases h) fnExactRunScript_row_tie rfl ⟨rfl,rfl⟩ zK rfl
  (fun f e hf b=>by
   obtain rfl:f=4:=Yd ((show prog.funcNamed "loop.example/g03229/laws.FnExactRunScript" =some 4 by kernel_rfl).symm.trans hf) |>.symm;obtain rfl:e=Tryz.f4:=(Yd (func4.symm.trans b)).symm
   exact ⟨zK,fun j t c=>by
    rw [params4] at c;have hm:t ∈ [9]:=by simpa using Array.mem_of_getElem? c
    have a:([9].all fun u=>!prog.wantsStandIn u)=true:=zK
    exact (show prog.wantsStandIn t=false by simpa using List.all_eq_true.1 a t hm)⟩)
  zK
end Go.Proofs.YtlenfgdjdianiaaGreatDoor.jERunScript
