/-
  Contracts and plain facts on which the theorem of this claim rests, text 52.
-/
import Derived.Test.YtanccoopbgamdaaGreatDoorKC11
namespace Go.Proofs.YtanccoopbgamdaaGreatDoor.jKept
open Go.ChangeShapes Go.WideShapes Go.ChangeAt Go.RowKit Go.Lib
set_option linter.unusedVariables false
set_option linter.unusedSimpArgs false
set_option maxRecDepth 100000 in
set_option maxHeartbeats 4000000 in
theorem card (hs:Rows.FnKeptSaid):Rows.FnKeptCardSaid:=
 Claim7.holds_tied_plain_at .later [] [.data, .data, .data, .data, .sentinel, .sentinel, .pinned] true (true, "c57e41c08fa0d7910fc3158ec035cffda98db7704010467386570d4a4f89494d") true
   hs (fun _ h=>by cases h) (by kernel_rfl) (fun _ h=>by cases h) fnKept_row_tie rfl ⟨rfl,rfl⟩ (by kernel_rfl) rfl
   (fun f fn hf hfn=>by
     obtain rfl:f=4:=Option.some.inj ((show Tryz.prog.funcNamed "loop.example/g03229/laws.FnKept" =some 4 by kernel_rfl).symm.trans hf) |>.symm
     obtain rfl:fn=Tryz.f4:=(Option.some.inj (Tryz.func4.symm.trans hfn)).symm
     exact ⟨by kernel_rfl,fun j t ht=>by
       rw [Tryz.params4] at ht
       have hm:t ∈ [22]:=by simpa using Array.mem_of_getElem? ht
       have hall:([22].all fun u=>!Tryz.prog.wantsStandIn u)=true:=by kernel_rfl
       exact (show Tryz.prog.wantsStandIn t=false by simpa using List.all_eq_true.1 hall t hm)⟩)
   (by kernel_rfl)
end Go.Proofs.YtanccoopbgamdaaGreatDoor.jKept
