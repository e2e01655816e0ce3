/- At every argument RunLine of the program answers as RunLine of its model, every field; it writes into no argument and its answer owns its memory. Conditions: those of the given row, which it states as it stands. -/
import Derived.Test.YtlenfgdjdianiaaGreatDoorG47
import Derived.Test.YtlenfgdjdianiaaGreatDoorG51
import Derived.Test.YtlenfgdjdianiaaGreatDoorG52
set_option linter.all false
set_option maxHeartbeats 6400000
namespace Go.Proofs.YtlenfgdjdianiaaGreatDoor.wRunLine
open Go.ChangeShapes Go.WideShapes Go.ChangeAt Go.RowKit Go.Lib
open Go.Proofs.YtlenfgdjdianiaaGreatDoor (om sI sO sD zK dC aS nC oh og zB zC zN Jh Jr Jd Jm oS oT nI nZ bR nJ nV)
open Go.Proofs.YtlenfgdjdianiaaGreatDoor.Tq Go.Proofs.Tryz
theorem zDv: ∀(D:Dsk) (s:ByteArray) (w:World),RdD w D->D.P.n<=9223372036854775807->D.M.n<=9223372036854775807->D.n<=9223372036854775807->(∀k,k<D.ps.length->(pv D.ps k).n<=9223372036854775807)->s.size<=9223372036854775807->qZ w->Calls prog 3 #[D.val, .string s] w (zR (.bool true) w):=by
 rintro ⟨⟨t,q,da,o,u,v⟩,⟨f,e,g,a,i,j⟩,l,b,m,c⟩ s w hr g1 g2 g3 g4 y hL;by_cases x:s.size<=1048576
 case neg=>exact xRunLine.noS t q da o u v f e g a i j l b m c s w om y
 by_cases b1:(o:Int)+a+b+(jS c:Int)<=1048576
 case neg=>exact xRunLine.no0 t q da o u v f e g a i j l b m c s w x hr om g1 g2 g3 g4
 exact xRunLine.ok t q da o u v f e g a i j l b m c s w x hr b1 hL
theorem proved:Rows.FnExactRunLineCardSaid:=jERunLine.card (jERunLine.said zDv)
end Go.Proofs.YtlenfgdjdianiaaGreatDoor.wRunLine
