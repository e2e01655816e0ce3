/- Facts on which this claim rests, 48. -/
import Derived.Test.YtlenfgdjdianiaaGreatDoorG46
set_option linter.all false
set_option maxHeartbeats 6400000
namespace Go.Proofs.YtlenfgdjdianiaaGreatDoor
open Go.ChangeShapes Go.WideShapes Go.ChangeAt Go.RowKit Go.Joins Go.Deep Tq Go.Proofs.Tryz
variable {H : Type} {W : World} {base fuel : Nat} {c0 c1 v : Value}
theorem aN:prog.cellsOf 29=7:=zK
theorem aO:prog.cellsOf 27=1:=zK
theorem bP {enc:TypeId × Value->H} {c2:Value} {y:DataW H × List MemPlace}
 (h:DataW.trod enc prog W 0 (fun _=>true) true fuel 24 [c0,c1,c2]=some y) (f: ∀x ∈ y.2,x.block<W.heap.size):
 ∃o m c n e xs,c0= .int .i64 o/\c1= .int .i64 m/\c2= .slice c n e/\xs.length=n/\Rd W c xs/\n<=9223372036854775807:=by
 obtain ⟨k,l,i,n,B,_,A,h1,h2⟩:=trod_struct3 underlying24 h;have j:DataW.trod enc prog W 0 (fun _=>true) true n 3 (([c0,c1,c2].drop 0).take (prog.cellsOf 3))=some k:=A;have g1:DataW.trod enc prog W 0 (fun _=>true) true n 3 (([c0,c1,c2].drop 1).take (prog.cellsOf 3))=some l:=h1;have g2:DataW.trod enc prog W 0 (fun _=>true) true n 22 (([c0,c1,c2].drop 2).take (prog.cellsOf 22))=some i:=h2;rw [QE] at j g1;rw [IZ] at g2;obtain ⟨a,rfl,_⟩:=Xq (show DataW.trod enc prog W 0 (fun _=>true) true n 3 [c0]=some k by simpa using j);obtain ⟨b,rfl,_⟩:=Xq (show DataW.trod enc prog W 0 (fun _=>true) true n 3 [c1]=some l by simpa using g1);have t: ∀x ∈ i.2,x.block<W.heap.size:=fun x g=>f x (by rw [B];simp [g]);obtain ⟨c,C,q,xs,rfl,s,u,z,_⟩:=UN (show DataW.trod enc prog W 0 (fun _=>true) true n 22 [c2]=some i by simpa using g2) t;exact ⟨a,b,c,C,q,xs,rfl,rfl,rfl,s,u,z⟩
theorem bO {enc:TypeId × Value->H} {c2:Value} {y:DataW H × List MemPlace}
 (h:DataW.trod enc prog W 0 (fun _=>true) true fuel 26 [c0,c1,c2]=some y) (f: ∀x ∈ y.2,x.block<W.heap.size):
 ∃o m c n e xs,c0= .int .i64 o/\c1= .int .i64 m/\c2= .slice c n e/\xs.length=n/\Rd W c xs/\n<=9223372036854775807:=by
 obtain ⟨k,l,i,n,B,_,A,h1,h2⟩:=trod_struct3 underlying26 h;have j:DataW.trod enc prog W 0 (fun _=>true) true n 3 (([c0,c1,c2].drop 0).take (prog.cellsOf 3))=some k:=A;have g1:DataW.trod enc prog W 0 (fun _=>true) true n 3 (([c0,c1,c2].drop 1).take (prog.cellsOf 3))=some l:=h1;have g2:DataW.trod enc prog W 0 (fun _=>true) true n 22 (([c0,c1,c2].drop 2).take (prog.cellsOf 22))=some i:=h2;rw [QE] at j g1;rw [IZ] at g2;obtain ⟨a,rfl,_⟩:=Xq (show DataW.trod enc prog W 0 (fun _=>true) true n 3 [c0]=some k by simpa using j);obtain ⟨b,rfl,_⟩:=Xq (show DataW.trod enc prog W 0 (fun _=>true) true n 3 [c1]=some l by simpa using g1);have t: ∀x ∈ i.2,x.block<W.heap.size:=fun x g=>f x (by rw [B];simp [g]);obtain ⟨c,C,q,xs,rfl,s,u,z,_⟩:=UN (show DataW.trod enc prog W 0 (fun _=>true) true n 22 [c2]=some i by simpa using g2) t;exact ⟨a,b,c,C,q,xs,rfl,rfl,rfl,s,u,z⟩
set_option maxRecDepth 100000 in
theorem bN {enc:TypeId × Value->H} {d:DataW H} {p:List MemPlace}
 (hv:Value.okWide prog W .any base 29 v) (h:DataW.Trod enc prog W 0 (fun _=>true) true 29 v d p) (i: ∀x ∈ p,x.block<W.heap.size):
 ∃D:Dsk,v=D.val/\RdD W D/\D.P.n<=9223372036854775807/\D.M.n<=9223372036854775807/\D.n<=9223372036854775807/\(∀k,k<D.ps.length->(pv D.ps k).n<=9223372036854775807):=by
 obtain ⟨t,rfl,s⟩:=okWide_struct underlying29 hv;have j:t.size=7:=s.trans aN;obtain ⟨fuel,hf⟩:=h;obtain ⟨z,A,o,n,y,_,I,h1,h2⟩:=trod_struct3 underlying29 hf;simp only [Prod.mk.injEq] at y;rw [y.2] at i;obtain ⟨l⟩:=t
 match l,j with
 | [c0,c1,c2,c3,c4,c5,c6],_=>
  have u:DataW.trod enc prog W 0 (fun _=>true) true n 24 (([c0,c1,c2,c3,c4,c5,c6].drop 0).take (prog.cellsOf 24))=some z:=I;have g1:DataW.trod enc prog W 0 (fun _=>true) true n 26 (([c0,c1,c2,c3,c4,c5,c6].drop 3).take (prog.cellsOf 26))=some A:=h1;have g2:DataW.trod enc prog W 0 (fun _=>true) true n 27 (([c0,c1,c2,c3,c4,c5,c6].drop 6).take (prog.cellsOf 27))=some o:=h2;rw [Lm] at u;rw [gU] at g1;rw [aO] at g2;obtain ⟨W1,B,a1,n1,J,x1,rfl,rfl,rfl,O,Q,R⟩:=bP (show DataW.trod enc prog W 0 (fun _=>true) true n 24 [c0,c1,c2]=some z by simpa using u) (fun x f=>i x (by simp [f]));obtain ⟨F,C,a2,n2,L,x2,rfl,rfl,rfl,T,t2,t3⟩:=bO (show DataW.trod enc prog W 0 (fun _=>true) true n 26 [c3,c4,c5]=some A by simpa using g1) (fun x f=>i x (by simp [f]));have g3:DataW.trod enc prog W 0 (fun _=>true) true n 27 [c6]=some o:=by simpa using g2
  have q: ∃a0 g b,c6= .slice a0 g b:=by
   rcases open_slice underlying27 g3 with ⟨c,_⟩ | ⟨a,len,G,m,nn,E,Pl,c,_⟩
   simp at c;exact ⟨_,_,_,c⟩;simp at c;exact ⟨_,_,_,c⟩
  obtain ⟨a0,g,b,rfl⟩:=q;obtain ⟨a3,n3,N,ps,e,U,V,X,Y⟩:=Sy (v:= .slice a0 g b) (d:=o.1) (p:=o.2) ⟨_,_,_,rfl⟩ (by simpa [Value.cells] using g3) (fun x f=>i x (by simp [f]));rw [e];exact ⟨⟨⟨W1,B,a1,n1,J,x1⟩,⟨F,C,a2,n2,L,x2⟩,a3,n3,N,ps⟩,rfl,⟨O,Q,T,t2,U,V⟩,R,t3,X,Y⟩
end Go.Proofs.YtlenfgdjdianiaaGreatDoor
namespace Go.Proofs.YtlenfgdjdianiaaGreatDoor.jERunLine
open Go.ChangeShapes Go.WideShapes Go.ChangeAt Go.RowKit Go.Lib
open Go.Proofs.YtlenfgdjdianiaaGreatDoor (om sI sO sD zK dC aS nC oh og zB zC zN Jh Jr Jd Jm oS oT nI nZ bR nJ nV)
open Go.Proofs.YtlenfgdjdianiaaGreatDoor.Tq Go.Proofs.Tryz
set_option maxRecDepth 100000 in
theorem zDF (ok: ∀(D:Dsk) (s:ByteArray) (w:World),RdD w D->D.P.n<=9223372036854775807->D.M.n<=9223372036854775807->D.n<=9223372036854775807->(∀k,k<D.ps.length->(pv D.ps k).n<=9223372036854775807)->s.size<=9223372036854775807->qZ w->Calls prog 3 #[D.val, .string s] w (zR (.bool true) w)) (os:Os) (c:os.Started) (H:Type) (enc:TypeId × Value->H):
 ReturnsInHanded {} Tryz.checked os 3 .any (fun w args=>(Rows.fnExactRunLineSpec.pre enc prog Tryz.f3 [] false w args/\laidMetH prog QY w)/\sizedMet enc prog Tryz.f3 (OpenSpec.ofChange Rows.fnExactRunLineSpec) false w args)
  (Rows.fnExactRunLineSpec.post enc prog Tryz.f3 false true false false):=by
 refine zAX (C:=Tryz.checked) (X:=fun w _=>laidMetH prog QY w) (fun _ _ _ T h=>h.of_heap T) own c zK func3
  (ChangeSpec.witness_shaped (enc:=enc) (C:=Tryz.checked) (os:=os) (X:=fun w _=>laidMetH prog QY w) false (World.laidAll prog os QY) #[.agg ↑Zd, .string ⟨#[]⟩] 8 (World.laidAll_os _ _ _)
   (World.shaped_of_ZipB zK zK) zK zK zK
   (by rw [MakeChecks.laidMetH_plain _ _ _ zK];exact laidMet_laidAll _ zK zK)) ?_
 intro W base args J gs g b o hL B;have a: ∀(j:Nat) t v,Tryz.f3.params[j]? =some t->args[j]? =some v->Value.okWide prog W .any base t v:=b;have u:=o;have z:=o.lt;obtain ⟨p,q,f,Q,rfl,R,U⟩:=o;have F:DataW.TrodAll enc prog W 0 (fun _=>true) true Tryz.f3.params.toList args.toList J p:=f;rw [params3] at F a;obtain ⟨v0,b0,d0,L,p0,q0,y,rfl,rfl,O,Y⟩:=trodAll_cons F;obtain ⟨I,b1,d1,N,p1,q1,i,rfl,rfl,h1,r1⟩:=trodAll_cons Y;obtain ⟨rfl,rfl,rfl⟩:=trodAll_nil r1;obtain rfl:args=#[v0,I]:=by cases args;simp_all
 obtain ⟨rfl,rfl⟩:=trodVars_none Q;clear f b;obtain ⟨D,rfl,A,g1,g2,g3,g4⟩:=bN (a 0 29 v0 rfl rfl) O (fun x V=>z x (by simp [V]));obtain ⟨G,rfl,rfl,rfl,E⟩:=Go.ChangeMaps.open_string underlying9 (a 1 9 I rfl rfl) h1
 have m: ∀(e:Ending) l,(e= .returned (.bool true)/\Below W W l)-> ∃v,e= .returned v/\Rows.fnExactRunLineSpec.post enc prog Tryz.f3 false true false false W #[D.val, .string G] v l:=by
  rintro e l ⟨rfl,hb⟩;exact ⟨_,rfl,tC rfl rfl u zK rfl hb⟩
 exact (ok D G W A g1 g2 g3 g4 (by unfold maxLen at E;omega) (su hL B)).mono m
end Go.Proofs.YtlenfgdjdianiaaGreatDoor.jERunLine
