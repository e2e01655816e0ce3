/- Facts on which this claim rests, 7. -/
import Derived.Test.YtlenfgdjdianiaaGreatDoorF6
set_option linter.all false
set_option maxHeartbeats 6400000
namespace Go.Proofs.YtlenfgdjdianiaaGreatDoor
section
open Go.RowKit Tq Go.Proofs.Tryz
variable {B cap n : Nat} {E : Prop} {K : Act → World → Prop} {P : Program} {Q : Exit → Act → World → Prop} {a : Addr} {ad : Option Addr} {k : Int} {o : Oper} {ops : Array Oper} {w : World} {xs : List Int}
def zEN:Bool:=[0,1,2,3,4].all (fun j=>zq (xf j).W (xf j).H (xf j).ranks && (decide ((xf j).ranks.length=4^j) && decide ((xf j).W=2^j/\(xf j).H=2^j)))
theorem zGQ:zEN=true:=by decide+kernel
theorem wh (j:Nat) (e:j<=4):zq (xf j).W (xf j).H (xf j).ranks=true/\(xf j).ranks.length=4^j/\(xf j).W=2^j/\(xf j).H=2^j:=by
 have h:=zGQ;unfold zEN at h;rw [Yp] at h;have h2:=h j sO;simpa [Bool.and_eq_true,decide_eq_true_eq] using h2
theorem zCe (j:Nat) (e:j<=3):4*(xf j).ranks.length<=256:=by
 rw [(wh j om).2.1];have:4^j<=4^3:=Nat.pow_le_pow_right om e;omega
theorem OwnA.zH (h:OwnA w B ad n cap xs) (ha: ∀b,zL ad=some b->b≠a.block) (u:Value):OwnA (w.setCell a u) B ad n cap xs:=by
 rcases h with h | ⟨g,h1,h2,h⟩
 exact .inl h;subst h1;exact .inr ⟨g,rfl,h2,h.other (fun e=>ha g rfl e.symm) u⟩
theorem zCd (h: ¬(0<=k/\k<=4)):xE k=(vQ,false):=by unfold xE;rw [if_neg h]
theorem zAX {k:Nat} (h:k<=4):xE (k:Int)=(xf k,true):=by unfold xE;rw [if_pos ⟨om,om⟩];rfl
theorem YQ (t:Int) (w:World):Calls prog 83 #[t] w (kP w (xE t)):=by
 by_cases hk:0<=t/\t<=4
 case neg=>
  rw [zCd hk];go_in;go_wp2_with fail
  all_goals first | (exfalso;exact hk ⟨om,om⟩) | skip
  all_goals (
   skip
   exact bodyPost_ret (v:= .tuple #[.agg ↑Zp, .bool false]) (Jr results83) rfl ⟨none,0,0,rfl,oN,om,nJ⟩
   )
 obtain ⟨k,rfl⟩: ∃k:Nat,t=(k:Int):=⟨t.toNat,om⟩
 have T:k<=4:=om;rw [zAX T];clear hk;go_in;go_wp2_with fail;refine (uf 1 1 1 _ rfl rfl).mono ?_;rintro e w2 ⟨g,rfl,hg,z,hb⟩;have I:=Jh (nJ.trans (hb.mono sI));have G:=Jh ((Blk.new w 32 ↑Zp).zA hb);have HO:=Jh z;have HG:Hd (w.heap.size+1<=g):=Jh (by simpa using hg);clear hb z hg;go_wp2_with fail;have NG:=G.Z.lt
 go_loopw [14] (fun i wr=> ∃(j:Nat) (J:Option Addr) (s R:Nat),j<=k/\i=↑(j)/\OwnA wr (w.heap.size+1) J s R (xf j).ranks/\Hd (∀b,zL J=some b->b≠w2.heap.size)/\Blk wr (w2.heap.size) 32 #[(xf j).W,(xf j).H, .slice J s R]/\Blk wr w 32 ↑Zp/\Below w w wr) (fun i _=>k - (intOf i).toNat)
 case atStart=>exact ⟨0,_,_,_,nZ,rfl,(OwnA.mk (HO.Z.alloc _) HG.Z),Jh (by intro b hb;simp [zL] at hb;subst hb;have:=HO.Z.lt;omega),Blk.new _ _ _,G.Z.alloc _,I.Z.alloc I.Z.size _⟩
 obtain ⟨j,J,s,R,hj,rfl,z,b7,A,F,hw⟩:=hrel;have f:=Jh z;have L:=Jh A;have N:=Jh F;have U:=Jh hw;obtain ⟨l0,o0,o1,o2⟩:=L.Z.c3;obtain ⟨q0,q1,q2⟩:=L.Z.f3;clear z A F hw;by_cases b0:j<k
 . obtain ⟨M,Y,m3,m4⟩:=kI f.Z.len (wh j om).1
   obtain ⟨b1,b2,b3,b4,b5,b6⟩:=xA M;have h4:4*s<=256:=by have:=zCe j om;have:=f.Z.len;omega
   have M2:=Jh Y;have M3:=Jh m3;clear M Y m3 m4;go_wp2_with fail;refine (zEx _ _ _ s _ (xf j).ranks _ f.Z.len (by exact f.Z.rd) M2.Z b1 b3 h4 M3.Z).mono ?_;rintro e w5 ⟨a5,n5,c5,rfl,y,b8,l⟩;have C:=Jh y;have q:=Jh (L.Z.zA l);have V:=Jh (N.Z.zA l);have X:=Jh (zI U.Z l);have LB:=Jh L.Z.lt;have LW:=Jh U.Z.size;have LR:=Jh N.Z.lt;have O:Hd (∀b,zL a5=some b->b≠w2.heap.size):=Jh (fun b hb=>by have:=C.Z.bd b hb;have:=LB.Z;omega);clear y l o0 o1 o2 q0 q1 q2 l0;obtain ⟨l0,o0,o1,o2⟩:=q.Z.c3;obtain ⟨q0,q1,q2⟩:=q.Z.f3;go_wp2_with fail;go_roundw
   case rel=>
    exact ⟨j+1,a5,n5,c5,om,by go_num,(((C.Z.zH (a:=↑w2) O.Z _).zH (a:=↑(JE w2 1)) O.Z _).zH (a:=↑(JE w2 2)) O.Z _).mono (zB LW.Z LR.Z),O,by exact ((q.Z.set 0 _).set 1 _).set 2 _,((V.Z.other (by simp;try omega) _).other (by simp;try omega) _).other (by simp;try omega) _,((X.Z.setCell (by simp;try omega) _).setCell (by simp;try omega) _).setCell (by simp;try omega) _⟩
   exact Jm
 obtain rfl:k=j:=om;obtain ⟨r0,r1,r2,r3⟩:=N.Z.c3;obtain ⟨t0,t1,t2⟩:=N.Z.f3
 have D:Hd (s<=1048576):=Jh (by
  obtain ⟨M,Y,_,_⟩:=kI f.Z.len (wh k om).1;obtain ⟨_,_,_,_,b5,_⟩:=xA M
  omega)
 go_wp2_with fail
 exact bodyPost_ret (v:= .tuple #[.agg #[(xf k).W,(xf k).H, .slice J s R], .bool true]) (by simp [results,results83,go_sem,r1,r2,r3]) rfl
  ⟨_,_,_,rfl,(((f.Z.other (by simp;try omega) _).other (by simp;try omega) _).other (by simp;try omega) _).mono om,D.Z,
   ((U.Z.setCell sD _).setCell sD _).setCell sD _⟩
theorem zAO (s:Int) (w:World):Calls prog 61 #[s] w (kP w (xE s)):=by
 by_cases hk:0<=s/\s<=4
 case neg=>
  rw [zCd hk];go_in;go_wp2_with fail;refine (yx _ _ _ _ hk).mono ?_;rintro e w2 ⟨rfl,rfl⟩;go_wp2_with fail;exact bodyPost_ret (v:= .tuple #[.agg ↑Zp, .bool false]) (Jr results61) rfl ⟨none,0,0,rfl,oN,om,nJ⟩
 obtain ⟨k,rfl⟩: ∃k:Nat,s=(k:Int):=⟨s.toNat,om⟩
 have O:k<=4:=om;rw [zAX O];go_in;go_wp2_with fail;refine (zz _ _ _ _ hk.1 hk.2).mono ?_;rintro e w2 ⟨rfl,rfl⟩;clear hk;go_wp2_with fail;have NG:w.heap.size<w.heap.size+2:=om
 go_loopw [0] (fun i wr=> ∃(j:Nat) (D:Option Addr) (q L:Nat),j<=k/\i= .int .i64 ((k:Int) - j)/\OwnA wr (w.heap.size+1) D q L (xf j).ranks/\Hd (∀b,zL D=some b->b≠w.heap.size+2)/\Blk wr (w.heap.size+2) 32 #[(xf j).W,(xf j).H, .slice D q L]/\Blk wr w 32 ↑Zp/\Below w w wr) (fun i _=>(intOf i).toNat)
 case atStart=>
  have hr:Zk #[Z0] 1 [0]:=⟨rfl,by unfold maxLen;omega,rfl,rfl⟩
  exact ⟨0,some ↑(w.heap.size+1),1,1,nZ,by go_num,OwnA.mk ((hr.own' _ sI).alloc _) nI,Jh (by intro b hb;simp [zL] at hb;omega),Blk.zD _ _ sI,((Blk.new w _ _).alloc _).alloc _,Joins.below_alloc3 _ _ _ _⟩
 obtain ⟨j,D,q,L,hj,rfl,X,b0,z,t,hw⟩:=hrel;have f:=Jh X;have G:=Jh z;have F:=Jh t;have M:=Jh hw;obtain ⟨V,o0,U,o2⟩:=G.Z.c3;obtain ⟨q0,q1,Y⟩:=G.Z.f3;clear X z t hw;by_cases b8:j<k
 . obtain ⟨J,T,m3,m4⟩:=kI f.Z.len (wh j om).1
   obtain ⟨b1,b2,b3,b4,b5,b6⟩:=xA J;have h4:4*q<=256:=by have:=zCe j om;have:=f.Z.len;omega
   have M2:=Jh T;have M3:=Jh m3;clear J T m3 m4;go_wp2_with fail;refine (zFo _ _ _ q _ (xf j).ranks _ f.Z.len (by exact f.Z.rd) M2.Z b1 b3 h4 M3.Z).mono ?_;rintro e w5 ⟨a5,n5,c5,rfl,y,b7,g⟩;have A:=Jh y;have l:=Jh (G.Z.zA g);have N:=Jh (F.Z.zA g);have R:=Jh (zI M.Z g);have LB:=Jh G.Z.lt;have LW:=Jh M.Z.size;have LR:=Jh F.Z.lt;have I:Hd (∀b,zL a5=some b->b≠w.heap.size+2):=Jh (fun b hb=>by have:=A.Z.bd b hb;have:=LB.Z;omega);clear y g o0 U o2 q0 q1 Y V;obtain ⟨V,o0,U,o2⟩:=l.Z.c3;obtain ⟨q0,q1,Y⟩:=l.Z.f3;go_wp2_with fail;go_roundw
   case rel=>
    exact ⟨j+1,a5,n5,c5,om,by go_num,(((A.Z.zH (a:=↑(w.heap.size+2)) I.Z _).zH (a:=↑(JE (w.heap.size+2) 1)) I.Z _).zH (a:=↑(JE (w.heap.size+2) 2)) I.Z _).mono (zB LW.Z LR.Z),I,by exact ((l.Z.set 0 _).set 1 _).set 2 _,((N.Z.other (by simp;try omega) _).other (by simp;try omega) _).other (by simp;try omega) _,((R.Z.setCell (by simp;try omega) _).setCell (by simp;try omega) _).setCell (by simp;try omega) _⟩
   exact Jm
 obtain rfl:k=j:=om;obtain ⟨r0,r1,r2,r3⟩:=F.Z.c3;obtain ⟨t0,t1,t2⟩:=F.Z.f3
 have C:Hd (q<=1048576):=Jh (by
  obtain ⟨J,T,_,_⟩:=kI f.Z.len (wh k om).1;obtain ⟨_,_,_,_,b5,_⟩:=xA J
  omega)
 go_wp2_with fail
 exact bodyPost_ret (v:= .tuple #[.agg #[(xf k).W,(xf k).H, .slice D q L], .bool true]) (by simp [results,results61,go_sem,r1,r2,r3]) rfl
  ⟨_,_,_,rfl,(((f.Z.other (by simp;try omega) _).other (by simp;try omega) _).other (by simp;try omega) _).mono om,C.Z,
   ((M.Z.setCell sD _).setCell sD _).setCell sD _⟩
def zBD:Pic × Pic × List Pic:=(⟨1,1,[0]⟩,⟨1,1,[0]⟩,[])
def Ua (w:World) (d:Pic × Pic × List Pic) (e:Ending) (w':World):Prop:=
 ∃E:Dsk,e= .returned E.val/\yG w' w E/\E.dat=d/\jX E/\Below w w w'
theorem zPX:xH 1 1 0=(⟨1,1,[0]⟩,true):=dC
theorem zQN:xE 0=(⟨1,1,[0]⟩,true):=by rfl
set_option maxRecDepth 100000 in
theorem zEu (w:World):Calls prog 42 #[] w (Ua w zBD):=by
 have R:=Jh (Blk.new w 35 ↑Zd);have C:=Jh (zJ (Below.refl w w) (.cells ↑Zd 35));go_in;go_wp2_with fail;refine (qh 1 1 0 _).mono ?_;rw [zPX];rintro e w1 ⟨a,n,c,rfl,f,hn,hb⟩;have q:=Jh (f.alloc (.cells #[Z1,Z1, .slice a n c] 31));have z:Hd (w.heap.size+1<=w1.heap.size):=Jh (by have:=hb.size;simpa using this);have L:=Jh (zJ (zI C.Z hb) (.cells #[Z1,Z1, .slice a n c] 31));have j:=Jh ((R.Z.zA hb).alloc (.cells #[Z1,Z1, .slice a n c] 31));have l:=Jh (Blk.new w1 31 #[Z1,Z1, .slice a n c]);have D:=Jh f.bd;clear hb f R;go_wp2_with fail;refine (YQ 0 _).mono ?_;rw [zQN];rintro e w2 ⟨a2,n2,c2,rfl,f,J,hb⟩;have I:=Jh ((q.Z.zA hb).alloc (.cells #[Z1,Z1, .slice a2 n2 c2] 32));have A:=Jh (f.alloc (.cells #[Z1,Z1, .slice a2 n2 c2] 32));have N:=Jh (zJ (zI L.Z hb) (.cells #[Z1,Z1, .slice a2 n2 c2] 32));have g:=Jh ((j.Z.zA hb).alloc (.cells #[Z1,Z1, .slice a2 n2 c2] 32));have y:=Jh ((l.Z.zA hb).alloc (.cells #[Z1,Z1, .slice a2 n2 c2] 32));have O:=Jh (Blk.new w2 32 #[Z1,Z1, .slice a2 n2 c2]);have t:=Jh f.bd;have F:Hd (w1.heap.size+1<=w2.heap.size):=Jh (by have:=hb.size;simpa using this);clear hb f j l q;obtain ⟨V,c0,c1,s,c3,c4,c5,c6⟩:=g.Z.c7;obtain ⟨f0,X,f2,f3,f4,f5,Y⟩:=g.Z.f7;obtain ⟨m0,d0,d1,d2⟩:=y.Z.c3;obtain ⟨o0,g0,g1,g2⟩:=O.Z.c3;go_wp2_with fail;have T:=z.Z;have U:=F.Z;have G:=D.Z;have M:=t.Z;refine bodyPost_ret (v:=(⟨⟨1,1,a,n,c,[0]⟩,⟨1,1,a2,n2,c2,[0]⟩,none,0,0,[]⟩:Dsk).val) (by simp [results,results42,go_sem,Dsk.val,c0,c1,s,c3,c4,c5,c6]) rfl ⟨_,rfl,?_,rfl,⟨hn,J,by show 0<=1048576;omega,fun k hk=>by simp at hk⟩,?_⟩;refine ⟨?_,?_,OwnV.nil _ _,fun b hb e=>?_,fun b hb e=>?_,fun b hb e=>?_⟩;exact OwnA.mono (qS I.Z sI _ _ _ _ _ _ _) sI;exact OwnA.mono (qS A.Z sO _ _ _ _ _ _ _) sO;have h1:=G b hb;have h2:=M b e;simp at h1 h2;omega;rcases hb with hb | ⟨k,hk,_⟩
 cases hb;simp at hk;rcases hb with hb | ⟨k,hk,_⟩
 cases hb;simp at hk;exact zc N.Z nI _ _ _ _ _ _ _
set_option maxRecDepth 100000 in
theorem zFm (w:World):Calls prog 40 #[] w (Ua w zBD):=by
 have A:=Jh (Blk.new w 35 ↑Zd);have s:=Jh (zJ (Below.refl w w) (.cells ↑Zd 35));go_in;go_wp2_with fail;refine (jZ 1 1 1 _ dC dC).mono ?_;rintro e w1 ⟨g,rfl,hg,q,hb⟩;have D:Hd (w.heap.size+1<=g):=Jh (by simpa using hg);have z:=Jh (q.alloc (.cells #[Z0] 3));have y:Hd (Own (w1.alloc (.cells #[Z0] 3)) w1 1 1 [0]):=Jh ⟨rfl,_,heap_alloc_new w1 _,om,by unfold maxLen;omega,sI,sI⟩;have t:=Jh (zJ (zI s.Z hb) (.cells #[Z0] 3));have f:=Jh ((A.Z.zA hb).alloc (.cells #[Z0] 3));have F:=Jh q.lt;have l:Hd (w.heap.size+1<=w1.heap.size):=Jh (by have:=hb.size;simpa using this);clear hb q hg A;obtain ⟨G,c0,c1,j,c3,c4,c5,c6⟩:=f.Z.c7;obtain ⟨O,I,L,f3,N,M,J⟩:=f.Z.f7;go_wp2_with fail;have C:=l.Z;have hl:=F.Z;have hg:=D.Z;refine bodyPost_ret (v:=(⟨⟨1,1,some ↑g,1,1,[0]⟩,⟨1,1,some ↑w1,1,1,[0]⟩,none,0,0,[]⟩:Dsk).val) (by simp [results,results40,go_sem,Dsk.val,c0,c1,j,c3,c4,c5,c6]) rfl ⟨_,rfl,?_,rfl,⟨by show 1<=1048576;omega,by show 1<=1048576;omega,by show 0<=1048576;omega,fun k hk=>by simp at hk⟩,?_⟩;refine ⟨?_,?_,OwnV.nil _ _,fun b hb e=>?_,fun b hb e=>?_,fun b hb e=>?_⟩;exact OwnA.mono (qS (OwnA.mk z.Z hg) om _ _ _ _ _ _ _) om;exact OwnA.mono (qS (OwnA.mk y.Z nI) om _ _ _ _ _ _ _) om;simp only [zL,Option.some.injEq] at hb e;omega;rcases hb with hb | ⟨k,hk,_⟩
 cases hb;simp at hk;rcases hb with hb | ⟨k,hk,_⟩
 cases hb;simp at hk;exact zc t.Z nI _ _ _ _ _ _ _
theorem US (w:World) {a:Act}
 (y:o.guard=none) (t:Nat) (T:P.underlying t=some (.slice 31)) (q:(P.info? 31).map (fun i=>(i.zero,i.size,i.bytes))=some (some (.agg ↑Zp),3,40))
 (s x:Operand) (A:o.op= .call {callee:= .builtin .append,args:=#[s,x],argTypes:=#[t,t]})
 (B n cap:Nat) (ad:Option Addr) (L:List PV) (X:a.eval s= .slice ad n cap) (G:RowVA w B ad n cap L) (g:Nat) (p:PV) (R:a.eval x= .slice ↑g 1 1)
 (V:w.cell? g=some ↑p.W) (h1:w.cell? (g,1)=some ↑p.H) (h2:w.cell? (g,2)=some (.slice p.a p.n p.c)) (hn:n<=1048576) (O:B<=w.heap.size)
 (hK: ∀f e w',RowVA w' B f (n+1) e (L++ [p])->w.grownBy w' (zL ad)->(zL f=zL ad\/zL f=some w)->K (a.put o.dst (.slice f (n+1) e)) w'):
 if Region.wanted o (yielded ops a.tmps)=true then Oper.wp P o a w K Q else E:=by
 have hw:Region.wanted o (yielded ops a.tmps)=true:=by simp [Region.wanted,y]
 rw [if_pos hw];obtain ⟨i,hi,F,z,C⟩:=info_parts q;have hf:yZ L++p.cells=yZ (L++ [p]):=by simp [yZ]
 obtain ⟨Y,w',hr,J,M,_,N⟩:=run_append_own_at (P:=P) w B t o.type 31 i (.agg ↑Zp) 3 40 T hi F z C (by simp [Value.cells]) om _ n (yZ L) G.toRow ↑g 1 1 p.cells (by simp [PV.cells]) (fun j u l=>by
  have D:j=0\/j=1\/j=2:=by
   have:=(List.getElem?_eq_some_iff.1 l).1;simp [PV.cells] at this;omega
  rcases D with rfl | rfl | rfl
  simp [PV.cells] at l;subst l;simpa [Addr.add] using V;simp [PV.cells] at l;subst l;simpa [Addr.add] using h1
  simp [PV.cells] at l;subst l;simpa [Addr.add] using h2) (fun u I=>by
  simp [PV.cells] at I
  rcases I with rfl | rfl | rfl <;>rfl) (by unfold maxLen;omega) om O
 unfold Oper.wp execOp;simp only [A,resolve,invoke,builtin,Sem.run_bind,Sem.run_pure,Result.andThen_ok,List.map_toArray,List.map_cons,List.map_nil,X,R,hr];rw [hf] at J;obtain ⟨f,e,rfl,U⟩:=RowVA.ofRow (by rw [Yn,G.1];rfl) J;rw [xj] at M;rw [xj,xj] at N;exact hK f e w' U M N
theorem OwnV.toRowVA {L:List PV} (h:OwnV w B ad n cap L):RowVA w B ad n cap L:=by
 obtain ⟨h1,h2,_⟩:=h;exact ⟨h1,h2⟩
theorem OwnV.lit {p:PV} (f:B<=w.heap.size) (hp:OwnA w B p.a p.n p.c p.ink):
 OwnV (w.alloc (.cells ↑p 31)) B ↑w 1 1 [p]:=by
 refine ⟨rfl, .inr ⟨_,rfl,f,⟨_,heap_alloc_new w _,sI,by unfold maxLen;omega,sI,by simp [yZ,PV.cells]⟩⟩,fun k hk=>?_,fun k b hk hb=>?_,fun j k b h1 hk=>om⟩;obtain rfl:k=0:=om;exact hp.alloc _;obtain rfl:k=0:=om;have:=hp.bd b hb;intro e;simp only [zL,Option.some.injEq] at e;omega
end
section
variable {H W a b b' u v x : Int} {c c' : Nat → Int} {i k m n : Nat} {xs : List Int}
open Tq Go.Proofs.Tryz
def yL (d a:Int):Int:=min (d % a) (a - d % a)
def uM (W H:Int) (i k:Nat):Int:=yL ((i:Int) % W - (k:Int) % W) W*yL ((i:Int) % W - (k:Int) % W) W+yL ((i:Int)/W - (k:Int)/W) H*yL ((i:Int)/W - (k:Int)/W) H
theorem jT {d:Int} (ha:1<=a):0<=yL d a/\yL d a<=a:=by
 have h1:=Yg d (show a≠0 by omega);have h2:=Ye d (show 0<a by omega);unfold yL;omega
theorem zGD {d:Int} (ha:1<=a):yL (-d) a=yL d a:=by
 have h1:=Yg d (show a≠0 by omega);have h2:=Ye d (show 0<a by omega);have h3:=Yg (-d) (show a≠0 by omega);have h4:=Ye (-d) (show 0<a by omega)
 have e:(d % a+(-d) % a) % a=0:=by
  rw [<-Int.add_emod];simp [Int.add_right_neg]
 have g:d % a+(-d) % a=0\/d % a+(-d) % a=a:=by
  by_cases h:d % a+(-d) % a<a
  left;rw [Int.emod_eq_of_lt om h] at e;exact e;right;have f:(d % a+(-d) % a - a) % a=0:=by rw [Int.sub_emod_right];exact e
  rw [Int.emod_eq_of_lt om om] at f;omega
 unfold yL;omega
theorem zCp (f:1<=W) (e:1<=H) (i k:Nat):uM W H i k=uM W H k i:=by
 unfold uM;rw [show (i:Int) % W - (k:Int) % W=-((k:Int) % W - (i:Int) % W) by omega,zGD f,show (i:Int)/W - (k:Int)/W=-((k:Int)/W - (i:Int)/W) by omega,zGD e]
theorem Xb (h:0<=x):0<=x*x:=Int.mul_nonneg h h
def wtG (W H:Int) (i k:Nat):Int:=4096/(1+uM W H i k)
def xd (W H:Int) (xs:List Int) (i:Nat):Nat->Int
 | 0=>0
 | k+1=>xd W H xs i k+(if xs.getD k 0=1 then wtG W H i k else 0)
def yA (W H:Int) (xs:List Int) (i:Nat):Int:=xd W H xs i xs.length
def zf (W H:Int) (xs:List Int):Bool:=zP W H xs 1 && decide (xs.length<=256)
def yq (xs:List Int) (v:Int) (c:Nat->Int):Nat->Int
 | 0=>-1
 | k+1=>if xs.getD k 0=v/\(yq xs v c k<0\/c k<c (yq xs v c k).toNat) then (k:Int) else yq xs v c k
def js (W H:Int) (xs:List Int):Int:=yq xs 1 (fun j=>-(1*yA W H xs j)) xs.length
def vg (W H:Int) (xs:List Int):Int:=yq xs 0 (fun j=>-(-1*yA W H xs j)) xs.length
def kS (W H:Int) (xs:List Int):List Int:=xs.set (js W H xs).toNat 0
def um (W H:Int) (xs:List Int):List Int:=xs.set (vg W H xs).toNat 1
def xG (W H:Int) (xs:List Int):List Int × Bool:=
 if js W H xs<0 then (xs,false) else (um W H (kS W H xs),decide (vg W H (kS W H xs)≠js W H xs))
def xX (W H:Int):Nat->List Int->List Int × Nat
 | 0,xs=>(xs,0)
 | m+1,xs=>if (xG W H xs).2=true then ((xX W H m (xG W H xs).1).1,(xX W H m (xG W H xs).1).2+1) else (xs,0)
def yW (W H:Int) (xs:List Int) (d:Nat) (rs:List Int):Nat->List Int × List Int
 | 0=>(xs,rs)
 | k+1=>(kS W H (yW W H xs d rs k).1,(yW W H xs d rs k).2.set (js W H (yW W H xs d rs k).1).toNat ((d:Int) - 1 - k))
def upG (W H:Int) (xs:List Int) (d:Nat) (rs:List Int):Nat->List Int × List Int
 | 0=>(xs,rs)
 | k+1=>(um W H (upG W H xs d rs k).1,(upG W H xs d rs k).2.set (vg W H (upG W H xs d rs k).1).toNat ((d:Int)+k))
def jR (W H:Int) (xs:List Int):List Int:=
 (upG W H xs (zV 1 xs) (yW W H xs (zV 1 xs) (List.replicate xs.length 0) (zV 1 xs)).2 (xs.length - zV 1 xs)).2
def zFv (W H:Int) (xs:List Int):Pic × Bool:=if zf W H xs=true then (⟨W,H,(xG W H xs).1⟩,(xG W H xs).2) else (⟨W,H,xs⟩,false)
def jC (W H:Int) (xs:List Int) (m:Int):Pic × Int:=if zf W H xs=true/\0<=m/\m<=64 then (⟨W,H,(xX W H m.toNat xs).1⟩,((xX W H m.toNat xs).2:Int)) else (⟨W,H,xs⟩,0)
def jO (W H:Int) (xs:List Int):Mat × Bool:=if zf W H xs=true then (⟨W,H,jR W H xs⟩,true) else (vQ,false)
def yE (W H e:Int):Pic × Bool:=if yM W H=true/\W*H<=256/\1<=e/\e<=100 then (⟨W,H,gen (W*H).toNat (fun i=>if (i:Int)*7 % e=0 then 1 else 0)⟩,true) else (yb,false)
theorem xn (hn:xs.length=n) (h:zf W H xs=true):1<=W/\W<=64/\1<=H/\H<=64/\(n:Int)=W*H/\n<=256/\1<=n/\yY xs 1=true/\yM W H=true:=by
 unfold zf at h;simp only [Bool.and_eq_true,decide_eq_true_eq] at h;obtain ⟨h1,h2⟩:=h;obtain ⟨e,f,hi⟩:=yH hn h1;obtain ⟨b1,b2,b3,g,l,j⟩:=yF e;exact ⟨b1,b2,b3,g,f,om,om,hi,e⟩
theorem zNI (hn:xs.length=n) (e:yM W H=true) (f:(n:Int)=W*H) (hi:yY xs 1=true) (h:n<=256):zf W H xs=true:=by
 unfold zf;rw [wm hn e f,hi];simp;omega
def wB (xs:List Int):Prop:= ∀k,k<xs.length->xs.getD k 0=0\/xs.getD k 0=1
theorem uA (h:yY xs 1=true):wB xs:=fun k hk=>by
 have:=xx h k hk;simp only [Yh];omega
theorem zMd (h:wB xs):yY xs 1=true:=by
 unfold yY;rw [Yp];intro v hv;obtain ⟨k,hk,rfl⟩:=List.mem_iff_getElem.1 hv;have:=h k hk;simp only [List.getD,Ya hk,Yz] at this;simp;omega
theorem kO (h:i<xs.length) (v:Int):(xs.set i v).getD i 0=v:=by
 simp [List.getD,List.getElem?_set,h]
theorem kG (h:i≠k) (v:Int):(xs.set i v).getD k 0=xs.getD k 0:=by
 simp [List.getD,List.getElem?_set,h]
theorem wB.set {xs:List Int} (h:wB xs) (i:Nat) {v:Int} (hv:v=0\/v=1):wB (xs.set i v):=fun k hk=>by
 rw [List.length_set] at hk;by_cases e:i=k
 subst e;rw [kO hk];exact hv;rw [kG e];exact h k hk
theorem VX (h:zf W H xs=true) (i:Nat) (hv:v=0\/v=1):zf W H (xs.set i v)=true:=by
 obtain ⟨_,_,_,_,f,e,_,j,g⟩:=xn rfl h;exact zNI (n:=xs.length) sI g f (zMd ((uA j).set i hv)) e
theorem zKY (f:1<=W) (e:1<=H) (i k:Nat):0<=uM W H i k:=by
 unfold uM;have:=Xb (jT (d:=(i:Int) % W - (k:Int) % W) f).1;have:=Xb (jT (d:=(i:Int)/W - (k:Int)/W) e).1;omega
theorem zBk (f:1<=W) (e:1<=H) (i k:Nat):0<=wtG W H i k/\wtG W H i k<=4096:=by
 have h:=zKY f e i k;unfold wtG;exact ⟨Yw om om,Int.ediv_le_self _ om⟩
theorem zQF (f:1<=W) (e:1<=H) (i k:Nat):wtG W H i k=wtG W H k i:=by unfold wtG;rw [zCp f e]
theorem zAc (f:1<=W) (e:1<=H) (xs:List Int) (i k:Nat):0<=xd W H xs i k/\xd W H xs i k<=4096*k:=by
 induction k with
 | zero=>simp [xd]
 | succ k g=>
  have:=zBk f e i k;unfold xd;split <;>omega
theorem VT (hn:xs.length=n) (h:zf W H xs=true) (i:Nat):0<=yA W H xs i/\yA W H xs i<=1048576:=by
 obtain ⟨b1,_,b3,_,_,e,_⟩:=xn hn h;have:=zAc b1 b3 xs i xs.length;unfold yA;omega
theorem Uu (v:Int) (j k:Nat) (h:k<=i):xd W H (xs.set i v) j k=xd W H xs j k:=by
 induction k with
 | zero=>rfl
 | succ k e=>
  unfold xd;rw [e om,kG om]
theorem zGV (j k:Nat) (hi:i<xs.length) (f:xs.getD i 0=0) (h:i<k):xd W H (xs.set i 1) j k=xd W H xs j k+wtG W H j i:=by
 induction k with
 | zero=>omega
 | succ k g=>
  unfold xd;by_cases e:k=i
  subst e;rw [Uu _ _ _ om,kO hi,f,if_pos rfl,if_neg dC];omega;rw [g om,kG om];omega
theorem zEV (j k:Nat) (hi:i<xs.length) (f:xs.getD i 0=1) (h:i<k):xd W H (xs.set i 0) j k=xd W H xs j k - wtG W H j i:=by
 induction k with
 | zero=>omega
 | succ k g=>
  unfold xd;by_cases e:k=i
  subst e;rw [Uu _ _ _ om,kO hi,f,if_pos rfl,if_neg dC];omega;rw [g om,kG om];omega
theorem zKR (j:Nat) (hi:i<xs.length) (e:xs.getD i 0=0):yA W H (xs.set i 1) j=yA W H xs j+wtG W H j i:=by
 unfold yA;rw [List.length_set];exact zGV j _ hi e hi
theorem zIS (j:Nat) (hi:i<xs.length) (e:xs.getD i 0=1):yA W H (xs.set i 0) j=yA W H xs j - wtG W H j i:=by
 unfold yA;rw [List.length_set];exact zEV j _ hi e hi
def ZY (n:Nat) (xs:List Int) (v:Int) (c:Nat->Int) (b:Int):Prop:=
 (b=-1/\ ∀j,j<n->xs.getD j 0≠v)\/ ∃i:Nat,b=(i:Int)/\i<n/\xs.getD i 0=v/\ ∀j,j<n->xs.getD j 0=v->c i<=c j/\(j<i->c i<c j)
theorem Ud (xs:List Int) (v:Int) (c:Nat->Int) (n:Nat):ZY n xs v c (yq xs v c n):=by
 induction n with
 | zero=>exact Or.inl ⟨rfl,fun j h=>om⟩
 | succ k l=>
  unfold yq;rcases l with ⟨h1,h2⟩ | ⟨i,h1,h2,h3,h4⟩
  rw [h1];by_cases e:xs.getD k 0=v
  rw [if_pos ⟨e,Or.inl om⟩];refine Or.inr ⟨k,rfl,om,e,fun j g hv=>?_⟩;by_cases f:j=k
  subst f;exact ⟨Int.le_refl _,fun h=>om⟩;exact absurd hv (h2 j om);rw [if_neg (fun h=>e h.1)];refine Or.inl ⟨rfl,fun j g=>?_⟩;by_cases f:j=k
  subst f;exact e;exact h2 j om;rw [h1];simp only [Yu];by_cases e:xs.getD k 0=v/\((i:Int)<0\/c k<c i)
  rw [if_pos e];have hc:c k<c i:=by rcases e.2 with h | h;omega;exact h
  refine Or.inr ⟨k,rfl,om,e.1,fun j g hv=>?_⟩;by_cases f:j=k
  subst f;exact ⟨Int.le_refl _,fun h=>om⟩;have:=h4 j om hv;exact ⟨om,fun _=>om⟩;rw [if_neg e];refine Or.inr ⟨i,rfl,om,h3,fun j g hv=>?_⟩;by_cases f:j=k
  subst f;have: ¬c j<c i:=fun h=>e ⟨hv,Or.inr h⟩;exact ⟨om,fun h=>om⟩;exact h4 j om hv
theorem ZY.one (h:ZY n xs v c b) (e:ZY n xs v c b'):b=b':=by
 rcases h with ⟨h1,h2⟩ | ⟨i,h1,h2,h3,h4⟩
 rcases e with ⟨g1,g2⟩ | ⟨k,g1,g2,g3,g4⟩
 rw [h1,g1];exact absurd g3 (h2 k g2);rcases e with ⟨g1,g2⟩ | ⟨k,g1,g2,g3,g4⟩
 exact absurd h3 (g2 i h2);have a1:=h4 k g2 g3;have a2:=g4 i h2 h3
 have:i=k:=by
  rcases Nat.lt_trichotomy i k with h | h | h
  have:=a2.2 h;omega;exact h;have:=a1.2 h;omega
 rw [h1,g1,this]
theorem ZY.congr (h:ZY n xs v c b) (e: ∀j,j<n->c j=c' j):ZY n xs v c' b:=by
 rcases h with h | ⟨i,h1,h2,h3,h4⟩
 exact Or.inl h;exact Or.inr ⟨i,h1,h2,h3,fun j f hv=>by rw [<-e i h2,<-e j f];exact h4 j f hv⟩
theorem Kn (xs:List Int) (v:Int) (c:Nat->Int) (n:Nat):(yq xs v c n=-1/\ ∀j,j<n->xs.getD j 0≠v)\/ ∃i:Nat,yq xs v c n=i/\i<n/\xs.getD i 0=v:=by
 rcases Ud xs v c n with h | ⟨i,h1,h2,h3,_⟩
 exact Or.inl h;exact Or.inr ⟨i,h1,h2,h3⟩
theorem qY (W H:Int) (xs:List Int):(js W H xs=-1/\ ∀j,j<xs.length->xs.getD j 0≠1)\/ ∃i:Nat,js W H xs=i/\i<xs.length/\xs.getD i 0=1:=Kn _ _ _ _
theorem Jp (W H:Int) (xs:List Int):(vg W H xs=-1/\ ∀j,j<xs.length->xs.getD j 0≠0)\/ ∃i:Nat,vg W H xs=i/\i<xs.length/\xs.getD i 0=0:=Kn _ _ _ _
theorem zFg (hi:i<xs.length) (h:xs.getD i 0=v):(xs.set i u).set i v=xs:=by
 rw [List.set_set];apply List.ext_getElem?;intro k;rw [List.getElem?_set];by_cases e:i=k
 subst e;rw [if_pos rfl,if_pos hi,Ya hi];simp only [List.getD,Ya hi,Yz] at h;rw [h];rw [if_neg e]
theorem Jo (hi:i<xs.length): ∃k:Nat,vg W H (xs.set i 0)=k/\k<xs.length/\(xs.set i 0).getD k 0=0:=by
 rcases Jp W H (xs.set i 0) with ⟨_,h⟩ | ⟨k,h1,h2,h3⟩
 exact absurd (kO hi 0) (h i (by simpa using hi));exact ⟨k,h1,by simpa using h2,h3⟩
theorem zMQ (h:(xG W H xs).2=false):(xG W H xs).1=xs:=by
 unfold xG at h⊢;rcases qY W H xs with ⟨h1,h2⟩ | ⟨i,h1,h2,h3⟩
 rw [if_pos om];have e: ¬js W H xs<0:=om;rw [if_neg e] at h⊢;simp only [decide_eq_false_iff_not,Decidable.not_not,ne_eq] at h;unfold um;rw [h];unfold kS;rw [h1];simp only [Yu];exact zFg h2 h3
theorem zMP (hd:wB xs) (h:vg W H xs<0):xG W H xs=(xs,false):=by
 unfold xG;rcases qY W H xs with ⟨h1,h2⟩ | ⟨i,h1,h2,h3⟩
 rw [if_pos om];rw [if_neg om]
 have hv: ∀j,j<xs.length->xs.getD j 0≠0:=by
  rcases Jp W H xs with ⟨_,g⟩ | ⟨k,g1,_,_⟩
  exact g;omega
 obtain ⟨k,k1,k2,k3⟩:=Jo (W:=W) (H:=H) h2
 have e:k=i:=by
  by_cases e:i=k
  exact e.symm;rw [kG e] at k3;exact absurd k3 (hv k k2)
 subst e;unfold um kS;rw [h1];simp only [Yu,k1,zFg h2 h3];simp
theorem Xd (W H:Int) (xs:List Int):(kS W H xs).length=xs.length:=by simp [kS]
theorem zGE (W H:Int) (xs:List Int):(um W H xs).length=xs.length:=by simp [um]
theorem ZJ (h:zf W H xs=true):zf W H (kS W H xs)=true:=VX h _ (Or.inl rfl)
theorem Uw (h:zf W H xs=true):zf W H (um W H xs)=true:=VX h _ (Or.inr rfl)
theorem JG (h:zf W H xs=true):zf W H (xG W H xs).1=true:=by
 unfold xG;split;exact h;exact Uw (ZJ h)
theorem zFw (W H:Int) (xs:List Int):(xG W H xs).1.length=xs.length:=by
 unfold xG;split;rfl;rw [zGE,Xd]
theorem zHl (m:Nat) (h:(xG W H xs).2=false):xX W H m xs=(xs,0):=by
 cases m with
 | zero=>rfl
 | succ m=>unfold xX;rw [if_neg (by rw [h];decide)]
theorem zEi (h:(xG W H xs).2=true):xX W H (m+1) xs=((xX W H m (xG W H xs).1).1,(xX W H m (xG W H xs).1).2+1):=by
 rw [xX,if_pos h]
theorem zIT (m:Nat) (h:zf W H xs=true):zf W H (xX W H m xs).1=true:=by
 induction m generalizing xs with
 | zero=>exact h
 | succ m e=>
  unfold xX;split;exact e (JG h);exact h
theorem zNH (W H:Int) (m:Nat) (xs:List Int):(xX W H m xs).1.length=xs.length:=by
 induction m generalizing xs with
 | zero=>rfl
 | succ m e=>
  unfold xX;split;rw [e,zFw];rfl
theorem zAo (hi:i<xs.length) (v u:Int):zV v (xs.set i u)+(if xs.getD i 0=v then 1 else 0)=zV v xs+(if u=v then 1 else 0):=by
 induction xs generalizing i with
 | nil=>simp at hi
 | cons a r e=>
  cases i with
  | zero=>
   rw [List.set_cons_zero,kj,kj];simp only [List.getD_cons_zero];omega
  | succ i=>
   rw [List.set_cons_succ,kj,kj];have:=e (i:=i) (by simpa using hi);simp only [List.getD_cons_succ];omega
theorem QA (h: ∀j,j<xs.length->xs.getD j 0≠v):zV v xs=0:=by
 unfold zV;rw [List.length_eq_zero_iff,List.filter_eq_nil_iff];intro a ha;obtain ⟨k,hk,rfl⟩:=List.mem_iff_getElem.1 ha;have:=h k hk;simp only [List.getD,Ya hk,Yz] at this;simpa using this
theorem zAi (h:wB xs):zV 0 xs+zV 1 xs=xs.length:=by
 induction xs with
 | nil=>rfl
 | cons a r e=>
  rw [kj,kj];have h0:=h 0 sI;have hr:wB r:=fun k hk=>by have:=h (k+1) (by simpa using hk);simpa using this
  have:=e hr;simp only [List.getD_cons_zero] at h0;simp only [List.length_cons];rcases h0 with h0 | h0 <;>subst h0 <;>simp <;>omega
theorem zGY (h1:js W H xs=i) (h2:i<xs.length) (h3:xs.getD i 0=1):zV 1 (kS W H xs)+1=zV 1 xs:=by
 unfold kS;rw [h1];have:=zAo h2 1 0;rw [h3] at this;simpa using this
theorem zGZ (h1:vg W H xs=i) (h2:i<xs.length) (h3:xs.getD i 0=0):zV 1 (um W H xs)=zV 1 xs+1:=by
 unfold um;rw [h1];have:=zAo h2 1 1;rw [h3] at this;simpa using this
theorem YH (h:0<zV 1 xs): ∃i:Nat,js W H xs=i/\i<xs.length/\xs.getD i 0=1:=by
 rcases qY W H xs with ⟨_,h2⟩ | h2
 have:=QA h2;omega;exact h2
theorem Xe (hd:wB xs) (h:zV 1 xs<xs.length): ∃i:Nat,vg W H xs=i/\i<xs.length/\xs.getD i 0=0:=by
 rcases Jp W H xs with ⟨_,h2⟩ | h2
 have:=QA h2;have:=zAi hd;omega;exact h2
theorem uL (h:zf W H xs=true) (rs:List Int) (k:Nat) (hk:k<=zV 1 xs):
 zf W H (yW W H xs (zV 1 xs) rs k).1=true/\(yW W H xs (zV 1 xs) rs k).1.length=xs.length/\zV 1 (yW W H xs (zV 1 xs) rs k).1+k=zV 1 xs/\(yW W H xs (zV 1 xs) rs k).2.length=rs.length:=by
 induction k with
 | zero=>exact ⟨h,rfl,rfl,rfl⟩
 | succ k f=>
  obtain ⟨h1,h2,h3,h4⟩:=f om;obtain ⟨i,e,i2,i3⟩:=YH (W:=W) (H:=H) (xs:=(yW W H xs (zV 1 xs) rs k).1) om;have:=zGY e i2 i3;unfold yW;exact ⟨ZJ h1,by rw [Xd];exact h2,by simp only [];omega,by simp only [List.length_set];exact h4⟩
theorem wU (h:zf W H xs=true) (d:Nat) (rs:List Int) (k:Nat) (hk:zV 1 xs+k<=xs.length):
 zf W H (upG W H xs d rs k).1=true/\(upG W H xs d rs k).1.length=xs.length/\zV 1 (upG W H xs d rs k).1=zV 1 xs+k/\(upG W H xs d rs k).2.length=rs.length:=by
 induction k with
 | zero=>exact ⟨h,rfl,rfl,rfl⟩
 | succ k f=>
  obtain ⟨h1,h2,h3,h4⟩:=f om;obtain ⟨i,e,i2,i3⟩:=Xe (W:=W) (H:=H) (xs:=(upG W H xs d rs k).1) (uA (xn rfl h1).2.2.2.2.2.2.2.1) om;have:=zGZ e i2 i3;unfold upG;exact ⟨Uw h1,by rw [zGE];exact h2,by simp only [];omega,by simp only [List.length_set];exact h4⟩
theorem XN (v:Int) (xs:List Int):zV v xs<=xs.length:=List.length_filter_le _ _
theorem zKu (h:wB xs):ya xs=(zV 1 xs:Int):=by
 induction xs with
 | nil=>rfl
 | cons a r e=>
  rw [kj];have h0:=h 0 sI;have hr:wB r:=fun k hk=>by have:=h (k+1) (by simpa using hk);simpa using this
  have:=e hr;simp only [List.getD_cons_zero] at h0;unfold ya;rcases h0 with h0 | h0 <;>subst h0 <;>simp <;>omega
end
end Go.Proofs.YtlenfgdjdianiaaGreatDoor
