/- Facts on which this claim rests, 13. -/
import Derived.Test.YtlenfgdjdianiaaGreatDoorF12
set_option linter.all false
set_option maxHeartbeats 6400000
namespace Go.Proofs.YtlenfgdjdianiaaGreatDoor
open Go.RowKit Tq Go.Proofs.Tryz
variable {B M N i j k m n : Nat} {H V W v : Int} {b c f g : Nat → Int} {w : World}
def bV (ps:List PV) (i k:Nat):Int:=(pv ps k).ink.getD i 0
theorem zEQ (h: ∀k,k<m->b k=c k):kh b m=kh c m:=by
 induction m with
 | zero=>rfl
 | succ m a=>unfold kh;rw [a (fun k hk=>h k om),h m om]
theorem zPg (ps:List PV) (i:Nat):jD (zS ps) i=kh (bV ps i) ps.length:=by
 unfold jD;rw [xa];exact zEQ (fun k hk=>by rw [uT ps k hk];rfl)
structure Stk (ps:List PV) (n N:Nat) (W H:Int):Prop where
 ok:yc (zS ps)=true
 len:ps.length=n
 n1:1<=n
 n4:n<=4
 size:yM W H=true
 area:(N:Int)=W*H
 N1:1<=N
 N2:N<=1024
 W0:(pv ps 0).W=W
 H0:(pv ps 0).H=H
 ink: ∀k,k<n->(pv ps k).ink.length=N/\yY (pv ps k).ink 1=true
theorem zMJ {ps:List PV} (hn:ps.length=n) (h:yc (zS ps)=true): ∃N W H,Stk ps n N W H:=by
 obtain ⟨h1,h2,h3⟩:=UR.1 h;obtain ⟨t,_,_⟩:=h3 0 om;obtain ⟨e,a,w0⟩:=yH rfl t;obtain ⟨b1,b2,b3,z,A,y⟩:=yF e;refine ⟨(pv ps 0).ink.length,(pv ps 0).W,(pv ps 0).H,h,hn,om,om,e,a,om,om,rfl,rfl,fun k hk=>?_⟩;obtain ⟨u,q,s⟩:=h3 k om;obtain ⟨x,o,l⟩:=yH rfl u;rw [q,s,<-a] at o;exact ⟨om,l⟩
namespace Stk
variable {ps : List PV} {n N : Nat} {W H : Int}
theorem dot (h:Stk ps n N W H) (hi:i<N) (hk:k<n):bV ps i k=0\/bV ps i k=1:=by
 obtain ⟨h1,h2⟩:=h.ink k hk;have:=xx h2 i om;unfold bV;simp only [Yh];omega
theorem bits (h:Stk ps n N W H) (hi:i<N) (hk:k<=n):0<=kh (bV ps i) k/\kh (bV ps i) k<2^k:=zKE (fun j a=>h.dot hi om)
theorem mark (h:Stk ps n N W H) (i:Nat):jD (zS ps) i=kh (bV ps i) n:=by rw [zPg,h.len]
theorem pic0 (h:Stk ps n N W H):(zS ps).getD 0 yb=(pv ps 0).pic:=uT ps 0 (by rw [h.len];exact h.n1)
theorem inkLen (h:Stk ps n N W H):((zS ps).getD 0 yb).ink.length=N:=by
 rw [h.pic0];exact (h.ink 0 (og h.n1)).1
end Stk
theorem Zh (hk:k<=4):1<=(2:Int)^k/\(2:Int)^k<=16:=by
 have:k=0\/k=1\/k=2\/k=3\/k=4:=om;rcases this with rfl | rfl | rfl | rfl | rfl <;>decide
theorem zHf (hv:v=0\/v=1) (hk:k<=4):0<=v*2^k/\v*2^k<=16:=by
 have:=Zh hk;rcases hv with rfl | rfl
 simp;rw [Int.one_mul];omega
theorem zCH (o:Option Addr) (n a:Nat) (w:World) (h2:n<=4):
 Calls prog 210 #[.slice o n a] w fun e w'=>e= .returned ↑(((2^n:Nat):Int))/\w=w':=by
 have h3:(n:Int)<=4:=om;have E:Hd (((2^n:Nat):Int)=(2:Int)^n):=Jh (by push_cast;rfl);obtain ⟨q,l⟩:=Zh h2;obtain ⟨P,s⟩: ∃P,(2:Int)^n=P:=⟨_,rfl⟩
 rw [s] at q l E;rw [E.Z];go_in;go_wp2_with fail;go_ret;exact ⟨rfl,rfl⟩
theorem zHE {ps:List PV} (T:Stk ps n N W H) (P:Option Addr) (C i:Nat) (w:World) (ha:RdV w P ps) (hi:i<N):
 Calls prog 148 #[.slice P n C,i] w fun e w'=>e= .returned ↑(jD (zS ps) i)/\Below w w w':=by
 have l:=Jh T;have Y:=Jh ha;have X:=T.n1;have U:=T.n4;have b1:=T.N2;have E:=Jh (T.mark i);clear T ha;go_in;go_wp2_with fail
 go_loopw [5,10] (fun s i2 wr=> ∃(k:Nat) (S:Int),k<=n/\s=↑S/\i2=↑k/\0<=S/\S<=16/\Hd (kh (bV ps i) k=S)/\Hd (Below w w wr)) (fun _ i _=>n - (intOf i).toNat)
 case atStart=>exact ⟨0,0,nZ,rfl,rfl,om,om,Jh rfl,Jh bR⟩
 obtain ⟨k,S,hk,rfl,rfl,s0,s1,Q,I⟩:=hrel;by_cases u:k<n
 . have z:=Jh (Y.Z.below I.Z)
   obtain ⟨b,off,L,b0⟩:=z.Z.addr (og l.Z.len);subst L;obtain ⟨_,c0,c1,c2⟩:=z.Z.cells (k:=k) (og l.Z.len);have t:=z.Z.len (k:=k) (og l.Z.len);have o:=z.Z.rd (k:=k) (og l.Z.len);obtain ⟨x,_⟩:=l.Z.ink k u;have hd:=l.Z.dot hi u;have G:=(l.Z.bits hi (show k+1<=n by omega)).2;have D:=(Zh (show k+1<=4 by omega)).2;have a:kh (bV ps i) (k+1)=kh (bV ps i) k+bV ps i k*2^k:=rfl;obtain ⟨J,O⟩:=zHf hd (show k<=4 by omega);unfold bV at hd;rw [Q.Z] at a;obtain ⟨p,hp⟩: ∃p,pv ps k=p:=⟨_,rfl⟩
   have q:bV ps i k=p.ink.getD i 0:=by unfold bV;rw [hp]
   rw [q] at a J O;rw [hp] at c0 c1 c2 t o x;obtain ⟨bi,oi,F,R,ci⟩:=o i om;have kN:i<p.n:=om;obtain ⟨v,hv⟩: ∃v,p.ink.getD i 0=v:=⟨_,rfl⟩
   rw [hv] at ci a J O;obtain ⟨M,hM⟩: ∃M,v*2^k=M:=⟨_,rfl⟩
   rw [hM] at a J O;have A:=Jh a;have y:S+M<=16:=om;rw [F] at c2;have kk:(k:Int)<=64:=om;have k0:(0:Int)<=(k:Int):=om;clear hp hv a q hd o t x G D;go_wp2_with fail;go_roundw
   case rel=>exact ⟨k+1,S+M,om,rfl,by go_num,om,y,A,Jh (zJ I.Z _)⟩
   exact Jm
 obtain rfl:k=n:=om;go_wp2_with fail;go_ret;exact ⟨yf (by rw [E.Z,Q.Z]),I.Z⟩
theorem zEo (a:j<N) (hv:g j=v) (hg: ∀i,i<N->i≠j->g i=f i):(gen N f).set j v=gen N g:=by
 refine xk N g _ (by rw [List.length_set,zZ]) (fun i hi=>?_);by_cases e:i=j
 subst e;simp only [List.getD,List.getElem?_set];rw [if_pos trivial,if_pos (by rw [zZ];exact hi)];exact hv.symm;simp only [List.getD,List.getElem?_set];rw [if_neg om];have:=yN N f i hi;simp only [List.getD] at this;rw [this,hg i hi e]
def uq (ps:List PV) (N k j:Nat):List Int:=gen N (fun i=>kh (bV ps i) (if i<j then k+1 else k))
theorem zGp (ps:List PV) (N:Nat):List.replicate N 0=uq ps N 0 0:=by
 unfold uq;refine xk N _ _ sI (fun i hi=>?_);simp [kh,List.getD,hi]
theorem zIm (ps:List PV) (N k:Nat):uq ps N k N=uq ps N (k+1) 0:=by
 unfold uq;refine xk N _ _ (zZ _ _) (fun i hi=>?_);rw [yN _ _ _ hi,if_pos hi,if_neg om]
theorem zLM {ps:List PV} (o:j<N) {S M:Int} (q:kh (bV ps j) k=S) (a:bV ps j k*2^k=M):(uq ps N k j).set j (S+M)=uq ps N k (j+1):=by
 unfold uq;refine zEo o ?_ (fun i hi l=>?_);rw [if_pos om,<-q,<-a];rfl;by_cases e:i<j
 rw [if_pos e,if_pos om];rw [if_neg e,if_neg om]
theorem zLL {ps:List PV} (a:j<N):(uq ps N k j).getD j 0=kh (bV ps j) k:=by
 unfold uq;rw [yN _ _ _ a,if_neg om]
def Vq (ps:List PV) (N:Nat):List Int:=gen N (fun i=>jD (zS ps) i)
theorem zLK {ps:List PV} (T:Stk ps n N W H):uq ps N n 0=Vq ps N:=by
 unfold uq Vq;refine xk N _ _ (zZ _ _) (fun i hi=>?_);rw [yN _ _ _ hi,if_neg om,T.mark]
def zQK (w:World) (N:Nat) (ys:List Int) (e:Ending) (w':World):Prop:= ∃g,e= .returned (.slice (some ⟨g,0,none⟩) N N)/\w.heap.size<=g/\Own w' g N N ys/\Below w w w'
theorem zEz {ps:List PV} (T:Stk ps n N W H) (ad:Option Addr) (b5:Nat) (w:World) (ha:RdV w ad ps):
 Calls prog 211 #[.slice ad n b5] w (zQK w N (Vq ps N)):=by
 have u:=Jh T;have R:=Jh ha;have d6:=T.n1;have d4:=T.n4;have e2:=T.N1;have e3:=T.N2;have E:=Jh (zLK T);obtain ⟨b,off,c8,d8⟩:=ha.addr (og T.len);subst c8;obtain ⟨_,c0,c1,c2⟩:=ha.cells (k:=0) (og T.len);have c4:=ha.len (k:=0) (og T.len);have b0:(pv ps 0).n=N:=by have:=(T.ink 0 om).1;omega
 simp only [Nat.zero_mul,Yy] at c0 c1 c2;rw [b0] at c2;have n0:(0:Int)<(n:Int):=om;clear T ha c4 b0;go_in;go_wp2_with (at_make;refine jU _ rfl _ _ rfl .i64 .i64 _ _ N rfl rfl rfl rfl om ?_;intro M X);have HM:=Jh X;clear X c0 c1 c2;have P:=Jh (HM.Z.own w);have A:=Jh (Joins.below_alloc1 w (.cells M 3));obtain ⟨w1,L⟩:=zN (w.alloc (.cells M 3));rw [<-L] at P A⊢;have e0:=Jh (R.Z.below A.Z);clear L
 go_loopw [16] (fun i wr=> ∃k:Nat,k<=n/\i=↑k/\Hd (Own wr w N N (uq ps N k 0))/\Hd (Below w w wr)) (fun i _=>n - (intOf i).toNat)
 case atStart=>exact ⟨0,nZ,rfl,Jh (by rw [<-zGp];exact P.Z),A⟩
 obtain ⟨k,hk,rfl,HO,HW⟩:=hrel;by_cases Y:k<n
 . have HR:=Jh (R.Z.below HW.Z)
   obtain ⟨_,c0,c1,c2⟩:=HR.Z.cells (k:=k) (og u.Z.len);have U:=HR.Z.len (k:=k) (og u.Z.len);have a:=HR.Z.rd (k:=k) (og u.Z.len);obtain ⟨D,_⟩:=u.Z.ink k Y;have y: ∀i,bV ps i k=(pv ps k).ink.getD i 0:=fun i=>rfl;obtain ⟨p,hp⟩: ∃p,pv ps k=p:=⟨_,rfl⟩
   rw [hp] at c0 c1 c2 U a D y;rw [show p.n=N by omega] at c2;obtain ⟨o,t,C,d3,_⟩:=a 0 om;rw [C] at c2 a;have d0:=Jh D;have b7:=Jh y;have RD:=Jh (a.alloc (.cells ↑p 31));have F:=Jh a;have b4:=Jh (HO.Z.alloc (.cells #[p.W,p.H, .slice (some ↑(o,t)) N p.c] 31));have Q:=Jh (zJ HW.Z (.cells #[p.W,p.H, .slice (some ↑(o,t)) N p.c] 31));have d5:=Jh ((R.Z.below HW.Z));obtain ⟨w2,b1⟩:=zN (wr.alloc (.cells #[p.W,p.H, .slice (some ↑(o,t)) N p.c] 31));have b6:=Jh (F.Z.alloc (.cells #[p.W,p.H, .slice (some ↑(o,t)) N p.c] 31))
   have x:Hd (o<w.heap.size):=Jh (by
    have h:=R.Z.rd (k:=k) (og u.Z.len);rw [hp] at h;obtain ⟨b2,o2,h1,h2,_⟩:=h 0 om;rw [C] at h1;have z:=Yd h1;simp only [Addr.mk.injEq] at z
    omega)
   have k0:(0:Int)<=(k:Int):=om;have kk:(k:Int)<=64:=om;clear hp D y a U C RD;go_wp2_with fail;rw [<-b1] at b4 Q b6⊢;clear b1 c0 c1 c2
   go_loopw [24] (fun i wr=> ∃j:Nat,j<=N/\i=↑j/\Hd (Own wr w N N (uq ps N k j))/\Hd (Below w w wr)) (fun i _=>N - (intOf i).toNat)
   case atStart=>exact ⟨0,nZ,rfl,b4,Q⟩
   obtain ⟨j,hj,rfl,s,l⟩:=hrel;by_cases e:j<N
   . have hS:=zLL (ps:=ps) (k:=k) e
     have g2:=s.Z.cell e;have g3:=s.Z.frozen j;rw [hS] at g2;have d1:=F.Z;have hd:=u.Z.dot e Y;have O:=u.Z.bits e (show k<=n by omega);have d7:=(Zh (show k<=4 by omega)).2;obtain ⟨M0,M1⟩:=zHf hd (show k<=4 by omega)
     have ci:wr.cell? (o,t+j)=some ↑(bV ps j k):=by
      rw [b7.Z];have h:=(R.Z.below l.Z).rd (k:=k) (og u.Z.len)
      have h2:Rd wr (some ↑(o,t)) p.ink:=by
       intro q hq;obtain ⟨b3,o3,h4,h5,h6⟩:=F.Z q hq;have z:=Yd h4;simp only [Addr.mk.injEq] at z;obtain ⟨rfl,rfl,_⟩:=z;refine ⟨o,t,rfl,by have:=x.Z;have:=l.Z.size;omega,?_⟩;have c1:=l.Z.cell (p:=↑(o,t+q)) x.Z;have c2:=HW.Z.cell (p:=↑(o,t+q)) x.Z;rw [c1,<-c2];exact h6
      obtain ⟨b3,o3,h4,h5,h6⟩:=h2 j (oh d0);have z:=Yd h4;simp only [Addr.mk.injEq] at z;obtain ⟨rfl,rfl,_⟩:=z;exact h6
     obtain ⟨v,hv⟩: ∃v,bV ps j k=v:=⟨_,rfl⟩
     rw [hv] at ci M0 M1;obtain ⟨J,X⟩: ∃M,v*2^k=M:=⟨_,rfl⟩
     rw [X] at M0 M1;obtain ⟨S,G⟩: ∃S,kh (bV ps j) k=S:=⟨_,rfl⟩
     rw [G] at g2 O;have HS:=Jh (s.Z.set j (S+J));have b8:=Jh (zLM e G (M:=J) (by rw [hv];exact X));have c5:0<=S/\S<=16:=om;obtain ⟨S0,S1⟩:=c5;have wM:IntKind.i64.wrap J=J:=Yc _ om;have wS:IntKind.i64.wrap (S+J)=S+J:=Yc _ om;have j0:(0:Int)<=(j:Int):=om;have j1:(j:Int)<(N:Int):=om;clear hS hd O hv G d1;go_wp2_with fail
     go_region
     all_goals
      go_wp2_with fail;go_roundw
      case rel=>exact ⟨j+1,om,by go_num,Jh (by rw [<-b8.Z];exact HS.Z),Jh (l.Z.drew.setCell nI _)⟩
      exact Jm
   obtain rfl:j=N:=om;have I:=s.Z;rw [zIm] at I;have d2:=Jh I;clear I;go_wp2_with fail;go_roundw
   case rel=>exact ⟨k+1,om,by go_num,d2,l⟩
   exact Jm
 obtain rfl:k=n:=om;go_wp2_with fail;go_ret;exact ⟨w.heap.size,rfl,nI,by rw [<-E.Z];exact HO.Z,HW.Z⟩
theorem zLN {ps:List PV} (hi:i<N):(Vq ps N).getD i 0=jD (zS ps) i:=by
 unfold Vq;rw [yN _ _ _ hi]
def Zl (ps:List PV) (M i:Nat):List Int:=gen M (fun r=>wF (jD (zS ps)) r i)
theorem zAa (ps:List PV) (M:Nat):List.replicate M 0=Zl ps M 0:=by
 unfold Zl;refine xk M _ _ sI (fun i hi=>?_);simp [wF,List.getD,hi]
theorem zCh {ps:List PV} (hm:jD (zS ps) i=(m:Int)) (l:m<M) (a:wF (jD (zS ps)) m i=V):(Zl ps M i).set m (V+1)=Zl ps M (i+1):=by
 unfold Zl;refine zEo l ?_ (fun r hr e=>?_);show wF (jD (zS ps)) m i+(if jD (zS ps) i=m then 1 else 0)=V+1;rw [hm,if_pos rfl,a];show wF (jD (zS ps)) r i+(if jD (zS ps) i=r then 1 else 0)=_;rw [hm,if_neg om,Int.add_zero]
theorem zEU {ps:List PV} (a:m<M):(Zl ps M i).getD m 0=wF (jD (zS ps)) m i:=by
 unfold Zl;rw [yN _ _ _ a]
theorem zAb {ps:List PV} (T:Stk ps n N W H):yt (zS ps)=Zl ps (2^n) N:=by
 unfold yt Zl;rw [if_pos T.ok,xa,T.len,T.inkLen]
theorem zCk {L:List Pic} (h:yc L=false):yt L=[]:=by unfold yt;rw [h];rfl
theorem zHs {ps:List PV} (T:Stk ps n N W H) (hi:i<N): ∃m:Nat,jD (zS ps) i=m/\m<2^n:=by
 obtain ⟨h1,h2⟩:=T.bits hi (Nat.le_refl n);rw [<-T.mark] at h1 h2;have e:(2:Int)^n=((2^n:Nat):Int):=by push_cast;rfl
 rw [e] at h2;exact ⟨(jD (zS ps) i).toNat,om,om⟩
theorem zHy (h:n<=4):1<=2^n/\2^n<=16:=by
 have:=Zh h;have e:(2:Int)^n=((2^n:Nat):Int):=by push_cast;rfl
 omega
def zCc (w:World) (xs:List Int) (e:Ending) (w':World):Prop:= ∃a n c,e= .returned (.slice a n c)/\OwnA w' w a n c xs/\n<=1048576/\Below w w w'
theorem zBb (P:Option Addr) (n o:Nat) (ps:List PV) (w:World) (hn:ps.length=n) (ha:RdV w P ps) (hl:n<=1048576) (h4: ∀k,k<ps.length->(pv ps k).n<=1048576):
 Calls prog 97 #[.slice P n o] w (zCc w (yt (zS ps))):=by
 have HA:=Jh ha;have L:=Jh (UG P n o ps w hn ha hl h4);by_cases A:yc (zS ps)=true
 case neg=>
  have l:yc (zS ps)=false:=by simpa using A
  rw [zCk l];rw [l] at L;clear A l hn ha h4;go_in;go_wp2_with fail;refine L.Z.mono ?_;rintro e w1 ⟨rfl,hb⟩;have a:=Jh hb;clear hb;go_wp2_with fail;go_ret;exact ⟨none,0,0,rfl,oN,om,a.Z⟩
 obtain ⟨N,W,H,T⟩:=zMJ hn A;rw [zAb T];rw [A] at L;have I:=Jh T;have b4:=T.n1;have Q:=T.n4;have b6:=T.N1;have b7:=T.N2;obtain ⟨m1,m2⟩:=zHy Q;have E:Hd (((2^n:Nat):Int)=(2:Int)^n):=Jh (by push_cast;rfl);obtain ⟨M,U⟩: ∃M,2^n=M:=⟨_,rfl⟩
 have t: ∀i:Nat,i<N-> ∃m:Nat,jD (zS ps) i=m/\m<M:=fun i hi=>by rw [<-U];exact zHs T hi
 have b1:=Jh t;rw [U] at m1 m2 E⊢;have EM:(2:Int)^n=(M:Int):=E.Z.symm;have n0:(0:Int)<(n:Int):=om;have n3:(n:Int)<=4:=om;obtain ⟨b,off,b0,b5⟩:=ha.addr om;subst b0;clear A hn ha h4 T U t;go_in;go_wp2_with fail;refine L.Z.mono ?_;rintro e w1 ⟨rfl,hb⟩;have a:=Jh hb;have C:=Jh (HA.Z.below hb);clear hb;obtain ⟨_,c0,c1,c2⟩:=C.Z.cells (k:=0) (og I.Z.len);have X:=C.Z.len (k:=0) (og I.Z.len);have F:(pv ps 0).n=N:=by have:=(I.Z.ink 0 om).1;omega
 simp only [Nat.zero_mul,Yy] at c0 c1 c2;rw [F] at c2;clear X F;go_wp2_with (at_make;refine jU _ rfl _ _ rfl .i64 .i64 _ _ M rfl rfl rfl rfl om ?_;intro MM z);have u:=Jh (z.own w1);have G:=Jh (zJ a.Z (.cells MM 3));clear z c0 c1 c2;obtain ⟨w2,D⟩:=zN (w1.alloc (.cells MM 3));rw [<-D] at u G⊢;clear D;have GL:Hd (w.heap.size<=w1.heap.size):=Jh a.Z.size
 go_loopw [18] (fun i wr=> ∃k:Nat,k<=N/\i= .int .i64 k/\Hd (Own wr w1 M M (Zl ps M k))/\Hd (Below w w wr)) (fun i _=>N - (intOf i).toNat)
 case atStart=>exact ⟨0,nZ,rfl,Jh (by rw [<-zAa];exact u.Z),G⟩
 obtain ⟨k,hk,rfl,O,Y⟩:=hrel;by_cases y:k<N
 . have CM:=Jh (zHE I.Z (some ↑(b,off)) o k wr (HA.Z.below Y.Z) y)
   obtain ⟨m,hm,q⟩:=b1.Z k y;have x:=zBp (jD (zS ps)) m k;obtain ⟨V,J⟩: ∃V,wF (jD (zS ps)) m k=V:=⟨_,rfl⟩
   have HG:Hd ((Zl ps M k).getD m 0=V):=Jh (by rw [zEU q,J]);have R:=Jh (zCh hm q J);rw [J] at x;rw [hm] at CM;obtain ⟨V0,V1⟩:=x;have b3:(m:Int)<(M:Int):=om;clear hm J;go_wp2_with fail;refine CM.Z.mono ?_;rintro e w5 ⟨rfl,hb⟩;have s:=Jh (O.Z.below hb O.Z.lt);have b2:=Jh (zI Y.Z hb);have g2:=s.Z.cell q;have g3:=s.Z.frozen m;rw [HG.Z] at g2;have HS:=Jh (s.Z.set m (V+1));clear hb;go_wp2_with fail;go_roundw
   case rel=>exact ⟨k+1,om,by go_num,Jh (by rw [<-R.Z];exact HS.Z),Jh (b2.Z.setCell GL.Z _)⟩
   exact Jm
 obtain rfl:k=N:=om;go_wp2_with fail;go_ret;exact ⟨_,_,_,rfl,OwnA.mk O.Z GL.Z,om,Y.Z⟩
theorem zAq (z:Option Addr) (n a:Nat) (ps:List PV) (w:World) (hn:ps.length=n) (ha:RdV w z ps) (hl:n<=1048576) (h4: ∀k,k<ps.length->(pv ps k).n<=1048576):
 Calls prog 172 #[.slice z n a] w (zCc w (yt (zS ps))):=by
 have HA:=Jh ha;have J:=Jh (Vb z n a ps w hn ha hl h4);by_cases G:yc (zS ps)=true
 case neg=>
  have o:yc (zS ps)=false:=by simpa using G
  rw [zCk o];rw [o] at J;clear G o hn ha h4;go_in;go_wp2_with fail;refine J.Z.mono ?_;rintro e w1 ⟨rfl,hb⟩;have l:=Jh hb;clear hb;go_wp2_with fail;go_ret;exact ⟨none,0,0,rfl,oN,om,l.Z⟩
 obtain ⟨N,W,H,T⟩:=zMJ hn G;rw [zAb T];rw [G] at J;have HT:=Jh T;have b4:=T.n1;have A:=T.n4;have b5:=T.N1;have b6:=T.N2;obtain ⟨m1,m2⟩:=zHy A;have CL:=Jh (fun v:World=>zCH z n a v A);obtain ⟨M,Q⟩: ∃M,2^n=M:=⟨_,rfl⟩
 have y: ∀i:Nat,i<N-> ∃m:Nat,jD (zS ps) i=m/\m<M:=fun i hi=>by rw [<-Q];exact zHs T hi
 have Y:=Jh y;rw [Q] at m1 m2 CL⊢;clear G hn ha h4 T Q y;go_in;go_wp2_with fail;refine J.Z.mono ?_;rintro e w1 ⟨rfl,hb⟩;have l:=Jh hb;have U:=Jh (HA.Z.below hb);clear hb;go_wp2_with fail;refine (CL.Z _).mono ?_;rintro e w9 ⟨rfl,rfl⟩;go_wp2_with (at_make;refine jU _ rfl _ _ rfl .i64 .i64 _ _ M rfl rfl rfl rfl om ?_;intro MM F);have D:=Jh (F.own w1);have b2:=Jh (zJ l.Z (.cells MM 3));have L:=Jh (U.Z.alloc (.cells MM 3));clear F;refine (zEz HT.Z z a _ (by exact L.Z)).mono ?_;rintro e w3 ⟨g,rfl,hg,ho,hb⟩;have b0:=Jh (D.Z.below hb D.Z.lt);have C:=Jh (zI b2.Z hb);have HG:Hd (w1.heap.size<g):=Jh (by simp at hg;omega);have X:=Jh ho;have GL:Hd (w.heap.size<=w1.heap.size):=Jh l.Z.size;clear hb ho hg;go_wp2_with fail
 go_loopw [15] (fun i wr=> ∃k:Nat,k<=N/\i= .int .i64 k/\Hd (Own wr w1 M M (Zl ps M k))/\Hd (w3.grownBy wr (some w1))) (fun i _=>N - (intOf i).toNat)
 case atStart=>exact ⟨0,nZ,rfl,Jh (by rw [<-zAa];exact b0.Z),Jh (yR _ _)⟩
 obtain ⟨k,hk,rfl,I,s⟩:=hrel;by_cases u:k<N
 . have R:=Jh (X.Z.grown s.Z (by have:=HG.Z;intro e;have:=Yd e;omega))
   have m4:=R.Z.cell u;rw [zLN u] at m4;obtain ⟨m,hm,t⟩:=Y.Z k u;rw [hm] at m4;have E:=zBp (jD (zS ps)) m k;obtain ⟨V,O⟩: ∃V,wF (jD (zS ps)) m k=V:=⟨_,rfl⟩
   have x:=zEU (ps:=ps) (i:=k) t;have P:=Jh (zCh hm t O);rw [O] at E x;obtain ⟨V0,V1⟩:=E;have b3:(m:Int)<(M:Int):=om;have g2:=I.Z.cell t;have g3:=I.Z.frozen m;rw [x] at g2;have HS:=Jh (I.Z.set m (V+1));clear hm O x;go_wp2_with fail;go_roundw
   case rel=>exact ⟨k+1,om,by go_num,Jh (by rw [<-P.Z];exact HS.Z),Jh (yO s.Z _)⟩
   exact Jm
 obtain rfl:k=N:=om;have b1:=Jh (C.Z.grown s.Z C.Z.size (by intro q hq;cases hq;exact GL.Z));go_wp2_with fail;go_ret;exact ⟨_,_,_,rfl,OwnA.mk I.Z GL.Z,om,b1.Z⟩
theorem xe.last {g r:Nat} {D:Dsk} (h:xe w B g D) (hk:D.n=k+1) (hr:D.a=some ↑r):
 Jc w (r,k*3) (pv D.ps k).W/\Jc w (r,k*3+1) (pv D.ps k).H/\Jc w (r,k*3+2) (.slice (pv D.ps k).a (pv D.ps k).n (pv D.ps k).c)/\
 (pv D.ps k).ink.length=(pv D.ps k).n/\Rd w (pv D.ps k).a (pv D.ps k).ink/\(pv D.ps k).n<=1048576/\(pv D.ps k).n<=(pv D.ps k).c:=by
 have hl:k<D.ps.length:=by rw [h.own.s.len,hk];omega
 have e:=h.own.s.rd;rw [hr] at e;obtain ⟨_,c0,c1,c2⟩:=e.cells hl;simp only [Nat.zero_add] at c0 c1 c2;refine ⟨c0,c1,c2,e.len hl,e.rd hl,h.small.s k hl,?_⟩;rcases h.own.s.ink k om with ⟨_,h1,h2,_⟩ | ⟨_,_,_,h1⟩
 omega;exact h1.2.choose_spec.2.1
def yK (v:Int):Prop:=-9223372036854775808<=v/\v<=9223372036854775807
def ZN (d:Dat) (q:Pic):Dat × List UInt8:=(d,xI [(ku q.W q.H q.ink).1,(ku q.W q.H q.ink).2])
def ZQ (d:Dat) (q:Pic):Dat × List UInt8:=(d,xI (jF q.W q.H q.ink))
def ue (d:Dat) (q:Pic):Dat × List UInt8:=(d,xI (yt d.2.2))
def qQ (d:Dat) (q:Pic):Dat × List UInt8:=(d,xI [qf d.1.W d.1.H d.1.ink q.W q.H q.ink])
theorem zIA (w:World) (a b:Int) (T:Nat):Rd (w.alloc (.cells #[a,b] T)) ↑w [a,b]:=by
 intro k hk;refine ⟨w.heap.size,0,rfl,sI,?_⟩;rw [(Blk.new w T #[a,b]).cell];have e:k<2:=by simpa using hk
 rcases (show k=0\/k=1 by omega) with rfl | rfl <;>rfl
theorem zHz (w:World) (a:Int) (T:Nat):Rd (w.alloc (.cells #[a] T)) ↑w [a]:=by
 intro k hk;obtain rfl:k=0:=by simpa using hk
 exact ⟨w.heap.size,0,rfl,sI,by rw [(Blk.new w T #[a]).cell];rfl⟩
set_option maxRecDepth 100000 in
theorem zMY (k r:Nat) (w:World) (B g:Nat) (D:Dsk) (l:xe w B g D) (hk:D.n=k+1) (hr:D.a=some ↑r) (hi:yK (ku (pv D.ps k).W (pv D.ps k).H (pv D.ps k).ink).1/\yK (ku (pv D.ps k).W (pv D.ps k).H (pv D.ps k).ink).2):
 Calls prog 128 #[.pointer ↑g, .pointer (some ↑(r,k*3))] w (xT B g D (fun d=>ZN d (pv D.ps k).pic) w):=by
 have o:=Jh l;obtain ⟨c0,c1,c2,t,rd,L,_⟩:=l.last hk hr;obtain ⟨q,G⟩: ∃q,pv D.ps k=q:=⟨_,rfl⟩
 rw [G] at c0 c1 c2 t rd L hi⊢;have J:=Jh rd;have I:=Jh t;have s:=Jh hi;clear l hk hr rd t hi G;go_in;go_wp2_with fail;refine (zGd q.W q.H q.a q.n q.c q.ink _ I.Z (by exact J.Z) om).mono ?_;rintro e w1 ⟨rfl,hb⟩;obtain ⟨X,A⟩: ∃X,(ku q.W q.H q.ink).1=X:=⟨_,rfl⟩
 obtain ⟨Y,u⟩: ∃Y,(ku q.W q.H q.ink).2=Y:=⟨_,rfl⟩
 have E:Hd (ZN D.dat q.pic=(D.dat,xI [X,Y])):=Jh (by unfold ZN;rw [show q.pic.W=q.W from rfl,show q.pic.H=q.H from rfl,show q.pic.ink=q.ink from rfl,A,u]);rw [A,u] at s⊢;have y:=Jh (zJ hb (.cells #[.int .i64 X, .int .i64 Y] 3));have z:=Jh ((o.Z.laid.below hb).below (Joins.below_alloc1 w1 (.cells #[.int .i64 X, .int .i64 Y] 3)));clear hb c0 c1 c2 A u;go_wp2_with fail;refine (ug ↑w1 2 2 [X,Y] _ rfl (by exact zIA _ _ _ _) om (fun x F=>by simp at F;rcases F with rfl | rfl;exact s.Z.1;exact s.Z.2) (by exact z.Z)).mono ?_;rintro e w2 ⟨rfl,hb⟩;have C:=Jh (zI y.Z hb);go_wp2_with fail;go_ret;exact o.Z.stay C.Z (by rw [E.Z]) (by rw [E.Z])
set_option maxRecDepth 100000 in
theorem zMZ (k r:Nat) (w:World) (B g:Nat) (D:Dsk) (l:xe w B g D) (hk:D.n=k+1) (hr:D.a=some ↑r) (hi:(jF (pv D.ps k).W (pv D.ps k).H (pv D.ps k).ink).length<=4096/\ ∀x,x ∈ jF (pv D.ps k).W (pv D.ps k).H (pv D.ps k).ink->yK x):
 Calls prog 127 #[.pointer ↑g, .pointer (some ↑(r,k*3))] w (xT B g D (fun d=>ZQ d (pv D.ps k).pic) w):=by
 have o:=Jh l;obtain ⟨c0,c1,c2,u,rd,Q,_⟩:=l.last hk hr;obtain ⟨q,G⟩: ∃q,pv D.ps k=q:=⟨_,rfl⟩
 rw [G] at c0 c1 c2 u rd Q hi⊢;have O:=Jh rd;have L:=Jh u;have s:=Jh hi;clear l hk hr rd u hi G;go_in;go_wp2_with fail;refine (zGe q.W q.H q.a q.n q.c q.ink _ L.Z (by exact O.Z) om).mono ?_;obtain ⟨X,A⟩: ∃X,jF q.W q.H q.ink=X:=⟨_,rfl⟩
 have E:Hd (ZQ D.dat q.pic=(D.dat,xI X)):=Jh (by unfold ZQ;rw [show q.pic.W=q.W from rfl,show q.pic.H=q.H from rfl,show q.pic.ink=q.ink from rfl,A]);rw [A] at s⊢;rintro e w1 ⟨a1,n1,k1,rfl,t,P,hb⟩;have y:=Jh hb;have F:=Jh t;have z:=Jh (o.Z.laid.below hb);have I:=s.Z.1;rw [t.len] at I;clear hb c0 c1 c2 A t;go_wp2_with fail;refine (ug a1 n1 k1 X _ F.Z.len (by exact F.Z.rd) I (fun x J=>s.Z.2 x J) (by exact z.Z)).mono ?_;rintro e w2 ⟨rfl,hb⟩;have C:=Jh (zI y.Z hb);go_wp2_with fail;go_ret;exact o.Z.stay C.Z (by rw [E.Z]) (by rw [E.Z])
set_option maxRecDepth 100000 in
theorem zHR (k r:Nat) (w:World) (B g:Nat) (D:Dsk) (o:xe w B g D) (hk:D.n=k+1) (hr:D.a=some ↑r) (hi:(yt (zS D.ps)).length<=4096/\ ∀x,x ∈ yt (zS D.ps)->yK x):
 Calls prog 129 #[.pointer ↑g, .pointer (some ↑(r,k*3))] w (xT B g D (fun d=>ue d (pv D.ps k).pic) w):=by
 have l:=Jh o;have G:Blk w g 35 ↑D:=o.box;obtain ⟨J,L,d1,d2,d3,d4,Q,P⟩:=G.c7;have q:=Jh hi;clear o hk hr hi G L d1 d2 d3 d4 Q;go_in;go_wp2_with fail;refine (zAq D.a D.n D.c D.ps _ l.Z.own.s.len (by exact l.Z.own.s.rd) (og l.Z.small.n) (by exact l.Z.small.s)).mono ?_;obtain ⟨X,z⟩: ∃X,yt (zS D.ps)=X:=⟨_,rfl⟩
 have E:Hd (ue D.dat (pv D.ps k).pic=(D.dat,xI X)):=Jh (by unfold ue;rw [show D.dat.2.2=zS D.ps from rfl,z]);rw [z] at q⊢;rintro e w1 ⟨a1,n1,k1,rfl,t,O,hb⟩;have u:=Jh hb;have C:=Jh t;have y:=Jh (l.Z.laid.below hb);have F:=q.Z.1;rw [t.len] at F;clear hb J P z t;go_wp2_with fail;refine (ug a1 n1 k1 X _ C.Z.len (by exact C.Z.rd) F (fun x I=>q.Z.2 x I) (by exact y.Z)).mono ?_;rintro e w2 ⟨rfl,hb⟩;have A:=Jh (zI u.Z hb);go_wp2_with fail;go_ret;exact l.Z.stay A.Z (by rw [E.Z]) (by rw [E.Z])
def zPO (w:World) (xs:List Int) (e:Ending) (w':World):Prop:=
 ∃a n c,e= .returned (.slice a n c)/\OwnA w' w a n c xs/\n<=1048576/\Below w w w'
theorem zCA (W H:Int) (Q:Option Addr) (n D:Nat) (xs:List Int) (A C:Int) (q:Option Addr) (a l:Nat) (y:List Int) (w:World)
 (hn:xs.length=n) (ha:Rd w Q xs) (hl:n<=9223372036854775807) (T:y.length=a) (b0:Rd w q y) (Y:a<=9223372036854775807):
 Calls prog 199 #[.agg #[W,H, .slice Q n D], .agg #[A,C, .slice q a l]] w (zPO w (Ke W H xs A C y)):=by
 have R:=Jh hn;have HA:=Jh ha;have o:=Jh T;have J:=Jh b0;clear hn ha T b0;by_cases hp:zq W H xs=true
 case neg=>
  have L:zq W H xs=false:=by simpa using hp
  rw [zAz (fun h=>hp h.1)];clear hp;go_in;go_wp2_with fail;refine (yn _ _ _ _ _ xs _ R.Z (by exact (HA.Z.alloc _).alloc _) hl).mono ?_;rintro e w1 ⟨rfl,hb⟩;have u:=Jh (zI (zJ (zJ bR _) _) hb);have t:=Jh (((Blk.zD (g:=w.heap.size) 32 #[W,H, .slice Q n D] (by first | rfl | simp)).alloc _).zA hb);have s:Hd (Blk w1 (w.heap.size+1) 31 #[A,C, .slice q a l]):=Jh ((Blk.zD (g:=w.heap.size+1) 31 #[A,C, .slice q a l] sI).zA hb);obtain ⟨l1,c0,c1,c2⟩:=t.Z.c3;obtain ⟨m1,P,d1,d2⟩:=s.Z.c3;clear hb;rw [L];go_wp2_with fail;go_ret;exact ⟨_,_,_,rfl,oN,om,u.Z⟩
 by_cases x:zP A C y 255=true
 case neg=>
  have L:zP A C y 255=false:=by simpa using x
  rw [zAz (fun h=>x h.2)];clear x;go_in;go_wp2_with fail;refine (yn _ _ _ _ _ xs _ R.Z (by exact (HA.Z.alloc _).alloc _) hl).mono ?_;rintro e w1 ⟨rfl,hb⟩;have u:=Jh (zI (zJ (zJ bR _) _) hb);have t:=Jh (((Blk.zD (g:=w.heap.size) 32 #[W,H, .slice Q n D] (by first | rfl | simp)).alloc _).zA hb);have s:Hd (Blk w1 (w.heap.size+1) 31 #[A,C, .slice q a l]):=Jh ((Blk.zD (g:=w.heap.size+1) 31 #[A,C, .slice q a l] sI).zA hb);obtain ⟨l1,c0,c1,c2⟩:=t.Z.c3;obtain ⟨m1,P,d1,d2⟩:=s.Z.c3;clear hb;rw [hp];go_wp2_with fail;refine (ym _ _ _ _ _ y _ o.Z (by exact J.Z.below u.Z) Y).mono ?_;rintro e w2 ⟨rfl,hb⟩;have I:=Jh (zI u.Z hb);have F:=Jh (t.Z.zA hb);have E:=Jh (s.Z.zA hb);clear c0 c1 c2 P d1 d2 hb;obtain ⟨l2,c0,c1,c2⟩:=F.Z.c3;obtain ⟨m2,P,d1,d2⟩:=E.Z.c3;rw [L];go_wp2_with fail;go_ret;exact ⟨_,_,_,rfl,oN,om,I.Z⟩
 rw [QJ R.Z hp x];obtain ⟨z,X,hi,hd⟩:=kI R.Z hp;obtain ⟨b1,b2,b3,b4,b5,b6⟩:=xA z;have HQ:=Jh X;have HI:=Jh hi;have HD:=Jh hd;have HS:=Jh z;have e1:1<=n:=om;have c8:n<=256:=om;clear X hi z hd;obtain ⟨z,X,hi⟩:=yH o.Z x;obtain ⟨e6,d6,e4,e5,e0,d8⟩:=yF z;have e3:=Jh X;have d3:=Jh hi;have d7:=Jh z;have d4:1<=a:=om;have d5:a<=1024:=om;clear X hi z;go_in;go_wp2_with fail;refine (yn _ _ _ _ _ xs _ R.Z (by exact (HA.Z.alloc _).alloc _) hl).mono ?_;rintro e w1 ⟨rfl,hb⟩;have u:=Jh (zI (zJ (zJ bR _) _) hb);have t:=Jh (((Blk.zD (g:=w.heap.size) 32 #[W,H, .slice Q n D] (by first | rfl | simp)).alloc _).zA hb);have s:Hd (Blk w1 (w.heap.size+1) 31 #[A,C, .slice q a l]):=Jh ((Blk.zD (g:=w.heap.size+1) 31 #[A,C, .slice q a l] sI).zA hb);obtain ⟨l1,c0,c1,c2⟩:=t.Z.c3;obtain ⟨m1,P,d1,d2⟩:=s.Z.c3;clear hb;rw [hp];go_wp2_with fail;refine (ym _ _ _ _ _ y _ o.Z (by exact J.Z.below u.Z) Y).mono ?_;rintro e w2 ⟨rfl,hb⟩;have I:=Jh (zI u.Z hb);have F:=Jh (t.Z.zA hb);have E:=Jh (s.Z.zA hb);clear c0 c1 c2 P d1 d2 hb;obtain ⟨l2,c0,c1,c2⟩:=F.Z.c3;obtain ⟨m2,P,d1,d2⟩:=E.Z.c3;rw [x];go_wp2_with (at_make;refine jU _ rfl _ _ rfl .i64 .i64 a a a rfl rfl rfl rfl om ?_;intro M hM);have HM:=Jh hM;clear hM
 go_loopw [23] (fun i wr=> ∃k:Nat,k<=a/\i=↑k/\Own wr w2 a a (zn (y.map (xh n)) (List.replicate a 0) k)/\Below w2 w2 wr) (fun i _=>a - (intOf i).toNat)
 case atStart=>exact ⟨0,nZ,rfl,by rw [yh];exact HM.Z.own _,nJ⟩
 obtain ⟨k,hk,rfl,O,G⟩:=hrel;have b7:=Jh (zI I.Z G);have KP:=Jh (F.Z.zA G);have KQ:=Jh (E.Z.zA G);obtain ⟨l9,p0,p1,p2⟩:=KP.Z.c3;obtain ⟨m9,q0,q1,q2⟩:=KQ.Z.c3;by_cases b8:k<a
 . obtain ⟨ba,oa,c4,e2,U⟩:=(J.Z.below b7.Z).at (oh o)
   have h1:=U k (oh o);subst c4;clear U;obtain ⟨v1,v2⟩:=xx d3.Z k (oh o);have g2:wr.cell? (w2,k)=some ↑((zn (y.map (xh n)) (List.replicate a 0) k).getD k 0):=O.cell b8;have g3:wr.frozen? (w2,k)=false:=O.frozen k;have z:=O.set k (xh n (y[k]?.getD 0));rw [yd (y.map (xh n)) _ k _ (oS o.Z) sO (zCK _ _ _ (oh o))] at z;have c5:=Jh z;clear z O;go_wp2_with fail;refine (Vj n _ _ v1 v2 c8).mono ?_;rintro e w3 ⟨rfl,rfl⟩;go_wp2_with fail;go_roundw
   case rel=>exact ⟨k+1,om,by go_num,by simpa using c5.Z,G.setCell nI _⟩
   exact Jm
 go_wp2_with fail;go_ret;obtain rfl:a=k:=om;rw [xY (y.map (xh n)) _ a (oS o.Z) sI] at O;exact ⟨_,_,_,rfl,OwnA.mk O (og I.Z.size),om,b7.Z⟩
end Go.Proofs.YtlenfgdjdianiaaGreatDoor
