/- Facts on which this claim rests, 38. -/
import Derived.Test.YtlenfgdjdianiaaGreatDoorG37
set_option linter.all false
set_option maxHeartbeats 6400000
namespace Go.Proofs.YtlenfgdjdianiaaGreatDoor
section
variable {H W m : Int} {i j n : Nat} {t : Nat → Nat} {xs : List Int}
open Tq Go.Proofs.Tryz
theorem FD (e:yV W H=true) (hn:xs.length=n) (c:(n:Int)=W*H) (hw:xM xs m=true):zT W H xs m=true:=by
 rw [KU hn e c];exact hw
theorem nG (hl:xs.length=n) (mk:yD W H xs=true):
 Za W H xs=⟨W,H,xs.map (fun v=>(n:Int) - 1 - v)⟩/\yD W H (xs.map (fun v=>(n:Int) - 1 - v))=true/\(xs.map (fun v=>(n:Int) - 1 - v)).map (fun v=>(n:Int) - 1 - v)=xs:=by
 obtain ⟨e,o,q,x⟩:=jh hl mk;refine ⟨FH hl mk,Er (by simpa using hl) e o ?_ ?_,?_⟩;unfold inR;rw [Yp];intro v hv;obtain ⟨u,c,rfl⟩:=List.mem_map.1 hv;have:=Iz q c;simp;omega;unfold List.Nodup;rw [List.pairwise_map];exact x.imp (fun h=>om);rw [List.map_map];have:((fun v=>(n:Int) - 1 - v) ∘ fun v=>(n:Int) - 1 - v)=id:=by funext v;simp only [Function.comp,id];omega
 rw [this,List.map_id]
theorem zAC (h:xs.Nodup) (hi:i<xs.length) (c:j<xs.length) (e:xs.getD i 0=xs.getD j 0):i=j:=by
 unfold List.Nodup at h;rw [List.pairwise_iff_getElem] at h;simp only [List.getD,Ya hi,Ya c,Yz] at e;rcases Nat.lt_trichotomy i j with hlt | rfl | hlt
 exact absurd e (h i j hi c hlt);rfl;exact absurd e.symm (h j i c hi hlt)
theorem mE (h:xs.Nodup) (q: ∀i,i<n->t i<xs.length) (hi: ∀i j,i<n->j<n->t i=t j->i=j):(gen n (fun i=>xs.getD (t i) 0)).Nodup:=by
 unfold gen List.Nodup;rw [List.pairwise_map];refine List.Pairwise.imp_of_mem (R:=(·<·)) ?_ List.pairwise_lt_range;intro a b ha hb v e;have c:=List.mem_range.1 ha;have o:=List.mem_range.1 hb;have:=hi a b c o (zAC h (q a c) (q b o) e);omega
theorem zAk (hl:xs.length=n) (mk:yD W H xs=true) (a b:Int):yD W H (gen n (vP W H xs a b))=true:=by
 obtain ⟨J,c,Q,R⟩:=jh hl mk;obtain ⟨b1,b2,b3,b4,b5,b6⟩:=kI J;refine Er (zk _ _) J c (zBz (fun i hi=>Bg hl c b1 b3 Q _ _)) ?_;refine mE (t:=fun i=>(((i:Int)/W - b) % H*W+((i:Int) % W - a) % W).toNat) R (fun i hi=>?_) (fun i j hi hj e=>?_);rw [hl];exact (KY c b1 b3 _ _).2.2.2;obtain ⟨i0,i1,i2,i3⟩:=KY c b1 b3 ((i:Int) % W - a) ((i:Int)/W - b);obtain ⟨j0,j1,j2,j3⟩:=KY c b1 b3 ((j:Int) % W - a) ((j:Int)/W - b);have N:((i:Int)/W - b) % H*W+((i:Int) % W - a) % W=((j:Int)/W - b) % H*W+((j:Int) % W - a) % W:=om;obtain ⟨T,V⟩:=JO ((i:Int) % W - a) b1;obtain ⟨X,Y⟩:=JO ((j:Int) % W - a) b1;obtain ⟨d1,d2⟩:=KJ (q:=((i:Int)/W - b) % H) T V;obtain ⟨d3,d4⟩:=KJ (q:=((j:Int)/W - b) % H) X Y;rw [N] at d1 d2;have G:((i:Int) % W - a) % W=((j:Int) % W - a) % W:=by rw [<-d2,d4]
 have I:((i:Int)/W - b) % H=((j:Int)/W - b) % H:=by rw [<-d1,d3]
 obtain ⟨x,y,x0,x1,y0,y1,ei,o,v⟩:=Qq (i:=(i:Int)) (W:=W) (H:=H) b1 om om;obtain ⟨L,M,B,C,E,F,ej,z,A⟩:=Qq (i:=(j:Int)) (W:=W) (H:=H) b1 om om;rw [o,z] at G;rw [v,A] at I
 have O:x=L:=by
  have h1:(x - a+a) % W=(L - a+a) % W:=by rw [Int.add_emod,G,<-Int.add_emod]
  rw [Int.sub_add_cancel,Int.sub_add_cancel,Int.emod_eq_of_lt x0 x1,Int.emod_eq_of_lt B C] at h1;exact h1
 have P:y=M:=by
  have h1:(y - b+b) % H=(M - b+b) % H:=by rw [Int.add_emod,I,<-Int.add_emod]
  rw [Int.sub_add_cancel,Int.sub_add_cancel,Int.emod_eq_of_lt y0 y1,Int.emod_eq_of_lt E F] at h1;exact h1
 subst O P;omega
end
section
open Go.RowKit Tq Go.Proofs.Tryz
variable {f : Nat → Int} {m : Int} {n : Nat}
structure OkD (d:Dat):Prop where
 p:zT d.1.W d.1.H d.1.ink 255=true
 m:yD d.2.1.W d.2.1.H d.2.1.ink=true
 n:d.2.2.length<=4
 s: ∀q,q ∈ d.2.2->zT q.W q.H q.ink 1=true/\q.W=d.1.W/\q.H=d.1.H
theorem iG {L:List Pic} (h:1<=L.length):L.getD 0 xF ∈ L:=by
 rw [Yh,Ya om];exact List.getElem_mem _
theorem Cy (d:Dat):xg d=true↔OkD d:=by
 unfold xg;simp only [Bool.and_eq_true,Bool.or_eq_true,decide_eq_true_eq];constructor;rintro ⟨⟨hp,hm⟩,c⟩;refine ⟨hp,hm,?_,?_⟩;rcases c with c | ⟨c,_⟩
 omega;exact (Vi c).2.1;intro q e;rcases c with c | ⟨c,h1,h2⟩
 have:=List.length_pos_of_mem e;omega;obtain ⟨_,_,h⟩:=Vi c;obtain ⟨k,hk,rfl⟩:=List.getElem_of_mem e;have:=h k hk;rw [show d.2.2.getD k xF=d.2.2[k] by rw [Yh,Ya hk];rfl] at this;exact ⟨this.1,this.2.1.trans h1,this.2.2.trans h2⟩;intro h;refine ⟨⟨h.p,h.m⟩,?_⟩;by_cases o:d.2.2.length=0
 exact .inl o;have hg:=h.s _ (iG (L:=d.2.2) om);refine .inr ⟨?_,hg.2.1,hg.2.2⟩;unfold xG;simp only [Bool.and_eq_true,decide_eq_true_eq,Yp];exact ⟨⟨om,h.n⟩,fun q e=>⟨(h.s q e).1,(h.s q e).2.1.trans hg.2.1.symm,(h.s q e).2.2.trans hg.2.2.symm⟩⟩
theorem Dz (h: ∀i,i<n->0<=f i/\f i<=m):xM (gen n f) m=true:=by
 unfold xM gen;rw [Yp];intro x c;simp only [List.mem_map,List.mem_range] at c;obtain ⟨i,hi,rfl⟩:=c;have:=h i hi;simp only [Bool.and_eq_true,decide_eq_true_eq];omega
end
section
variable {i j k : Nat}
section
variable {W H : Int} {xs : List Int} {n d : Nat}
open Tq Go.Proofs.Tryz
def fF (c r c' r':Int) (d k m:Nat):Prop:=
 (c=0->c'=0/\r'=r)/\(c=1->(c'=1/\r'=r)\/(c'=0/\(d:Int) - m<=r'/\r'<(d:Int) - k))
theorem MC (h:zx W H xs=true) (hd:zZ 1 xs=d) (rs:List Int) (hr:rs.length=xs.length) (hk:k<d):
 ∃a:Nat,qC W H (xA W H xs d rs k).1=a/\a<xs.length/\(xA W H xs d rs k).1.getD a 0=1/\(xA W H xs d rs (k+1)).1=(xA W H xs d rs k).1.set a 0/\(xA W H xs d rs (k+1)).2=(xA W H xs d rs k).2.set a ((d:Int) - 1 - k):=by
 subst hd;obtain ⟨h1,h2,h3,h4⟩:=ZL h rs k om;obtain ⟨a,a1,a2,a3⟩:=Jw (W:=W) (H:=H) (xs:=(xA W H xs (zZ 1 xs) rs k).1) om;refine ⟨a,a1,om,a3,?_,?_⟩;simp only [xA,jw,a1,Yu];simp only [xA,a1,Yu]
theorem zBt (h:zx W H xs=true) (hd:zZ 1 xs=d) (rs:List Int) (hr:rs.length=xs.length) (hi:i<xs.length) (j:Nat) (hm:k+j<=d):
 fF ((xA W H xs d rs k).1.getD i 0) ((xA W H xs d rs k).2.getD i 0) ((xA W H xs d rs (k+j)).1.getD i 0) ((xA W H xs d rs (k+j)).2.getD i 0) d k (k+j):=by
 induction j with
 | zero=>exact ⟨fun e=>⟨e,rfl⟩,fun e=>Or.inl ⟨e,rfl⟩⟩
 | succ j x=>
  obtain ⟨o,i2⟩:=x om;obtain ⟨a,a1,a2,a3,a4,a5⟩:=MC h hd rs hr (k:=k+j) om;have A:(xA W H xs d rs (k+j)).1.length=xs.length:=by subst hd;exact (ZL h rs (k+j) om).2.1
  have B:(xA W H xs d rs (k+j)).2.length=xs.length:=by subst hd;rw [(ZL h rs (k+j) om).2.2.2,hr]
  rw [show k+(j+1)=k+j+1 by omega,a4,a5];unfold fF;by_cases e:a=i
  subst e;rw [jo om,jo om];refine ⟨fun v=>?_,fun c=>Or.inr ⟨rfl,om,om⟩⟩;have:=(o v).1;omega;rw [jf e,jf e];refine ⟨o,fun c=>?_⟩;rcases i2 c with q | ⟨y,C,z⟩
  exact Or.inl q;exact Or.inr ⟨y,om,z⟩
def zCo (c r c' r':Int) (d k m:Nat):Prop:=
 (c=1->c'=1/\r'=r)/\(c=0->(c'=0/\r'=r)\/(c'=1/\(d:Int)+k<=r'/\r'<(d:Int)+m))
theorem aG (h:zx W H xs=true) (hd:zZ 1 xs=d) (rs:List Int) (hr:rs.length=xs.length) (hk:d+k<xs.length):
 ∃a:Nat,wH W H (upG W H xs d rs k).1=a/\a<xs.length/\(upG W H xs d rs k).1.getD a 0=0/\(upG W H xs d rs (k+1)).1=(upG W H xs d rs k).1.set a 1/\(upG W H xs d rs (k+1)).2=(upG W H xs d rs k).2.set a ((d:Int)+k):=by
 obtain ⟨h1,h2,h3,h4⟩:=Xw h d rs k om;obtain ⟨a,a1,a2,a3⟩:=UE (W:=W) (H:=H) (xs:=(upG W H xs d rs k).1) (wX (jR rfl h1).2.2.2.2.2.2.2.1) om;refine ⟨a,a1,om,a3,?_,?_⟩;simp only [upG,Zu,a1,Yu];simp only [upG,a1,Yu]
theorem zDz (h:zx W H xs=true) (hd:zZ 1 xs=d) (rs:List Int) (hr:rs.length=xs.length) (hi:i<xs.length) (j:Nat) (hm:d+(k+j)<=xs.length):
 zCo ((upG W H xs d rs k).1.getD i 0) ((upG W H xs d rs k).2.getD i 0) ((upG W H xs d rs (k+j)).1.getD i 0) ((upG W H xs d rs (k+j)).2.getD i 0) d k (k+j):=by
 induction j with
 | zero=>exact ⟨fun e=>⟨e,rfl⟩,fun e=>Or.inl ⟨e,rfl⟩⟩
 | succ j x=>
  obtain ⟨o,i2⟩:=x om;obtain ⟨a,a1,a2,a3,a4,a5⟩:=aG h hd rs hr (k:=k+j) om;have A:(upG W H xs d rs (k+j)).1.length=xs.length:=(Xw h d rs (k+j) om).2.1;have B:(upG W H xs d rs (k+j)).2.length=xs.length:=by rw [(Xw h d rs (k+j) om).2.2.2,hr]
  rw [show k+(j+1)=k+j+1 by omega,a4,a5];unfold zCo;by_cases e:a=i
  subst e;rw [jo om,jo om];refine ⟨fun v=>?_,fun c=>Or.inr ⟨rfl,om,om⟩⟩;have:=(o v).1;omega;rw [jf e,jf e];refine ⟨o,fun c=>?_⟩;rcases i2 c with q | ⟨y,z,C⟩
  exact Or.inl q;exact Or.inr ⟨y,z,om⟩
structure Ranked (W H:Int) (xs:List Int) (n d:Nat) (rs:List Int) (D U:Nat->List Int):Prop where
 len:rs.length=n
 dlen: ∀k,k<=d->(D k).length=n/\zx W H (D k)=true
 ulen: ∀k,d+k<=n->(U k).length=n/\zx W H (U k)=true
 one: ∀i,i<n->xs.getD i 0=1->0<=rs.getD i 0/\rs.getD i 0<d
 zero: ∀i,i<n->xs.getD i 0=0->(d:Int)<=rs.getD i 0/\rs.getD i 0<n
 down: ∀k i,k<=d->i<n->(D k).getD i 0=if rs.getD i 0<(d:Int) - k then 1 else 0
 up: ∀k i,d+k<=n->i<n->(U k).getD i 0=if rs.getD i 0<(d:Int)+k then 1 else 0
 tight: ∀k,k<d-> ∃a:Nat,qC W H (D k)=a/\a<n/\rs.getD a 0=(d:Int) - 1 - k/\D (k+1)=(D k).set a 0
 wide: ∀k,d+k<n-> ∃a:Nat,wH W H (U k)=a/\a<n/\rs.getD a 0=(d:Int)+k/\U (k+1)=(U k).set a 1
theorem mq (h:zx W H xs=true) (hn:xs.length=n) (hd:zZ 1 xs=d):
 ∃D U,Ranked W H xs n d (uO W H xs) D U:=by
 have dn:d<=n:=by rw [<-hd,<-hn];exact Vo _ _
 have x:=wX (jR rfl h).2.2.2.2.2.2.2.1;have O:(List.replicate n (0:Int)).length=xs.length:=by simp [hn]
 obtain ⟨v,N⟩: ∃v,List.replicate n (0:Int)=v:=⟨_,rfl⟩
 rw [N] at O;have A:=(ZL h v d om)
 rw [hd] at A;obtain ⟨rd,F⟩: ∃rd,(xA W H xs d v d).2=rd:=⟨_,rfl⟩
 rw [F] at A;have J:rd.length=xs.length:=by rw [A.2.2.2,O]
 have hg:uO W H xs=(upG W H xs d rd (n - d)).2:=by unfold uO;rw [hd,hn,N,F]
 have B:=Xw h d rd (n - d) om
 have y: ∀i,i<n->(xA W H xs d v d).1.getD i 0=0:=fun i hi=>by
  have P:=wX (jR rfl A.1).2.2.2.2.2.2.2.1 i (by rw [A.2.1,hn];exact hi);rcases P with e | e
  exact e;exfalso;have L:zZ 1 (xA W H xs d v d).1=0:=om;unfold zZ at L;rw [List.length_eq_zero_iff,List.filter_eq_nil_iff] at L;have E:i<(xA W H xs d v d).1.length:=by rw [A.2.1,hn];exact hi
  have:=L ((xA W H xs d v d).1[i]) (List.getElem_mem E);simp only [List.getD,Ya E,Yz] at e;simp [e] at this
 have o: ∀i,i<n->(upG W H xs d rd (n - d)).1.getD i 0=1:=fun i hi=>by
  have M:=wX (jR rfl B.1).2.2.2.2.2.2.2.1;rcases M i (by rw [B.2.1,hn];exact hi) with e | e
  exfalso;have hc:=GH M;have L:zZ 0 (upG W H xs d rd (n - d)).1=0:=by rw [B.2.1,B.2.2.1] at hc;omega
  unfold zZ at L;rw [List.length_eq_zero_iff,List.filter_eq_nil_iff] at L;have E:i<(upG W H xs d rd (n - d)).1.length:=by rw [B.2.1,hn];exact hi
  have:=L ((upG W H xs d rd (n - d)).1[i]) (List.getElem_mem E);simp only [List.getD,Ya E,Yz] at e;simp [e] at this;exact e
 have C:=fun (k j i:Nat) (hi:i<xs.length) (hm:k+j<=d)=>zBt h hd v O (k:=k) hi j hm;have G:=fun (k j i:Nat) (hi:i<xs.length) (hm:d+(k+j)<=xs.length)=>zDz h hd rd J (k:=k) hi j hm
 have first: ∀i,i<n->xs.getD i 0=1->(uO W H xs).getD i 0=rd.getD i 0:=fun i hi e=>by
  have:=G 0 (n - d) i om om;rw [Nat.zero_add,<-hg] at this;exact (this.1 e).2
 have one: ∀i,i<n->xs.getD i 0=1->0<=(uO W H xs).getD i 0/\(uO W H xs).getD i 0<d:=fun i hi e=>by
  have:=C 0 d i om om;rw [Nat.zero_add,F] at this;rw [first i hi e];rcases this.2 e with ⟨q,_⟩ | ⟨_,Q,R⟩
  have:=y i hi;omega;exact ⟨om,om⟩
 have zero: ∀i,i<n->xs.getD i 0=0->(d:Int)<=(uO W H xs).getD i 0/\(uO W H xs).getD i 0<n:=fun i hi e=>by
  have:=G 0 (n - d) i om om;rw [Nat.zero_add,<-hg] at this;rcases this.2 e with ⟨q,_⟩ | ⟨_,Q,R⟩
  have:=o i hi;omega;exact ⟨om,om⟩
 refine ⟨fun k=>(xA W H xs d v k).1,fun k=>(upG W H xs d rd k).1,?_,?_,?_,one,zero,?_,?_,?_,?_⟩;rw [hg,B.2.2.2,J,hn];intro k hk;have:=ZL h v k om;rw [hd] at this;exact ⟨by rw [this.2.1,hn],this.1⟩;intro k hk;have:=Xw h d rd k om;exact ⟨by rw [this.2.1,hn],this.1⟩;intro k i hk hi;have I:=C 0 k i om om;have t2:=C k (d - k) i om om;rw [Nat.zero_add] at I;rw [show k+(d - k)=d by omega,F] at t2;have hv:=y i hi;rcases x i om with e | e
 have c:=I.1 e;have z:=(zero i hi e).1;rw [if_neg om];exact c.1;have r1:=first i hi e;rcases I.2 e with ⟨c,_⟩ | ⟨c,Q,R⟩
 rcases t2.2 c with ⟨c2,_⟩ | ⟨_,Y,p2⟩
 omega;rw [if_pos om];exact c;have p:=t2.1 c;rw [if_neg om];exact c;intro k i hk hi;have I:=G 0 k i om om;have t2:=G k (n - d - k) i om om;rw [Nat.zero_add] at I;rw [show k+(n - d - k)=n - d by omega,<-hg] at t2;have hv:=o i hi;rcases x i om with e | e
 rcases I.2 e with ⟨c,_⟩ | ⟨c,Q,R⟩
 rcases t2.2 c with ⟨c2,_⟩ | ⟨_,Y,p2⟩
 omega;rw [if_neg om];exact c;have p:=t2.1 c;rw [if_pos om];exact c;have c:=I.1 e;have z:=(one i hi e).2;rw [if_pos om];exact c.1;intro k hk;obtain ⟨a,a1,a2,a3,a4,a5⟩:=MC h hd v O hk;refine ⟨a,a1,om,?_,a4⟩;have t2:=C (k+1) (d - (k+1)) a om om;rw [show k+1+(d - (k+1))=d by omega,F] at t2
 have T:xs.getD a 0=1:=by
  have I:=C 0 k a om om;rw [Nat.zero_add] at I;rcases x a om with e | e
  have:=(I.1 e).1;omega;exact e
 have V:(xA W H xs d v k).1.length=xs.length:=by subst hd;exact (ZL h v k om).2.1
 have X:(xA W H xs d v k).2.length=xs.length:=by subst hd;rw [(ZL h v k om).2.2.2,O]
 rw [a4,a5,jo om,jo om] at t2;rw [first a om T];exact (t2.1 rfl).2;intro k hk;obtain ⟨a,a1,a2,a3,a4,a5⟩:=aG h hd rd J (k:=k) om;refine ⟨a,a1,om,?_,a4⟩;have t2:=G (k+1) (n - d - (k+1)) a om om;rw [show k+1+(n - d - (k+1))=n - d by omega,<-hg] at t2;have V:(upG W H xs d rd k).1.length=xs.length:=(Xw h d rd k om).2.1;have X:(upG W H xs d rd k).2.length=xs.length:=by rw [(Xw h d rd k om).2.2.2,J]
 rw [a4,a5,jo om,jo om] at t2;exact (t2.1 rfl).2
end
theorem Em (xs:List Int) (f:Int->Int) (n:Nat) (h:xs.length=n):xs.map f=gen n (fun i=>f (xs.getD i 0)):=by
 refine jP n _ _ (by simp [h]) (fun k hk=>?_);simp [List.getD,List.getElem?_map,Ya (show k<xs.length by omega)]
namespace Ranked
variable {W H : Int} {xs rs : List Int} {n d : Nat} {D U : Nat → List Int}
theorem range (R:Ranked W H xs n d rs D U) (c:Xg xs) (hn:xs.length=n) (o:d<=n) (i:Nat) (hi:i<n):0<=rs.getD i 0/\rs.getD i 0<n:=by
 rcases c i om with e | e
 have:=R.zero i hi e;omega;have:=R.one i hi e;omega
theorem lo (R:Ranked W H xs n d rs D U) (hi:i<n) (q:0<=rs.getD i 0) (h:rs.getD i 0<d):qC W H (rs.map (YW (rs.getD i 0+1)))=i/\zx W H (rs.map (YW (rs.getD i 0+1)))=true:=by
 obtain ⟨k,hk⟩: ∃k:Nat,(k:Int)=(d:Int) - 1 - rs.getD i 0:=⟨((d:Int) - 1 - rs.getD i 0).toNat,om⟩
 obtain ⟨a,a1,a2,a3,a4⟩:=R.tight k om;have l:=R.dlen k om
 have e:rs.map (YW (rs.getD i 0+1))=D k:=by
  rw [Em rs _ n R.len];symm;refine jP n _ _ l.1 (fun j o=>?_);rw [R.down k j om o];unfold YW;by_cases c:rs.getD j 0<(d:Int) - k
  rw [if_pos c,if_pos om];rw [if_neg c,if_neg om]
 rw [e];refine ⟨?_,l.2⟩
 have:a=i:=by
  by_cases c:a=i
  exact c;exfalso;have h1:=R.down (k+1) i om hi;rw [a4,jf c,R.down k i om hi,if_pos om,if_neg om] at h1;omega
 rw [a1,this]
theorem hi (R:Ranked W H xs n d rs D U) {i:Nat} (hi:i<n) (q:(d:Int)<=rs.getD i 0) (h:rs.getD i 0<n):wH W H (rs.map (YW (rs.getD i 0)))=i/\zx W H (rs.map (YW (rs.getD i 0)))=true:=by
 obtain ⟨k,hk⟩: ∃k:Nat,(k:Int)=rs.getD i 0 - d:=⟨(rs.getD i 0 - d).toNat,om⟩
 obtain ⟨a,a1,a2,a3,a4⟩:=R.wide k om;have l:=R.ulen k om
 have e:rs.map (YW (rs.getD i 0))=U k:=by
  rw [Em rs _ n R.len];symm;refine jP n _ _ l.1 (fun j o=>?_);rw [R.up k j om o];unfold YW;by_cases c:rs.getD j 0<(d:Int)+k
  rw [if_pos c,if_pos om];rw [if_neg c,if_neg om]
 rw [e];refine ⟨?_,l.2⟩
 have:a=i:=by
  by_cases c:a=i
  exact c;exfalso;have h1:=R.up (k+1) i om hi;rw [a4,jf c,R.up k i om hi,if_neg om,if_pos om] at h1;omega
 rw [a1,this]
theorem inj (R:Ranked W H xs n d rs D U) (v:Xg xs) (hn:xs.length=n) (q:d<=n) (hi:i<n) (o:j<n) (e:rs.getD i 0=rs.getD j 0):i=j:=by
 have b:=R.range v hn q i hi;by_cases c:rs.getD i 0<d
 have h1:=(R.lo hi b.1 c).1;have h2:=(R.lo o om om).1;rw [<-e,h1] at h2;omega;have h1:=(R.hi hi om b.2).1;have h2:=(R.hi o om om).1;rw [<-e,h1] at h2;omega
theorem mat (R:Ranked W H xs n d rs D U) (h:zx W H xs=true) (hn:xs.length=n) (o:d<=n):yD W H rs=true:=by
 obtain ⟨b1,b2,b3,z,v,A,B,x,_⟩:=jR hn h;have q:=wX x;refine Er R.len (QZ b1 b3 om) v ?_ ?_;refine iT (fun k hk=>?_);exact R.range q hn o k (by rw [R.len] at hk;exact hk);rw [List.nodup_iff_pairwise_ne,List.pairwise_iff_getElem];intro i j hi c y e;have:=R.inj q hn o (i:=i) (j:=j) (by rw [R.len] at hi;exact hi) (by rw [R.len] at c;exact c) (by simp [List.getD,Ya hi,Ya c,e]);omega
theorem cells (R:Ranked W H xs n d rs D U) (o:Xg xs) (hn:xs.length=n):rs.map (YW d)=xs:=by
 rw [Em rs _ n R.len];symm;refine jP n _ _ hn (fun j c=>?_);unfold YW;rcases o j om with e | e
 rw [if_neg (og (R.zero j c e))];exact e;rw [if_pos (R.one j c e).2];exact e
end Ranked
end
section
open Go.RowKit Tq Go.Proofs.Tryz
variable {H W : Int} {a g u : Nat} {b l t w : List UInt8} {s : ByteArray} {xs : List Int}
theorem Bp (s:ByteArray):s.size=s.data.toList.length:=sI
def Us:List (List UInt8):=[[101,114,114,111,114],[99,111,117,110,116,115],[109,101,97,110],[114,117,110,115],[115,104,111,119],[100,114,111,112],[109,105,114,114,111,114],[115,104,114,105,110,107],[103,114,111,119],[100,105,102,102,117,115,101,32,112,108,97,105,110,32,98,111,116,104],[100,105,102,102,117,115,101,32,112,108,97,105,110,32,108,101,102,116],[100,105,102,102,117,115,101,32,115,116,101,105,110,32,98,111,116,104],[100,105,102,102,117,115,101,32,115,116,101,105,110,32,108,101,102,116],[115,99,114,101,101,110],[114,101,118,101,114,115,101]]
theorem Qg (h:l ∉ Us):wh l=none:=by
 unfold Us at h;simp only [List.mem_cons,List.not_mem_nil,or_false,not_or] at h;obtain ⟨h1,h2,h3,h4,y,z,A,B,C,c,e,o,q,v,x⟩:=h;unfold wh;rw [if_neg h1,if_neg h2,if_neg h3,if_neg h4,if_neg y,if_neg z,if_neg A,if_neg B,if_neg C,if_neg c,if_neg e,if_neg o,if_neg q,if_neg v,if_neg x]
def uQ:List UInt8:=[100,105,102,102,117,115,101]
theorem TF: ∀l,l ∈ Us->(jN l).length=1\/(jN l).length=3/\(jN l).getD 0 []=uQ:=dC
theorem bK (h: ∃c,c ∈ l/\c.toNat=32):jT l=none:=by
 cases hn:jT l with
 | none=>rfl
 | some v=>
  exfalso;obtain ⟨c,hc,e⟩:=h;obtain ⟨i,hi,rfl⟩:=List.getElem_of_mem hc;by_cases hf:vF l<=i
  have:=(Qb hn).2 i hi hf;omega;have q:vF l<=1:=by unfold vF;split <;>omega
  have o:i=0:=om;subst o;unfold vF at hf;split at hf;rename_i x;cases l with
  | nil=>simp at hi
  | cons a b=>
   simp at x e;omega
  omega
theorem mJ {c:List (List UInt8)} (hw:w ∈ c) (hn:jT w=none):uS c=none:=by
 obtain ⟨k,hk,rfl⟩:=List.getElem_of_mem hw;exact VZ c k hk (by rw [Yh,Ya hk];exact hn)
theorem Mg: ∀ {c:List (List UInt8)} {xs:List Int},uS c=some xs->xs.length=c.length
 | [],xs,h=>by cases h;rfl
 | w::r,xs,h=>by
  unfold uS at h;split at h;cases h;split at h;cases h;rename_i l hl;cases h;simp [Mg hl]
theorem Pf (h:xs.length=0\/4<=xs.length):uP l xs=none:=by
 unfold uP;rw [if_neg om,if_neg om,if_neg om,if_neg om,if_neg om,if_neg om,if_neg om,if_neg om]
theorem Pe (xs:List Int):uP uQ xs=none:=by
 unfold uP uQ;rw [if_neg (fun h=>absurd h.1 dC),if_neg (fun h=>absurd h.1 dC),if_neg (fun h=>absurd h.1 dC),if_neg (fun h=>absurd h.1 dC),if_neg (fun h=>absurd h.1 dC),if_neg (fun h=>absurd h.1 dC),if_neg (fun h=>absurd h.1 dC),if_neg (fun h=>absurd h.1 dC)]
theorem Qy (h:(yS s).length<=4):yC (uU s)=yC (yS s):=by
 have hw:=Xx s;have hl:=Xy s;have e:(yC (yS s)).length=(yS s).length:=by simp [yC]
 rcases Qp (min 4 (s.size+1) - 1) s with ⟨h1,_⟩ | ⟨h1,_⟩
 rw [hw];exact h1;rw [<-hw,e] at h1;omega
theorem WB (h:5<=(yS s).length):uS (yC (uU s).tail)=none:=by
 have hw:=Xx s;have hl:=Xy s;have e:(yC (yS s)).length=(yS s).length:=by simp [yC]
 have hk:min 4 (s.size+1) - 1=3:=om;rcases Qp 3 s with ⟨_,h1⟩ | ⟨_,x,h2,c,hc,o⟩
 rw [<-hw,e] at h1;omega;unfold uU;rw [hk];refine mJ (w:=x) ?_ (bK ⟨c,hc,o⟩);have q:yC (Lib.splitB ⟨#[32]⟩ 0 3 s).tail=(yC (Lib.splitB ⟨#[32]⟩ 0 3 s)).tail:=by unfold yC;rw [List.map_tail]
 rw [q,h2];cases hc2:(jN s.data.toList).take 3 with
 | nil=>have:=congrArg List.length hc2;rw [Yj,<-hw,e,List.length_nil] at this;omega
 | cons a b=>simp
theorem Ky (L:List ByteArray):yC L.tail=(yC L).tail:=by unfold yC;rw [List.map_tail]
theorem XG (L:List ByteArray) (k:Nat):(L.getD k ByteArray.empty).data.toList=(yC L).getD k []:=by
 unfold yC;simp only [Yh,List.getElem?_map];cases L[k]? with
 | none=>rfl
 | some x=>rfl
theorem zAf {d:Dat} (hk:xg d=true) (h:(yS s).length=1):uj d s=if s.size=0 then (d,[]) else match wh s.data.toList with | some F=>F d | none=>(d,qR):=by
 unfold uj Km;rw [if_pos hk];by_cases c:s.size=0
 rw [if_pos c,if_pos c];rw [if_neg c,if_neg c];cases wh s.data.toList with
 | some F=>rfl
 | none=>
  have hw:=Qy (s:=s) om
  have e:uS (yC (uU s).tail)=some []:=by
   rw [Ky,hw];have:(yC (yS s)).length=1:=by simp [yC,h]
   match hh:yC (yS s),this with
   | [a],_=>rfl
  dsimp only;rw [e];dsimp only;rw [Pf (.inl rfl)]
theorem nN {d:Dat} (hk:xg d=true) (h:2<=(yS s).length) (hd: ¬((yS s).length=3/\((yS s).getD 0 ByteArray.empty).data.toList=uQ)):
 uj d s=match uS (yC (yS s).tail) with | none=>(d,qR) | some xs=>match uP ((yS s).getD 0 ByteArray.empty).data.toList xs with | some F=>F d | none=>(d,qR):=by
 have hc:=Xx s;have e:(yC (yS s)).length=(yS s).length:=by simp [yC]
 have hl:=Xy s;unfold uj Km
 rw [if_pos hk,if_neg om,Qg (fun hm=>by
  rcases TF _ hm with h1 | ⟨h1,h2⟩
  rw [<-hc,e] at h1;omega
  rw [<-hc] at h1 h2;rw [e] at h1;exact hd ⟨h1,by rw [XG];exact h2⟩)]
 dsimp only;by_cases h4:(yS s).length<=4
 have hw:=Qy h4;have c:yC (uU s).tail=yC (yS s).tail:=by rw [Ky,hw,Ky]
 have o:((uU s).getD 0 ByteArray.empty).toList=((yS s).getD 0 ByteArray.empty).data.toList:=by rw [Yf,XG,hw,XG]
 rw [c,o];cases uS (yC (yS s).tail) with
 | none=>rfl
 | some xs=>rfl
 rw [WB om];dsimp only;cases hn:uS (yC (yS s).tail) with
 | none=>rfl
 | some xs=>
  have:=Mg hn;dsimp only;rw [Pf (.inr (by rw [this];simp [yC];omega))]
def YG:List UInt8:=[115,116,101,105,110]
def XF:List UInt8:=[112,108,97,105,110]
def Jy:List UInt8:=[108,101,102,116]
def Kv:List UInt8:=[98,111,116,104]
theorem OO: ∀l:List UInt8,Lib.join (jN l) [32]=l
 | []=>rfl
 | c::r=>by
  have e:=OO r;unfold jN;split;rename_i h;have hc:c=32:=UInt8.toNat_inj.1 h;rw [hc];cases hr:jN r with
  | nil=>exact absurd hr (Cr r)
  | cons a b=>
   rw [Lib.join_cons];unfold Lib.joinTail;rw [hr,Lib.join_cons] at e;simp only [List.map_cons,List.flatten_cons,List.nil_append];unfold Lib.joinTail at e;rw [<-e];simp
  cases hr:jN r with
  | nil=>exact absurd hr (Cr r)
  | cons a b=>
   rw [hr,Lib.join_cons] at e;dsimp only;rw [Lib.join_cons,List.cons_append,e]
noncomputable def Aj (a b:List UInt8) (d:Dat):Dat × List UInt8:=
 if (a=YG\/a=XF)/\(b=Jy\/b=Kv) then xu (xI (if a=YG then xQ else xP) (decide (b=Kv))) d else (d,qR)
theorem Px {d:Dat} {a:List UInt8} (hk:xg d=true) (h:yC (yS s)=[uQ,a,b]):uj d s=Aj a b d:=by
 have hc:=Xx s;have q:=OO s.data.toList;rw [<-hc,h] at q;have hn:(yS s).length=3:=by have:=congrArg List.length h;simpa [yC] using this
 have hl:=Xy s;have hw:=Qy (s:=s) om;unfold uj Km
 rw [if_pos hk,if_neg (by
  intro z;have h1:s.data.toList.length=0:=by rw [<-Bp];exact z
  rw [<-q] at h1;rw [Lib.join_cons,Yn] at h1;have:uQ.length=7:=rfl
  omega)]
 by_cases o:(a=YG\/a=XF)/\(b=Jy\/b=Kv)
 unfold Aj;rw [if_pos o,<-q];rcases o with ⟨rfl | rfl,rfl | rfl⟩
 rfl;rfl;rfl;rfl;unfold Aj;rw [if_neg o]
 have hp:wh s.data.toList=none:=Qg (fun hm=>by
  have c: ∀l,l ∈ Us->jN l=[uQ,a,b]->(a=YG\/a=XF)/\(b=Jy\/b=Kv):=by
   intro l hl;have h1: ∀l,l ∈ Us->(jN l).length=3->jN l=[uQ,YG,Jy]\/jN l=[uQ,YG,Kv]\/jN l=[uQ,XF,Jy]\/jN l=[uQ,XF,Kv]:=dC;intro e;have h2:=h1 l hl (by rw [e];rfl);rw [e] at h2;simp only [List.cons.injEq,true_and,and_true] at h2;rcases h2 with ⟨x,y⟩ | ⟨x,y⟩ | ⟨x,y⟩ | ⟨x,y⟩
   exact ⟨.inl x, .inl y⟩;exact ⟨.inl x, .inr y⟩;exact ⟨.inr x, .inl y⟩;exact ⟨.inr x, .inr y⟩
  exact o (c _ hm (by rw [<-hc,h])))
 rw [hp];dsimp only;have v:((uU s).getD 0 ByteArray.empty).toList=uQ:=by rw [Yf,XG,hw,h];rfl
 rw [v];cases uS (yC (uU s).tail) with
 | none=>rfl
 | some xs=>dsimp only;rw [Pe]
theorem sH (W H v:Int):zT (kS W H v).1.W (kS W H v).1.H (kS W H v).1.ink 255=(kS W H v).2:=by
 unfold kS;split;rename_i h;obtain ⟨h1,h2⟩:=ZF h.1
 exact FD h.1 rfl (by rw [List.length_replicate];omega) (by
  unfold xM;rw [Yp];intro x c;rw [List.eq_of_mem_replicate c];simp only [Bool.and_eq_true,decide_eq_true_eq]
  omega)
 decide
theorem fQ (k:Int):yD (kK k).1.W (kK k).1.H (kK k).1.ranks=(kK k).2:=by
 unfold kK;split;exact (KH _ om).1;decide
theorem dO (k:Int):yD (kC k).1.W (kC k).1.H (kC k).1.ranks=(kC k).2:=by
 by_cases h:1<=k/\k<=16
 obtain ⟨n,rfl⟩: ∃n:Nat,k=n:=⟨k.toNat,om⟩
 rw [UY om om];exact (FT n om om).2;rw [Qo h];decide
theorem zAT (h:zx W H xs=true):yD (uM W H xs).1.W (uM W H xs).1.H (uM W H xs).1.ranks=true:=by
 unfold uM;rw [if_pos h];obtain ⟨D,U,R⟩:=mq h rfl rfl;exact R.mat h rfl (Vo _ _)
theorem zCR (h:yD W H xs=true):yD (Za W H xs).W (Za W H xs).H (Za W H xs).ranks=true:=by
 rw [(nG rfl h).1];exact (nG rfl h).2.1
def ZA (b:UInt8):UInt8:=if b.toNat=10 then 47 else b
theorem Vj: ∀ {l:List UInt8},(∀k:Nat,l[k]?≠some 10)->l.map ZA=l
 | [],_=>rfl
 | c::r,h=>by
  have o:c≠10:=fun e=>h 0 (by rw [e];rfl);have h1:c.toNat≠10:=fun e=>o (UInt8.toNat_inj.1 e);rw [List.map_cons,Vj (fun k=>by have:=h (k+1);simpa using this)];unfold ZA;rw [if_neg h1]
theorem Ho: ∀(n:Nat) (l:List UInt8),l.length<=n->Lib.replaceK [10] [47] (Lib.count l [10]) l=l.map ZA:=by
 intro n
 induction n with
 | zero=>
  intro l hl;have:l=[]:=List.eq_nil_of_length_eq_zero om;subst this;rfl
 | succ n x=>
  intro l hl;by_cases hm:Lib.index l [10]=-1
  rw [Lib.count_miss hm];have h2:Lib.indexByte l 10=-1:=by rw [<-Lib.index_one];exact hm
  rw [Vj (Lib.indexByte_none h2)];rfl;have v:=Lib.index_ge l [10];obtain ⟨i,hi⟩: ∃i:Nat,Lib.index l [10]=i:=⟨(Lib.index l [10]).toNat,om⟩
  have h2:Lib.indexByte l 10=i:=by rw [<-Lib.index_one];exact hi
  obtain ⟨c,no⟩:=Lib.indexByte_some h2;have q:i<l.length:=(List.getElem?_eq_some_iff.1 c).1;rw [Lib.count_hit sI hi,Nat.add_comm,Lib.replaceK_hit _ _ _ _ _ hi,List.length_singleton,x _ (by rw [List.length_drop];omega)]
  have e:l=l.take i++(10:UInt8)::l.drop (i+1):=by
   have hg:=c;rw [Ya q] at hg;rw [<-Yd hg,List.getElem_cons_drop,List.take_append_drop]
  conv=>rhs;rw [e]
  rw [List.map_append,List.map_cons,Vj (l:=l.take i) (fun k=>by
   intro hk;by_cases o:k<i
   rw [List.getElem?_take_of_lt o] at hk;exact no k o hk
   rw [Yv (by rw [Yj];omega)] at hk;cases hk),List.append_assoc]
  rfl
theorem Bj (l:List UInt8):Lib.replaceAll l [10] [47]=l.map ZA:=by
 unfold Lib.replaceAll Lib.replace;rw [if_neg dC];have e:Lib.replaceNum l [10] (-1)=Lib.count l [10]:=by unfold Lib.replaceNum;rw [if_pos (.inl dC)]
 rw [e];exact Ho l.length l nI
theorem oV (W H:Int) (xs:List Int):uN W H xs=[]\/ ∃l,uN W H xs=l++ [10]:=by
 unfold uN;split;rename_i h;obtain ⟨c,_,_⟩:=yu rfl h;unfold yV at c;simp only [Bool.and_eq_true,decide_eq_true_eq] at c;obtain ⟨w,rfl⟩: ∃w:Nat,W=w:=⟨W.toNat,om⟩
 obtain ⟨k,rfl⟩: ∃k:Nat,H=((k+1:Nat):Int):=⟨H.toNat - 1,om⟩
 refine .inr ⟨(List.range ((w+1)*(k+1) - 1)).map (XC w xs),?_⟩;show vI w (k+1) xs=_
 have e:(w+1)*(k+1)=((w+1)*(k+1) - 1)+1:=by
  have:(w+1)*(k+1)=(w+1)*k+(w+1):=Nat.mul_succ _ _;omega
 unfold vI
 conv=>lhs;rw [e,List.range_succ,List.map_append]
 congr 1;simp only [List.map_cons,List.map_nil];congr 1;unfold XC;rw [if_pos]
 have o:(w+1)*(k+1) - 1=w+(w+1)*k:=by
  have:(w+1)*(k+1)=(w+1)*k+(w+1):=Nat.mul_succ _ _;omega
 rw [o,Nat.add_mul_mod_self_left,Nat.mod_eq_of_lt om];exact .inl rfl
def Ut (l:List UInt8):List UInt8:=(l.take (l.length - 1)).map ZA
theorem zAl (d:Dat) (q:Pic):XI d q=(d,Ut (uN q.W q.H q.ink)):=by
 unfold XI Ut;rw [Bj];rcases oV q.W q.H q.ink with e | ⟨l,e⟩
 rw [e];rfl;rw [e];unfold Lib.trimSuffix Lib.hasSuffix;rw [if_pos (by rw [List.isSuffixOf_iff_suffix];exact List.suffix_append _ _)];simp
theorem Et (w:World) (d:Nat) (hd:d<256):Sem.run prog (convert 72 9 (.slice ↑w 1 1)) (w.alloc (.cells #[.int .u8 (d:Int)] 5))= .ok (.string ⟨#[UInt8.ofNat d]⟩) (w.alloc (.cells #[.int .u8 (d:Int)] 5)):=by
 have h:=run_convert_bytes_back (P:=prog) (w.alloc (.cells #[.int .u8 (d:Int)] 5)) 72 9 5 ↑w 1 [UInt8.ofNat d] underlying72 underlying5 underlying9 (fun j c=>by
  obtain rfl:j=0:=by simpa using c
  have h:=(Blk.new w 5 #[.int .u8 (d:Int)]).cell 0;rw [show (Addr.mk w 0 none).add 0=↑w by simp [Addr.add],h];have e:(UInt8.ofNat d).toNat=d:=by rw [UInt8.toNat_ofNat'];omega
  simp [e])
 exact h
theorem mK {w:World} {d:Nat} (h:Blk w g 5 #[.int .u8 (d:Int)]) (hd:d<256):Sem.run prog (convert 72 9 (.slice ↑g 1 1)) w= .ok (.string ⟨#[UInt8.ofNat d]⟩) w:=by
 have h:=run_convert_bytes_back (P:=prog) w 72 9 5 ↑g 1 [UInt8.ofNat d] underlying72 underlying5 underlying9 (fun j c=>by
  obtain rfl:j=0:=by simpa using c
  have h:=h.cell 0;rw [show (Addr.mk g 0 none).add 0=↑g by simp [Addr.add],h];have e:(UInt8.ofNat d).toNat=d:=by rw [UInt8.toNat_ofNat'];omega
  simp [e])
 exact h
theorem UJ (a b:List UInt8):(⟨a.toArray⟩:ByteArray)++(⟨b.toArray⟩:ByteArray)=⟨(a++b).toArray⟩:=by
 apply ByteArray.ext;simp
theorem WR (h: ¬a<10):Lib.decDigits a=Lib.decDigits (a/10)++ [UInt8.ofNat (48+a % 10)]:=by rw [Lib.decDigits,dif_neg h]
theorem Lv (h:a<10):Lib.decDigits a=[UInt8.ofNat (48+a)]:=by rw [Lib.decDigits,dif_pos h]
theorem sj (u:Nat):Lib.itoa (u:Int)=Lib.decDigits u:=by unfold Lib.itoa;rw [if_neg om];rfl
theorem rR (h:Lib.decDigits u=Lib.decDigits a++t) (c:u<18446744073709551616):t.length<=20:=by
 have h1:=congrArg List.length h;rw [Lib.decDigits_length,Yn] at h1;have:=Lib.nDigits_le20 u c;omega
set_option maxRecDepth 100000 in
theorem Tf (u:Nat) (w:World) (G:u<=9223372036854775807):
 Calls prog 56 #[(u:Int)] w (zR (.string ⟨(Lib.itoa u).toArray⟩) w):=by
 go_in
 go_wp2
 go_loopw [0,3] (fun v s wr=> ∃(a:Nat) (t:List UInt8),v=↑(a:Int)/\s= .string ⟨t.toArray⟩/\a<=u/\Lib.decDigits u=Lib.decDigits a++t/\Below w w wr) (fun v _ _=>(intOf v).toNat)
 exact ⟨u,[],rfl,rfl,nI,sI,bR⟩;obtain ⟨a,t,rfl,rfl,ha,z,hb⟩:=hrel;have B:=Jh hb;have C:=Jh z;have hl:t.length<=20:=rR z om;clear hb z;by_cases F:9<a
 . have y:(9:Int)<(a:Int):=om
   obtain ⟨m,hm,E,o⟩: ∃m:Nat,(a:Int) % 10=(m:Int)/\m<10/\Hd (m=a % 10):=⟨a % 10,om,om,Jh rfl⟩
   have hc:=Et wr (48+m) om;obtain ⟨e,c⟩: ∃e,UInt8.ofNat (48+m)=e:=⟨_,rfl⟩
   rw [show ((48+m:Nat):Int)=48+(m:Int) by omega,c] at hc;have q:Hd (Lib.decDigits a=Lib.decDigits (a/10)++ [e]):=Jh (by rw [WR om,<-c,o.Z]);clear c o;have A:IntKind.u8.wrap (48+(m:Int))=48+(m:Int):=by rw [IntKind.wrap_u8];omega
   go_wp2
   exact ⟨⟨a/10,e::t,by go_num,congrArg Value.string (UJ [e] t),om,by rw [C.Z,q.Z];simp,zM B.Z _⟩,by simp [intOf];omega⟩
 have y: ¬(9:Int)<(a:Int):=om;have hc:=Et wr (48+a) om;obtain ⟨e,c⟩: ∃e,UInt8.ofNat (48+a)=e:=⟨_,rfl⟩
 rw [show ((48+a:Nat):Int)=48+(a:Int) by omega,c] at hc;have q:Hd (Lib.decDigits a=[e]):=Jh (by rw [Lv om,<-c]);clear c;have A:IntKind.u8.wrap (48+(a:Int))=48+(a:Int):=by rw [IntKind.wrap_u8];omega
 go_wp2
 go_ret;exact ⟨by rw [sj,C.Z,q.Z];exact congrArg (fun x=>Ending.returned (Value.string x)) (UJ [e] t),zM B.Z _⟩
theorem BM (h:0<u):Lib.itoa (-(u:Int))=45::Lib.decDigits u:=by
 unfold Lib.itoa;rw [if_pos om];congr 1;congr 1;omega
set_option maxRecDepth 100000 in
theorem Te (u:Nat): ∀(w:World),0<u->u<=9223372036854775808->
 Calls prog 56 #[.int .i64 (-(u:Int))] w (zR (.string ⟨(Lib.itoa (-(u:Int))).toArray⟩) w):=by
 induction u using Nat.strongRecOn with
 | _ u ih=>
  intro w h0 h1;have IH:=Jh ih;clear ih;obtain ⟨n,hn⟩:=zN (-(u:Int):Int);rw [<-hn];have b5:n<0:=om;have b7:-9223372036854775808<=n:=om;by_cases h9:u<10
  . have X:n.tdiv 10=0:=by rw [hn,Int.neg_tdiv,Yt om];omega
    have Y:(n.tdiv 10==0)=true:=by rw [X];rfl
    have hc:=Et w (48+u) om;obtain ⟨C,B⟩: ∃C,UInt8.ofNat (48+u)=C:=⟨_,rfl⟩
    rw [show ((48+u:Nat):Int)=48 - n by omega,B] at hc;have I:Hd (Lib.itoa n=[45,C]):=Jh (by rw [hn,BM h0,Lv h9,<-B]);have b0:IntKind.u8.wrap (48 - n)=48 - n:=by rw [IntKind.wrap_u8];omega
    have b6:-10<n:=om;clear hn B;go_in
    go_wp2
    go_ret;exact ⟨by rw [I.Z];exact congrArg (fun x=>Ending.returned (Value.string x)) (UJ [45] [C]),zM bR _⟩
  obtain ⟨m,hm⟩: ∃m:Int,n.tmod 10=-m/\0<=m/\m<10/\Hd (m=((u % 10:Nat):Int)):=⟨((u % 10:Nat):Int),by rw [hn,Int.neg_tmod,Yl om];omega,om,om,Jh rfl⟩
  obtain ⟨hm,b3,b4,HM⟩:=hm;have X:n.tdiv 10=-((u/10:Nat):Int):=by rw [hn,Int.neg_tdiv,Yt om];omega
  obtain ⟨q,F⟩: ∃q:Nat,u/10=q:=⟨_,rfl⟩
  rw [F] at X;have M:0<q:=om;have y:q<=9223372036854775808:=om;have Y:(-(q:Int)==0)=false:=sO;have O:=Jh (fun v=>IH.Z q om v M y);have V:(Lib.itoa (-(q:Int))).length<=21:=Lib.itoa_length_le _ om om;obtain ⟨C,B⟩: ∃C,UInt8.ofNat (48+u % 10)=C:=⟨_,rfl⟩
  have I:Hd (Lib.itoa n=Lib.itoa (-(q:Int))++ [C]):=Jh (by rw [hn,BM h0,BM M,WR h9,<-B,F];rfl)
  have P:Hd (∀(v:World) (g:Nat),Blk v g 5 #[.int .u8 (48+m)]->Sem.run prog (convert 72 9 (.slice ↑g 1 1)) v= .ok (.string ⟨#[C]⟩) v):=Jh (fun v g hk=>by
   rw [show 48+m=((48+u % 10:Nat):Int) by rw [HM.Z];omega] at hk;have h:=mK hk om;rw [B] at h
   exact h)
  have b0:IntKind.u8.wrap (48+m)=48+m:=by rw [IntKind.wrap_u8];omega
  have b2:IntKind.i64.wrap (48+m)=48+m:=by rw [IntKind.wrap_i64];omega
  have b8:IntKind.i64.wrap (-(q:Int))=-(q:Int):=by rw [IntKind.wrap_i64];omega
  obtain ⟨xq,N⟩: ∃x,Lib.itoa (-(q:Int))=x:=⟨_,rfl⟩
  rw [N] at O V I;have b1: ¬9223372036854775807<xq.length+1:=om;clear N;clear hn B F HM;go_in;go_upto_region 4 with fail;refine yA 10 (fun v=>BelowL w v) zK lS ?_;intro z;have Q:=z;refine zP 0 ?_;refine zP 1 ?_;refine zP 3 ?_;refine zP 4 ?_;refine zP 5 ?_;refine zP 6 ?_;refine wJ (i:=2) (j:=7) zK rfl rfl (fun K hK=>?_) (fun K hK=>?_)
  . go_simp
    refine (O.Z _).mono ?_;rintro e v1 ⟨rfl,y⟩;have A:=BelowL.call Q y;go_wp2_with fail;refine hK.out _ _ (fun _=>A) (fun hH2=>?_);clear hK K z hH2;refine zf 7 (fun K hK=>?_);go_simp;have c:=BelowL.alloc A (.cells #[.int .u8 (48+m)] 5);refine hK.out _ _ (fun _=>Jd (c)) (fun hH2=>?_);clear hK K hH2;have E:=P.Z _ _ (Blk.new v1 5 #[.int .u8 (48+m)]);refine zf 8 (fun K hK=>?_);go_simp;refine hK.out _ _ (fun _=>Jd (c)) (fun hH2=>?_);clear hK K hH2 E;refine zf 9 (fun K hK=>?_);go_simp;refine hK.out _ _ (fun _=>Jd (c)) (fun hH2=>?_);clear hK K hH2;refine zf 10 (fun K hK=>?_);go_simp;refine hK.out _ _ (fun h=>absurd h dC) (fun hH2=>?_);clear hK K hH2;refine yG zK ?_ _;(try go_simp)
    go_wp2
    go_ret;exact ⟨by rw [I.Z];exact congrArg (fun x=>Ending.returned (Value.string x)) (UJ _ [C]),c.Z⟩
  go_simp;have A:BelowL w (w.alloc (.cells #[.int .u8 (48+m)] 5)).drew:=BelowL.mk (zM bR _).drew;have L:Blk (w.alloc (.cells #[.int .u8 (48+m)] 5)).drew w.heap.size 5 #[.int .u8 (48+m)]:=(Blk.new w 5 #[.int .u8 (48+m)]).drew;have J:=Jh L;refine hK.out _ _ (fun _=>Jd (A)) (fun hH2=>?_);clear hK K z hH2 L;refine wJ (i:=2) (j:=8) zK rfl rfl (fun K hK=>?_) (fun K hK=>?_)
  . go_simp
    refine (O.Z _).mono ?_;rintro e v1 ⟨rfl,y⟩;have c:=BelowL.call A y;have T:=J.Z.zA y;have E:=P.Z _ _ T;go_wp2_with fail;refine hK.out _ _ (fun _=>c) (fun hH2=>?_);clear hK K hH2;refine zf 8 (fun K hK=>?_);go_simp;refine hK.out _ _ (fun _=>Jd (c)) (fun hH2=>?_);clear hK K hH2 E;refine zf 9 (fun K hK=>?_);go_simp;refine hK.out _ _ (fun _=>Jd (c)) (fun hH2=>?_);clear hK K hH2;refine zf 10 (fun K hK=>?_);go_simp;refine hK.out _ _ (fun h=>absurd h dC) (fun hH2=>?_);clear hK K hH2;refine yG zK ?_ _;(try go_simp)
    go_wp2
    go_ret;exact ⟨by rw [I.Z];exact congrArg (fun x=>Ending.returned (Value.string x)) (UJ _ [C]),c.Z⟩
  have E:=P.Z _ _ J.Z;go_simp;refine hK.out _ _ (fun _=>Jd (A)) (fun hH2=>?_);clear hK K hH2 E;refine zf 2 (fun K hK=>?_);go_simp;refine (O.Z _).mono ?_;rintro e v1 ⟨rfl,y⟩;have c:=BelowL.call A y;go_wp2_with fail;refine hK.out _ _ (fun _=>c) (fun hH2=>?_);clear hK K hH2;refine zf 9 (fun K hK=>?_);go_simp;refine hK.out _ _ (fun _=>Jd (c)) (fun hH2=>?_);clear hK K hH2;refine zf 10 (fun K hK=>?_);go_simp;refine hK.out _ _ (fun h=>absurd h dC) (fun hH2=>?_);clear hK K hH2;refine yG zK ?_ _;(try go_simp)
  go_wp2
  go_ret;exact ⟨by rw [I.Z];exact congrArg (fun x=>Ending.returned (Value.string x)) (UJ _ [C]),c.Z⟩
theorem uT (n:Int) (w:World) (h:yg n):
 Calls prog 56 #[n] w (zR (.string ⟨(Lib.itoa n).toArray⟩) w):=by
 unfold yg at h;by_cases hn:n<0
 obtain ⟨u,rfl⟩: ∃u:Nat,n=-(u:Int):=⟨n.natAbs,om⟩
 exact Te u w om om;obtain ⟨u,rfl⟩: ∃u:Nat,n=u:=⟨n.toNat,om⟩
 exact Tf u w om
end
end Go.Proofs.YtlenfgdjdianiaaGreatDoor
