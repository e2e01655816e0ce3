/- Facts on which this claim rests, 39. -/
import Derived.Test.YtlenfgdjdianiaaGreatDoorF38
set_option linter.all false
set_option maxHeartbeats 6400000
namespace Go.Proofs.YtlenfgdjdianiaaGreatDoor
section
variable {i j k : Nat}
section
variable {W H : Int} {xs : List Int} {n d : Nat}
open Tq Go.Proofs.Tryz
def zJr (c r c' r':Int) (d k m:Nat):Prop:=
 (c=0->c'=0/\r'=r)/\(c=1->(c'=1/\r'=r)\/(c'=0/\(d:Int) - m<=r'/\r'<(d:Int) - k))
theorem zCo (h:zf W H xs=true) (hd:zV 1 xs=d) (rs:List Int) (hr:rs.length=xs.length) (hk:k<d):
 ∃a:Nat,js W H (yW W H xs d rs k).1=a/\a<xs.length/\(yW W H xs d rs k).1.getD a 0=1/\(yW W H xs d rs (k+1)).1=(yW W H xs d rs k).1.set a 0/\(yW W H xs d rs (k+1)).2=(yW W H xs d rs k).2.set a ((d:Int) - 1 - k):=by
 subst hd;obtain ⟨h1,h2,h3,h4⟩:=uL h rs k om;obtain ⟨a,a1,a2,a3⟩:=YH (W:=W) (H:=H) (xs:=(yW W H xs (zV 1 xs) rs k).1) om;refine ⟨a,a1,om,a3,?_,?_⟩;simp only [yW,kS,a1,Yu];simp only [yW,a1,Yu]
theorem zPV (h:zf W H xs=true) (hd:zV 1 xs=d) (rs:List Int) (hr:rs.length=xs.length) (hi:i<xs.length) (j:Nat) (hm:k+j<=d):
 zJr ((yW W H xs d rs k).1.getD i 0) ((yW W H xs d rs k).2.getD i 0) ((yW W H xs d rs (k+j)).1.getD i 0) ((yW W H xs d rs (k+j)).2.getD i 0) d k (k+j):=by
 induction j with
 | zero=>exact ⟨fun e=>⟨e,rfl⟩,fun e=>Or.inl ⟨e,rfl⟩⟩
 | succ j o=>
  obtain ⟨f,i2⟩:=o om;obtain ⟨a,a1,a2,a3,a4,a5⟩:=zCo h hd rs hr (k:=k+j) om;have y:(yW W H xs d rs (k+j)).1.length=xs.length:=by subst hd;exact (uL h rs (k+j) om).2.1
  have z:(yW W H xs d rs (k+j)).2.length=xs.length:=by subst hd;rw [(uL h rs (k+j) om).2.2.2,hr]
  rw [show k+(j+1)=k+j+1 by omega,a4,a5];unfold zJr;by_cases e:a=i
  subst e;rw [kO om,kO om];refine ⟨fun m=>?_,fun c=>Or.inr ⟨rfl,om,om⟩⟩;have:=(f m).1;omega;rw [kG e,kG e];refine ⟨f,fun c=>?_⟩;rcases i2 c with q | ⟨v,A,x⟩
  exact Or.inl q;exact Or.inr ⟨v,om,x⟩
def zQL (c r c' r':Int) (d k m:Nat):Prop:=
 (c=1->c'=1/\r'=r)/\(c=0->(c'=0/\r'=r)\/(c'=1/\(d:Int)+k<=r'/\r'<(d:Int)+m))
theorem zIJ (h:zf W H xs=true) (hd:zV 1 xs=d) (rs:List Int) (hr:rs.length=xs.length) (hk:d+k<xs.length):
 ∃a:Nat,vg W H (upG W H xs d rs k).1=a/\a<xs.length/\(upG W H xs d rs k).1.getD a 0=0/\(upG W H xs d rs (k+1)).1=(upG W H xs d rs k).1.set a 1/\(upG W H xs d rs (k+1)).2=(upG W H xs d rs k).2.set a ((d:Int)+k):=by
 obtain ⟨h1,h2,h3,h4⟩:=wU h d rs k om;obtain ⟨a,a1,a2,a3⟩:=Xe (W:=W) (H:=H) (xs:=(upG W H xs d rs k).1) (uA (xn rfl h1).2.2.2.2.2.2.2.1) om;refine ⟨a,a1,om,a3,?_,?_⟩;simp only [upG,um,a1,Yu];simp only [upG,a1,Yu]
theorem zRX (h:zf W H xs=true) (hd:zV 1 xs=d) (rs:List Int) (hr:rs.length=xs.length) (hi:i<xs.length) (j:Nat) (hm:d+(k+j)<=xs.length):
 zQL ((upG W H xs d rs k).1.getD i 0) ((upG W H xs d rs k).2.getD i 0) ((upG W H xs d rs (k+j)).1.getD i 0) ((upG W H xs d rs (k+j)).2.getD i 0) d k (k+j):=by
 induction j with
 | zero=>exact ⟨fun e=>⟨e,rfl⟩,fun e=>Or.inl ⟨e,rfl⟩⟩
 | succ j o=>
  obtain ⟨f,i2⟩:=o om;obtain ⟨a,a1,a2,a3,a4,a5⟩:=zIJ h hd rs hr (k:=k+j) om;have y:(upG W H xs d rs (k+j)).1.length=xs.length:=(wU h d rs (k+j) om).2.1;have z:(upG W H xs d rs (k+j)).2.length=xs.length:=by rw [(wU h d rs (k+j) om).2.2.2,hr]
  rw [show k+(j+1)=k+j+1 by omega,a4,a5];unfold zQL;by_cases e:a=i
  subst e;rw [kO om,kO om];refine ⟨fun m=>?_,fun c=>Or.inr ⟨rfl,om,om⟩⟩;have:=(f m).1;omega;rw [kG e,kG e];refine ⟨f,fun c=>?_⟩;rcases i2 c with q | ⟨v,x,A⟩
  exact Or.inl q;exact Or.inr ⟨v,x,om⟩
structure Ranked (W H:Int) (xs:List Int) (n d:Nat) (rs:List Int) (D U:Nat->List Int):Prop where
 len:rs.length=n
 dlen: ∀k,k<=d->(D k).length=n/\zf W H (D k)=true
 ulen: ∀k,d+k<=n->(U k).length=n/\zf W H (U k)=true
 one: ∀i,i<n->xs.getD i 0=1->0<=rs.getD i 0/\rs.getD i 0<d
 zero: ∀i,i<n->xs.getD i 0=0->(d:Int)<=rs.getD i 0/\rs.getD i 0<n
 down: ∀k i,k<=d->i<n->(D k).getD i 0=if rs.getD i 0<(d:Int) - k then 1 else 0
 up: ∀k i,d+k<=n->i<n->(U k).getD i 0=if rs.getD i 0<(d:Int)+k then 1 else 0
 tight: ∀k,k<d-> ∃a:Nat,js W H (D k)=a/\a<n/\rs.getD a 0=(d:Int) - 1 - k/\D (k+1)=(D k).set a 0
 wide: ∀k,d+k<n-> ∃a:Nat,vg W H (U k)=a/\a<n/\rs.getD a 0=(d:Int)+k/\U (k+1)=(U k).set a 1
theorem zLm (h:zf W H xs=true) (hn:xs.length=n) (hd:zV 1 xs=d):
 ∃D U,Ranked W H xs n d (jR W H xs) D U:=by
 have Y:d<=n:=by rw [<-hd,<-hn];exact XN _ _
 have o:=uA (xn rfl h).2.2.2.2.2.2.2.1;have M:(List.replicate n (0:Int)).length=xs.length:=by simp [hn]
 obtain ⟨m,L⟩: ∃m,List.replicate n (0:Int)=m:=⟨_,rfl⟩
 rw [L] at M;have x:=(uL h m d om)
 rw [hd] at x;obtain ⟨rd,C⟩: ∃rd,(yW W H xs d m d).2=rd:=⟨_,rfl⟩
 rw [C] at x;have G:rd.length=xs.length:=by rw [x.2.2.2,M]
 have hg:jR W H xs=(upG W H xs d rd (n - d)).2:=by unfold jR;rw [hd,hn,L,C]
 have y:=wU h d rd (n - d) om
 have v: ∀i,i<n->(yW W H xs d m d).1.getD i 0=0:=fun i hi=>by
  have N:=uA (xn rfl x.1).2.2.2.2.2.2.2.1 i (by rw [x.2.1,hn];exact hi);rcases N with e | e
  exact e;exfalso;have I:zV 1 (yW W H xs d m d).1=0:=om;unfold zV at I;rw [List.length_eq_zero_iff,List.filter_eq_nil_iff] at I;have B:i<(yW W H xs d m d).1.length:=by rw [x.2.1,hn];exact hi
  have:=I ((yW W H xs d m d).1[i]) (List.getElem_mem B);simp only [List.getD,Ya B,Yz] at e;simp [e] at this
 have f: ∀i,i<n->(upG W H xs d rd (n - d)).1.getD i 0=1:=fun i hi=>by
  have J:=uA (xn rfl y.1).2.2.2.2.2.2.2.1;rcases J i (by rw [y.2.1,hn];exact hi) with e | e
  exfalso;have hc:=zAi J;have I:zV 0 (upG W H xs d rd (n - d)).1=0:=by rw [y.2.1,y.2.2.1] at hc;omega
  unfold zV at I;rw [List.length_eq_zero_iff,List.filter_eq_nil_iff] at I;have B:i<(upG W H xs d rd (n - d)).1.length:=by rw [y.2.1,hn];exact hi
  have:=I ((upG W H xs d rd (n - d)).1[i]) (List.getElem_mem B);simp only [List.getD,Ya B,Yz] at e;simp [e] at this;exact e
 have A:=fun (k j i:Nat) (hi:i<xs.length) (hm:k+j<=d)=>zPV h hd m M (k:=k) hi j hm;have E:=fun (k j i:Nat) (hi:i<xs.length) (hm:d+(k+j)<=xs.length)=>zRX h hd rd G (k:=k) hi j hm
 have first: ∀i,i<n->xs.getD i 0=1->(jR W H xs).getD i 0=rd.getD i 0:=fun i hi e=>by
  have:=E 0 (n - d) i om om;rw [Nat.zero_add,<-hg] at this;exact (this.1 e).2
 have one: ∀i,i<n->xs.getD i 0=1->0<=(jR W H xs).getD i 0/\(jR W H xs).getD i 0<d:=fun i hi e=>by
  have:=A 0 d i om om;rw [Nat.zero_add,C] at this;rw [first i hi e];rcases this.2 e with ⟨q,_⟩ | ⟨_,O,P⟩
  have:=v i hi;omega;exact ⟨om,om⟩
 have zero: ∀i,i<n->xs.getD i 0=0->(d:Int)<=(jR W H xs).getD i 0/\(jR W H xs).getD i 0<n:=fun i hi e=>by
  have:=E 0 (n - d) i om om;rw [Nat.zero_add,<-hg] at this;rcases this.2 e with ⟨q,_⟩ | ⟨_,O,P⟩
  have:=f i hi;omega;exact ⟨om,om⟩
 refine ⟨fun k=>(yW W H xs d m k).1,fun k=>(upG W H xs d rd k).1,?_,?_,?_,one,zero,?_,?_,?_,?_⟩;rw [hg,y.2.2.2,G,hn];intro k hk;have:=uL h m k om;rw [hd] at this;exact ⟨by rw [this.2.1,hn],this.1⟩;intro k hk;have:=wU h d rd k om;exact ⟨by rw [this.2.1,hn],this.1⟩;intro k i hk hi;have F:=A 0 k i om om;have t2:=A k (d - k) i om om;rw [Nat.zero_add] at F;rw [show k+(d - k)=d by omega,C] at t2;have hv:=v i hi;rcases o i om with e | e
 have c:=F.1 e;have z:=(zero i hi e).1;rw [if_neg om];exact c.1;have r1:=first i hi e;rcases F.2 e with ⟨c,_⟩ | ⟨c,O,P⟩
 rcases t2.2 c with ⟨c2,_⟩ | ⟨_,V,X⟩
 omega;rw [if_pos om];exact c;have p:=t2.1 c;rw [if_neg om];exact c;intro k i hk hi;have F:=E 0 k i om om;have t2:=E k (n - d - k) i om om;rw [Nat.zero_add] at F;rw [show k+(n - d - k)=n - d by omega,<-hg] at t2;have hv:=f i hi;rcases o i om with e | e
 rcases F.2 e with ⟨c,_⟩ | ⟨c,O,P⟩
 rcases t2.2 c with ⟨c2,_⟩ | ⟨_,V,X⟩
 omega;rw [if_neg om];exact c;have p:=t2.1 c;rw [if_pos om];exact c;have c:=F.1 e;have z:=(one i hi e).2;rw [if_pos om];exact c.1;intro k hk;obtain ⟨a,a1,a2,a3,a4,a5⟩:=zCo h hd m M hk;refine ⟨a,a1,om,?_,a4⟩;have t2:=A (k+1) (d - (k+1)) a om om;rw [show k+1+(d - (k+1))=d by omega,C] at t2
 have Q:xs.getD a 0=1:=by
  have F:=A 0 k a om om;rw [Nat.zero_add] at F;rcases o a om with e | e
  have:=(F.1 e).1;omega;exact e
 have R:(yW W H xs d m k).1.length=xs.length:=by subst hd;exact (uL h m k om).2.1
 have T:(yW W H xs d m k).2.length=xs.length:=by subst hd;rw [(uL h m k om).2.2.2,M]
 rw [a4,a5,kO om,kO om] at t2;rw [first a om Q];exact (t2.1 rfl).2;intro k hk;obtain ⟨a,a1,a2,a3,a4,a5⟩:=zIJ h hd rd G (k:=k) om;refine ⟨a,a1,om,?_,a4⟩;have t2:=E (k+1) (n - d - (k+1)) a om om;rw [show k+1+(n - d - (k+1))=n - d by omega,<-hg] at t2;have R:(upG W H xs d rd k).1.length=xs.length:=(wU h d rd k om).2.1;have T:(upG W H xs d rd k).2.length=xs.length:=by rw [(wU h d rd k om).2.2.2,G]
 rw [a4,a5,kO om,kO om] at t2;exact (t2.1 rfl).2
end
theorem Qs (xs:List Int) (f:Int->Int) (n:Nat) (h:xs.length=n):xs.map f=gen n (fun i=>f (xs.getD i 0)):=by
 refine xk n _ _ (by simp [h]) (fun k hk=>?_);simp [List.getD,List.getElem?_map,Ya (show k<xs.length by omega)]
namespace Ranked
variable {W H : Int} {xs rs : List Int} {n d : Nat} {D U : Nat → List Int}
theorem range (R:Ranked W H xs n d rs D U) (c:wB xs) (hn:xs.length=n) (f:d<=n) (i:Nat) (hi:i<n):0<=rs.getD i 0/\rs.getD i 0<n:=by
 rcases c i om with e | e
 have:=R.zero i hi e;omega;have:=R.one i hi e;omega
theorem lo (R:Ranked W H xs n d rs D U) (hi:i<n) (m:0<=rs.getD i 0) (h:rs.getD i 0<d):js W H (rs.map (qP (rs.getD i 0+1)))=i/\zf W H (rs.map (qP (rs.getD i 0+1)))=true:=by
 obtain ⟨k,hk⟩: ∃k:Nat,(k:Int)=(d:Int) - 1 - rs.getD i 0:=⟨((d:Int) - 1 - rs.getD i 0).toNat,om⟩
 obtain ⟨a,a1,a2,a3,a4⟩:=R.tight k om;have l:=R.dlen k om
 have e:rs.map (qP (rs.getD i 0+1))=D k:=by
  rw [Qs rs _ n R.len];symm;refine xk n _ _ l.1 (fun j f=>?_);rw [R.down k j om f];unfold qP;by_cases c:rs.getD j 0<(d:Int) - k
  rw [if_pos c,if_pos om];rw [if_neg c,if_neg om]
 rw [e];refine ⟨?_,l.2⟩
 have:a=i:=by
  by_cases c:a=i
  exact c;exfalso;have h1:=R.down (k+1) i om hi;rw [a4,kG c,R.down k i om hi,if_pos om,if_neg om] at h1;omega
 rw [a1,this]
theorem hi (R:Ranked W H xs n d rs D U) {i:Nat} (hi:i<n) (m:(d:Int)<=rs.getD i 0) (h:rs.getD i 0<n):vg W H (rs.map (qP (rs.getD i 0)))=i/\zf W H (rs.map (qP (rs.getD i 0)))=true:=by
 obtain ⟨k,hk⟩: ∃k:Nat,(k:Int)=rs.getD i 0 - d:=⟨(rs.getD i 0 - d).toNat,om⟩
 obtain ⟨a,a1,a2,a3,a4⟩:=R.wide k om;have l:=R.ulen k om
 have e:rs.map (qP (rs.getD i 0))=U k:=by
  rw [Qs rs _ n R.len];symm;refine xk n _ _ l.1 (fun j f=>?_);rw [R.up k j om f];unfold qP;by_cases c:rs.getD j 0<(d:Int)+k
  rw [if_pos c,if_pos om];rw [if_neg c,if_neg om]
 rw [e];refine ⟨?_,l.2⟩
 have:a=i:=by
  by_cases c:a=i
  exact c;exfalso;have h1:=R.up (k+1) i om hi;rw [a4,kG c,R.up k i om hi,if_neg om,if_pos om] at h1;omega
 rw [a1,this]
theorem inj (R:Ranked W H xs n d rs D U) (o:wB xs) (hn:xs.length=n) (m:d<=n) (hi:i<n) (f:j<n) (e:rs.getD i 0=rs.getD j 0):i=j:=by
 have b:=R.range o hn m i hi;by_cases c:rs.getD i 0<d
 have h1:=(R.lo hi b.1 c).1;have h2:=(R.lo f om om).1;rw [<-e,h1] at h2;omega;have h1:=(R.hi hi om b.2).1;have h2:=(R.hi f om om).1;rw [<-e,h1] at h2;omega
theorem mat (R:Ranked W H xs n d rs D U) (h:zf W H xs=true) (hn:xs.length=n) (f:d<=n):zq W H rs=true:=by
 obtain ⟨b1,b2,b3,x,o,y,z,q,_⟩:=xn hn h;have m:=uA q;refine Qu R.len (JO b1 b3 om) o ?_ ?_;refine zKp (fun k hk=>?_);exact R.range m hn f k (by rw [R.len] at hk;exact hk);rw [List.nodup_iff_pairwise_ne,List.pairwise_iff_getElem];intro i j hi c v e;have:=R.inj m hn f (i:=i) (j:=j) (by rw [R.len] at hi;exact hi) (by rw [R.len] at c;exact c) (by simp [List.getD,Ya hi,Ya c,e]);omega
theorem cells (R:Ranked W H xs n d rs D U) (f:wB xs) (hn:xs.length=n):rs.map (qP d)=xs:=by
 rw [Qs rs _ n R.len];symm;refine xk n _ _ hn (fun j c=>?_);unfold qP;rcases f j om with e | e
 rw [if_neg (og (R.zero j c e))];exact e;rw [if_pos (R.one j c e).2];exact e
end Ranked
end
section
open Go.RowKit Tq Go.Proofs.Tryz
variable {H W : Int} {a g u : Nat} {b l t w : List UInt8} {s : ByteArray} {xs : List Int}
theorem UF (s:ByteArray):s.size=s.data.toList.length:=sI
def Kf:List (List UInt8):=[[101,114,114,111,114],[99,111,117,110,116,115],[109,101,97,110],[114,117,110,115],[115,104,111,119],[100,114,111,112],[109,105,114,114,111,114],[115,104,114,105,110,107],[103,114,111,119],[100,105,102,102,117,115,101,32,112,108,97,105,110,32,98,111,116,104],[100,105,102,102,117,115,101,32,112,108,97,105,110,32,108,101,102,116],[100,105,102,102,117,115,101,32,115,116,101,105,110,32,98,111,116,104],[100,105,102,102,117,115,101,32,115,116,101,105,110,32,108,101,102,116],[115,99,114,101,101,110],[114,101,118,101,114,115,101]]
theorem JU (h:l ∉ Kf):jY l=none:=by
 unfold Kf at h;simp only [List.mem_cons,List.not_mem_nil,or_false,not_or] at h;obtain ⟨h1,h2,h3,h4,v,x,y,z,A,c,e,f,m,o,q⟩:=h;unfold jY;rw [if_neg h1,if_neg h2,if_neg h3,if_neg h4,if_neg v,if_neg x,if_neg y,if_neg z,if_neg A,if_neg c,if_neg e,if_neg f,if_neg m,if_neg o,if_neg q]
def jS:List UInt8:=[100,105,102,102,117,115,101]
theorem zGs: ∀l,l ∈ Kf->(xi l).length=1\/(xi l).length=3/\(xi l).getD 0 []=jS:=dC
theorem zIq (h: ∃c,c ∈ l/\c.toNat=32):xo l=none:=by
 cases hn:xo l with
 | none=>rfl
 | some v=>
  exfalso;obtain ⟨c,hc,e⟩:=h;obtain ⟨i,hi,rfl⟩:=List.getElem_of_mem hc;by_cases hf:kY l<=i
  have:=(JQ hn).2 i hi hf;omega;have m:kY l<=1:=by unfold kY;split <;>omega
  have f:i=0:=om;subst f;unfold kY at hf;split at hf;rename_i o;cases l with
  | nil=>simp at hi
  | cons a b=>
   simp at o e;omega
  omega
theorem zLZ {c:List (List UInt8)} (hw:w ∈ c) (hn:xo w=none):jV c=none:=by
 obtain ⟨k,hk,rfl⟩:=List.getElem_of_mem hw;exact YY c k hk (by rw [Yh,Ya hk];exact hn)
theorem zDL: ∀ {c:List (List UInt8)} {xs:List Int},jV c=some xs->xs.length=c.length
 | [],xs,h=>by cases h;rfl
 | w::r,xs,h=>by
  unfold jV at h;split at h;cases h;split at h;cases h;rename_i l hl;cases h;simp [zDL hl]
theorem zFM (h:xs.length=0\/4<=xs.length):kx l xs=none:=by
 unfold kx;rw [if_neg om,if_neg om,if_neg om,if_neg om,if_neg om,if_neg om,if_neg om,if_neg om]
theorem zFL (xs:List Int):kx jS xs=none:=by
 unfold kx jS;rw [if_neg (fun h=>absurd h.1 dC),if_neg (fun h=>absurd h.1 dC),if_neg (fun h=>absurd h.1 dC),if_neg (fun h=>absurd h.1 dC),if_neg (fun h=>absurd h.1 dC),if_neg (fun h=>absurd h.1 dC),if_neg (fun h=>absurd h.1 dC),if_neg (fun h=>absurd h.1 dC)]
theorem Jq (h:(yJ s).length<=4):zk (ja s)=zk (yJ s):=by
 have hw:=wV s;have hl:=wW s;have e:(zk (yJ s)).length=(yJ s).length:=by simp [zk]
 rcases Jg (min 4 (s.size+1) - 1) s with ⟨h1,_⟩ | ⟨h1,_⟩
 rw [hw];exact h1;rw [<-hw,e] at h1;omega
theorem zHX (h:5<=(yJ s).length):jV (zk (ja s).tail)=none:=by
 have hw:=wV s;have hl:=wW s;have e:(zk (yJ s)).length=(yJ s).length:=by simp [zk]
 have hk:min 4 (s.size+1) - 1=3:=om;rcases Jg 3 s with ⟨_,h1⟩ | ⟨_,x,h2,c,hc,f⟩
 rw [<-hw,e] at h1;omega;unfold ja;rw [hk];refine zLZ (w:=x) ?_ (zIq ⟨c,hc,f⟩);have m:zk (Lib.splitB ⟨#[32]⟩ 0 3 s).tail=(zk (Lib.splitB ⟨#[32]⟩ 0 3 s)).tail:=by unfold zk;rw [List.map_tail]
 rw [m,h2];cases hc2:(xi s.data.toList).take 3 with
 | nil=>have:=congrArg List.length hc2;rw [Yj,<-hw,e,List.length_nil] at this;omega
 | cons a b=>simp
theorem ZW (L:List ByteArray):zk L.tail=(zk L).tail:=by unfold zk;rw [List.map_tail]
theorem qb (L:List ByteArray) (k:Nat):(L.getD k ByteArray.empty).data.toList=(zk L).getD k []:=by
 unfold zk;simp only [Yh,List.getElem?_map];cases L[k]? with
 | none=>rfl
 | some x=>rfl
theorem zOL {d:Dat} (hk:yX d=true) (h:(yJ s).length=1):kW d s=if s.size=0 then (d,[]) else match jY s.data.toList with | some F=>F d | none=>(d,jc):=by
 unfold kW qd;rw [if_pos hk];by_cases c:s.size=0
 rw [if_pos c,if_pos c];rw [if_neg c,if_neg c];cases jY s.data.toList with
 | some F=>rfl
 | none=>
  have hw:=Jq (s:=s) om
  have e:jV (zk (ja s).tail)=some []:=by
   rw [ZW,hw];have:(zk (yJ s)).length=1:=by simp [zk,h]
   match hh:zk (yJ s),this with
   | [a],_=>rfl
  dsimp only;rw [e];dsimp only;rw [zFM (.inl rfl)]
theorem zLu {d:Dat} (hk:yX d=true) (h:2<=(yJ s).length) (hd: ¬((yJ s).length=3/\((yJ s).getD 0 ByteArray.empty).data.toList=jS)):
 kW d s=match jV (zk (yJ s).tail) with | none=>(d,jc) | some xs=>match kx ((yJ s).getD 0 ByteArray.empty).data.toList xs with | some F=>F d | none=>(d,jc):=by
 have hc:=wV s;have e:(zk (yJ s)).length=(yJ s).length:=by simp [zk]
 have hl:=wW s;unfold kW qd
 rw [if_pos hk,if_neg om,JU (fun hm=>by
  rcases zGs _ hm with h1 | ⟨h1,h2⟩
  rw [<-hc,e] at h1;omega
  rw [<-hc] at h1 h2;rw [e] at h1;exact hd ⟨h1,by rw [qb];exact h2⟩)]
 dsimp only;by_cases h4:(yJ s).length<=4
 have hw:=Jq h4;have c:zk (ja s).tail=zk (yJ s).tail:=by rw [ZW,hw,ZW]
 have f:((ja s).getD 0 ByteArray.empty).toList=((yJ s).getD 0 ByteArray.empty).data.toList:=by rw [Yf,qb,hw,qb]
 rw [c,f];cases jV (zk (yJ s).tail) with
 | none=>rfl
 | some xs=>rfl
 rw [zHX om];dsimp only;cases hn:jV (zk (yJ s).tail) with
 | none=>rfl
 | some xs=>
  have:=zDL hn;dsimp only;rw [zFM (.inr (by rw [this];simp [zk];omega))]
def uz:List UInt8:=[115,116,101,105,110]
def qZ:List UInt8:=[112,108,97,105,110]
def YI:List UInt8:=[108,101,102,116]
def ZT:List UInt8:=[98,111,116,104]
theorem zEW: ∀l:List UInt8,Lib.join (xi l) [32]=l
 | []=>rfl
 | c::r=>by
  have e:=zEW r;unfold xi;split;rename_i h;have hc:c=32:=UInt8.toNat_inj.1 h;rw [hc];cases hr:xi r with
  | nil=>exact absurd hr (Uf r)
  | cons a b=>
   rw [Lib.join_cons];unfold Lib.joinTail;rw [hr,Lib.join_cons] at e;simp only [List.map_cons,List.flatten_cons,List.nil_append];unfold Lib.joinTail at e;rw [<-e];simp
  cases hr:xi r with
  | nil=>exact absurd hr (Uf r)
  | cons a b=>
   rw [hr,Lib.join_cons] at e;dsimp only;rw [Lib.join_cons,List.cons_append,e]
noncomputable def VV (a b:List UInt8) (d:Dat):Dat × List UInt8:=
 if (a=uz\/a=qZ)/\(b=YI\/b=ZT) then yg (yU (if a=uz then yk else yj) (decide (b=ZT))) d else (d,jc)
theorem zFa {d:Dat} {a:List UInt8} (hk:yX d=true) (h:zk (yJ s)=[jS,a,b]):kW d s=VV a b d:=by
 have hc:=wV s;have m:=zEW s.data.toList;rw [<-hc,h] at m;have hn:(yJ s).length=3:=by have:=congrArg List.length h;simpa [zk] using this
 have hl:=wW s;have hw:=Jq (s:=s) om;unfold kW qd
 rw [if_pos hk,if_neg (by
  intro q;have h1:s.data.toList.length=0:=by rw [<-UF];exact q
  rw [<-m] at h1;rw [Lib.join_cons,Yn] at h1;have:jS.length=7:=rfl
  omega)]
 by_cases f:(a=uz\/a=qZ)/\(b=YI\/b=ZT)
 unfold VV;rw [if_pos f,<-m];rcases f with ⟨rfl | rfl,rfl | rfl⟩
 rfl;rfl;rfl;rfl;unfold VV;rw [if_neg f]
 have hp:jY s.data.toList=none:=JU (fun hm=>by
  have c: ∀l,l ∈ Kf->xi l=[jS,a,b]->(a=uz\/a=qZ)/\(b=YI\/b=ZT):=by
   intro l hl;have h1: ∀l,l ∈ Kf->(xi l).length=3->xi l=[jS,uz,YI]\/xi l=[jS,uz,ZT]\/xi l=[jS,qZ,YI]\/xi l=[jS,qZ,ZT]:=dC;intro e;have h2:=h1 l hl (by rw [e];rfl);rw [e] at h2;simp only [List.cons.injEq,true_and,and_true] at h2;rcases h2 with ⟨x,y⟩ | ⟨x,y⟩ | ⟨x,y⟩ | ⟨x,y⟩
   exact ⟨.inl x, .inl y⟩;exact ⟨.inl x, .inr y⟩;exact ⟨.inr x, .inl y⟩;exact ⟨.inr x, .inr y⟩
  exact f (c _ hm (by rw [<-hc,h])))
 rw [hp];dsimp only;have o:((ja s).getD 0 ByteArray.empty).toList=jS:=by rw [Yf,qb,hw,h];rfl
 rw [o];cases jV (zk (ja s).tail) with
 | none=>rfl
 | some xs=>dsimp only;rw [zFL]
theorem zNK (W H v:Int):zP (xH W H v).1.W (xH W H v).1.H (xH W H v).1.ink 255=(xH W H v).2:=by
 unfold xH;split;rename_i h;obtain ⟨h1,h2⟩:=uG h.1
 exact wn h.1 rfl (by rw [List.length_replicate];omega) (by
  unfold yY;rw [Yp];intro x c;rw [List.eq_of_mem_replicate c];simp only [Bool.and_eq_true,decide_eq_true_eq]
  omega)
 decide
theorem zJz (k:Int):zq (xE k).1.W (xE k).1.H (xE k).1.ranks=(xE k).2:=by
 unfold xE;split;exact (wh _ om).1;decide
theorem zJR (k:Int):zq (yu k).1.W (yu k).1.H (yu k).1.ranks=(yu k).2:=by
 by_cases h:1<=k/\k<=16
 obtain ⟨n,rfl⟩: ∃n:Nat,k=n:=⟨k.toNat,om⟩
 rw [Xs om om];exact (zAN n om om).2;rw [Jf h];decide
theorem zNz (h:zf W H xs=true):zq (jO W H xs).1.W (jO W H xs).1.H (jO W H xs).1.ranks=true:=by
 unfold jO;rw [if_pos h];obtain ⟨D,U,R⟩:=zLm h rfl rfl;exact R.mat h rfl (XN _ _)
theorem zPo (h:zq W H xs=true):zq (uW W H xs).W (uW W H xs).H (uW W H xs).ranks=true:=by
 rw [(zLp rfl h).1];exact (zLp rfl h).2.1
def uE (b:UInt8):UInt8:=if b.toNat=10 then 47 else b
theorem XG: ∀ {l:List UInt8},(∀k:Nat,l[k]?≠some 10)->l.map uE=l
 | [],_=>rfl
 | c::r,h=>by
  have f:c≠10:=fun e=>h 0 (by rw [e];rfl);have h1:c.toNat≠10:=fun e=>f (UInt8.toNat_inj.1 e);rw [List.map_cons,XG (fun k=>by have:=h (k+1);simpa using this)];unfold uE;rw [if_neg h1]
theorem zBU: ∀(n:Nat) (l:List UInt8),l.length<=n->Lib.replaceK [10] [47] (Lib.count l [10]) l=l.map uE:=by
 intro n
 induction n with
 | zero=>
  intro l hl;have:l=[]:=List.eq_nil_of_length_eq_zero om;subst this;rfl
 | succ n q=>
  intro l hl;by_cases hm:Lib.index l [10]=-1
  rw [Lib.count_miss hm];have h2:Lib.indexByte l 10=-1:=by rw [<-Lib.index_one];exact hm
  rw [XG (Lib.indexByte_none h2)];rfl;have o:=Lib.index_ge l [10];obtain ⟨i,hi⟩: ∃i:Nat,Lib.index l [10]=i:=⟨(Lib.index l [10]).toNat,om⟩
  have h2:Lib.indexByte l 10=i:=by rw [<-Lib.index_one];exact hi
  obtain ⟨c,no⟩:=Lib.indexByte_some h2;have m:i<l.length:=(List.getElem?_eq_some_iff.1 c).1;rw [Lib.count_hit sI hi,Nat.add_comm,Lib.replaceK_hit _ _ _ _ _ hi,List.length_singleton,q _ (by rw [List.length_drop];omega)]
  have e:l=l.take i++(10:UInt8)::l.drop (i+1):=by
   have hg:=c;rw [Ya m] at hg;rw [<-Yd hg,List.getElem_cons_drop,List.take_append_drop]
  conv=>rhs;rw [e]
  rw [List.map_append,List.map_cons,XG (l:=l.take i) (fun k=>by
   intro hk;by_cases f:k<i
   rw [List.getElem?_take_of_lt f] at hk;exact no k f hk
   rw [Yv (by rw [Yj];omega)] at hk;cases hk),List.append_assoc]
  rfl
theorem UB (l:List UInt8):Lib.replaceAll l [10] [47]=l.map uE:=by
 unfold Lib.replaceAll Lib.replace;rw [if_neg dC];have e:Lib.replaceNum l [10] (-1)=Lib.count l [10]:=by unfold Lib.replaceNum;rw [if_pos (.inl dC)]
 rw [e];exact zBU l.length l nI
theorem zMS (W H:Int) (xs:List Int):kD W H xs=[]\/ ∃l,kD W H xs=l++ [10]:=by
 unfold kD;split;rename_i h;obtain ⟨c,_,_⟩:=yH rfl h;unfold yM at c;simp only [Bool.and_eq_true,decide_eq_true_eq] at c;obtain ⟨w,rfl⟩: ∃w:Nat,W=w:=⟨W.toNat,om⟩
 obtain ⟨k,rfl⟩: ∃k:Nat,H=((k+1:Nat):Int):=⟨H.toNat - 1,om⟩
 refine .inr ⟨(List.range ((w+1)*(k+1) - 1)).map (qV w xs),?_⟩;show kf w (k+1) xs=_
 have e:(w+1)*(k+1)=((w+1)*(k+1) - 1)+1:=by
  have:(w+1)*(k+1)=(w+1)*k+(w+1):=Nat.mul_succ _ _;omega
 unfold kf
 conv=>lhs;rw [e,List.range_succ,List.map_append]
 congr 1;simp only [List.map_cons,List.map_nil];congr 1;unfold qV;rw [if_pos]
 have f:(w+1)*(k+1) - 1=w+(w+1)*k:=by
  have:(w+1)*(k+1)=(w+1)*k+(w+1):=Nat.mul_succ _ _;omega
 rw [f,Nat.add_mul_mod_self_left,Nat.mod_eq_of_lt om];exact .inl rfl
def Kh (l:List UInt8):List UInt8:=(l.take (l.length - 1)).map uE
theorem zOR (d:Dat) (q:Pic):ur d q=(d,Kh (kD q.W q.H q.ink)):=by
 unfold ur Kh;rw [UB];rcases zMS q.W q.H q.ink with e | ⟨l,e⟩
 rw [e];rfl;rw [e];unfold Lib.trimSuffix Lib.hasSuffix;rw [if_pos (by rw [List.isSuffixOf_iff_suffix];exact List.suffix_append _ _)];simp
theorem Qx (w:World) (d:Nat) (hd:d<256):Sem.run prog (convert 72 9 (.slice ↑w 1 1)) (w.alloc (.cells #[.int .u8 (d:Int)] 5))= .ok (.string ⟨#[UInt8.ofNat d]⟩) (w.alloc (.cells #[.int .u8 (d:Int)] 5)):=by
 have h:=run_convert_bytes_back (P:=prog) (w.alloc (.cells #[.int .u8 (d:Int)] 5)) 72 9 5 ↑w 1 [UInt8.ofNat d] underlying72 underlying5 underlying9 (fun j c=>by
  obtain rfl:j=0:=by simpa using c
  have h:=(Blk.new w 5 #[.int .u8 (d:Int)]).cell 0;rw [show (Addr.mk w 0 none).add 0=↑w by simp [Addr.add],h];have e:(UInt8.ofNat d).toNat=d:=by rw [UInt8.toNat_ofNat'];omega
  simp [e])
 exact h
theorem zLa {w:World} {d:Nat} (h:Blk w g 5 #[.int .u8 (d:Int)]) (hd:d<256):Sem.run prog (convert 72 9 (.slice ↑g 1 1)) w= .ok (.string ⟨#[UInt8.ofNat d]⟩) w:=by
 have h:=run_convert_bytes_back (P:=prog) w 72 9 5 ↑g 1 [UInt8.ofNat d] underlying72 underlying5 underlying9 (fun j c=>by
  obtain rfl:j=0:=by simpa using c
  have h:=h.cell 0;rw [show (Addr.mk g 0 none).add 0=↑g by simp [Addr.add],h];have e:(UInt8.ofNat d).toNat=d:=by rw [UInt8.toNat_ofNat'];omega
  simp [e])
 exact h
theorem Xi (a b:List UInt8):(⟨a.toArray⟩:ByteArray)++(⟨b.toArray⟩:ByteArray)=⟨(a++b).toArray⟩:=by
 apply ByteArray.ext;simp
theorem zHj (h: ¬a<10):Lib.decDigits a=Lib.decDigits (a/10)++ [UInt8.ofNat (48+a % 10)]:=by rw [Lib.decDigits,dif_neg h]
theorem zCl (h:a<10):Lib.decDigits a=[UInt8.ofNat (48+a)]:=by rw [Lib.decDigits,dif_pos h]
theorem zNV (u:Nat):Lib.itoa (u:Int)=Lib.decDigits u:=by unfold Lib.itoa;rw [if_neg om];rfl
theorem zMz (h:Lib.decDigits u=Lib.decDigits a++t) (c:u<18446744073709551616):t.length<=20:=by
 have h1:=congrArg List.length h;rw [Lib.decDigits_length,Yn] at h1;have:=Lib.nDigits_le20 u c;omega
set_option maxRecDepth 100000 in
theorem zHJ (u:Nat) (w:World) (F:u<=9223372036854775807):
 Calls prog 56 #[(u:Int)] w (zR (.string ⟨(Lib.itoa u).toArray⟩) w):=by
 go_in;go_wp2_with fail
 go_loopw [0,3] (fun v s wr=> ∃(a:Nat) (t:List UInt8),v=↑(a:Int)/\s= .string ⟨t.toArray⟩/\a<=u/\Lib.decDigits u=Lib.decDigits a++t/\Below w w wr) (fun v _ _=>(intOf v).toNat)
 case atStart=>exact ⟨u,[],rfl,rfl,nI,sI,bR⟩
 obtain ⟨a,t,rfl,rfl,ha,y,hb⟩:=hrel;have A:=Jh hb;have B:=Jh y;have hl:t.length<=20:=zMz y om;clear hb y;by_cases E:9<a
 . have q:(9:Int)<(a:Int):=om
   obtain ⟨m,hm,C,f⟩: ∃m:Nat,(a:Int) % 10=(m:Int)/\m<10/\Hd (m=a % 10):=⟨a % 10,om,om,Jh rfl⟩
   have hc:=Qx wr (48+m) om;obtain ⟨e,c⟩: ∃e,UInt8.ofNat (48+m)=e:=⟨_,rfl⟩
   rw [show ((48+m:Nat):Int)=48+(m:Int) by omega,c] at hc;have o:Hd (Lib.decDigits a=Lib.decDigits (a/10)++ [e]):=Jh (by rw [zHj om,<-c,f.Z]);clear c f;have z:IntKind.u8.wrap (48+(m:Int))=48+(m:Int):=by rw [IntKind.wrap_u8];omega
   go_wp2_with fail;exact ⟨⟨a/10,e::t,by go_num,congrArg Value.string (Xi [e] t),om,by rw [B.Z,o.Z];simp,zJ A.Z _⟩,by simp [intOf];omega⟩
 have q: ¬(9:Int)<(a:Int):=om;have hc:=Qx wr (48+a) om;obtain ⟨e,c⟩: ∃e,UInt8.ofNat (48+a)=e:=⟨_,rfl⟩
 rw [show ((48+a:Nat):Int)=48+(a:Int) by omega,c] at hc;have o:Hd (Lib.decDigits a=[e]):=Jh (by rw [zCl om,<-c]);clear c;have z:IntKind.u8.wrap (48+(a:Int))=48+(a:Int):=by rw [IntKind.wrap_u8];omega
 go_wp2_with fail;go_ret;exact ⟨by rw [zNV,B.Z,o.Z];exact congrArg (fun x=>Ending.returned (Value.string x)) (Xi [e] t),zJ A.Z _⟩
theorem Vn (h:0<u):Lib.itoa (-(u:Int))=45::Lib.decDigits u:=by
 unfold Lib.itoa;rw [if_pos om];congr 1;congr 1;omega
set_option maxRecDepth 100000 in
theorem zHI (u:Nat): ∀(w:World),0<u->u<=9223372036854775808->
 Calls prog 56 #[.int .i64 (-(u:Int))] w (zR (.string ⟨(Lib.itoa (-(u:Int))).toArray⟩) w):=by
 induction u using Nat.strongRecOn with
 | _ u ih=>
  intro w h0 h1;have IH:=Jh ih;clear ih;obtain ⟨n,hn⟩:=zN (-(u:Int):Int);rw [<-hn];have b4:n<0:=om;have b6:-9223372036854775808<=n:=om;by_cases h9:u<10
  . have V:n.tdiv 10=0:=by rw [hn,Int.neg_tdiv,Yt om];omega
    have X:(n.tdiv 10==0)=true:=by rw [V];rfl
    have hc:=Qx w (48+u) om;obtain ⟨B,A⟩: ∃B,UInt8.ofNat (48+u)=B:=⟨_,rfl⟩
    rw [show ((48+u:Nat):Int)=48 - n by omega,A] at hc;have F:Hd (Lib.itoa n=[45,B]):=Jh (by rw [hn,Vn h0,zCl h9,<-A]);have Y:IntKind.u8.wrap (48 - n)=48 - n:=by rw [IntKind.wrap_u8];omega
    have b5:-10<n:=om;clear hn A;go_in;go_wp2_with fail;go_ret;exact ⟨by rw [F.Z];exact congrArg (fun x=>Ending.returned (Value.string x)) (Xi [45] [B]),zJ bR _⟩
  obtain ⟨m,hm⟩: ∃m:Int,n.tmod 10=-m/\0<=m/\m<10/\Hd (m=((u % 10:Nat):Int)):=⟨((u % 10:Nat):Int),by rw [hn,Int.neg_tmod,Yl om];omega,om,om,Jh rfl⟩
  obtain ⟨hm,b2,b3,HM⟩:=hm;have V:n.tdiv 10=-((u/10:Nat):Int):=by rw [hn,Int.neg_tdiv,Yt om];omega
  obtain ⟨q,E⟩: ∃q:Nat,u/10=q:=⟨_,rfl⟩
  rw [E] at V;have L:0<q:=om;have f:q<=9223372036854775808:=om;have X:(-(q:Int)==0)=false:=sO;have N:=Jh (fun v=>IH.Z q om v L f);have T:(Lib.itoa (-(q:Int))).length<=21:=Lib.itoa_length_le _ om om;obtain ⟨B,A⟩: ∃B,UInt8.ofNat (48+u % 10)=B:=⟨_,rfl⟩
  have F:Hd (Lib.itoa n=Lib.itoa (-(q:Int))++ [B]):=Jh (by rw [hn,Vn h0,Vn L,zHj h9,<-A,E];rfl)
  have O:Hd (∀(v:World) (g:Nat),Blk v g 5 #[.int .u8 (48+m)]->Sem.run prog (convert 72 9 (.slice ↑g 1 1)) v= .ok (.string ⟨#[B]⟩) v):=Jh (fun v g hk=>by
   rw [show 48+m=((48+u % 10:Nat):Int) by rw [HM.Z];omega] at hk;have h:=zLa hk om;rw [A] at h
   exact h)
  have Y:IntKind.u8.wrap (48+m)=48+m:=by rw [IntKind.wrap_u8];omega
  have b1:IntKind.i64.wrap (48+m)=48+m:=by rw [IntKind.wrap_i64];omega
  have b7:IntKind.i64.wrap (-(q:Int))=-(q:Int):=by rw [IntKind.wrap_i64];omega
  obtain ⟨xq,M⟩: ∃x,Lib.itoa (-(q:Int))=x:=⟨_,rfl⟩
  rw [M] at N T F;have b0: ¬9223372036854775807<xq.length+1:=om;clear M;clear hn A E HM;go_in;go_upto_region 4 with fail;refine zh 10 (fun v=>BelowL w v) zK lS ?_;intro y;have P:=y;refine zM 0 ?_;refine zM 1 ?_;refine zM 3 ?_;refine zM 4 ?_;refine zM 5 ?_;refine zM 6 ?_;refine vm (i:=2) (j:=7) zK rfl rfl (fun K hK=>?_) (fun K hK=>?_)
  . go_simp
    refine (N.Z _).mono ?_;rintro e v1 ⟨rfl,f⟩;have z:=BelowL.call P f;go_wp2_with fail;refine hK.out _ _ (fun _=>z) (fun hH2=>?_);clear hK K y hH2;refine zW 7 (fun K hK=>?_);go_simp;have c:=BelowL.alloc z (.cells #[.int .u8 (48+m)] 5);refine hK.out _ _ (fun _=>Jd (c)) (fun hH2=>?_);clear hK K hH2;have C:=O.Z _ _ (Blk.new v1 5 #[.int .u8 (48+m)]);refine zW 8 (fun K hK=>?_);go_simp;refine hK.out _ _ (fun _=>Jd (c)) (fun hH2=>?_);clear hK K hH2 C;refine zW 9 (fun K hK=>?_);go_simp;refine hK.out _ _ (fun _=>Jd (c)) (fun hH2=>?_);clear hK K hH2;refine zW 10 (fun K hK=>?_);go_simp;refine hK.out _ _ (fun h=>absurd h dC) (fun hH2=>?_);clear hK K hH2;refine zx zK ?_ _;(try go_simp);go_wp2_with fail;go_ret;exact ⟨by rw [F.Z];exact congrArg (fun x=>Ending.returned (Value.string x)) (Xi _ [B]),c.Z⟩
  go_simp;have z:BelowL w (w.alloc (.cells #[.int .u8 (48+m)] 5)).drew:=BelowL.mk (zJ bR _).drew;have J:Blk (w.alloc (.cells #[.int .u8 (48+m)] 5)).drew w.heap.size 5 #[.int .u8 (48+m)]:=(Blk.new w 5 #[.int .u8 (48+m)]).drew;have I:=Jh J;refine hK.out _ _ (fun _=>Jd (z)) (fun hH2=>?_);clear hK K y hH2 J;refine vm (i:=2) (j:=8) zK rfl rfl (fun K hK=>?_) (fun K hK=>?_)
  . go_simp
    refine (N.Z _).mono ?_;rintro e v1 ⟨rfl,f⟩;have c:=BelowL.call z f;have Q:=I.Z.zA f;have C:=O.Z _ _ Q;go_wp2_with fail;refine hK.out _ _ (fun _=>c) (fun hH2=>?_);clear hK K hH2;refine zW 8 (fun K hK=>?_);go_simp;refine hK.out _ _ (fun _=>Jd (c)) (fun hH2=>?_);clear hK K hH2 C;refine zW 9 (fun K hK=>?_);go_simp;refine hK.out _ _ (fun _=>Jd (c)) (fun hH2=>?_);clear hK K hH2;refine zW 10 (fun K hK=>?_);go_simp;refine hK.out _ _ (fun h=>absurd h dC) (fun hH2=>?_);clear hK K hH2;refine zx zK ?_ _;(try go_simp);go_wp2_with fail;go_ret;exact ⟨by rw [F.Z];exact congrArg (fun x=>Ending.returned (Value.string x)) (Xi _ [B]),c.Z⟩
  have C:=O.Z _ _ I.Z;go_simp;refine hK.out _ _ (fun _=>Jd (z)) (fun hH2=>?_);clear hK K hH2 C;refine zW 2 (fun K hK=>?_);go_simp;refine (N.Z _).mono ?_;rintro e v1 ⟨rfl,f⟩;have c:=BelowL.call z f;go_wp2_with fail;refine hK.out _ _ (fun _=>c) (fun hH2=>?_);clear hK K hH2;refine zW 9 (fun K hK=>?_);go_simp;refine hK.out _ _ (fun _=>Jd (c)) (fun hH2=>?_);clear hK K hH2;refine zW 10 (fun K hK=>?_);go_simp;refine hK.out _ _ (fun h=>absurd h dC) (fun hH2=>?_);clear hK K hH2;refine zx zK ?_ _;(try go_simp);go_wp2_with fail;go_ret;exact ⟨by rw [F.Z];exact congrArg (fun x=>Ending.returned (Value.string x)) (Xi _ [B]),c.Z⟩
theorem jW (n:Int) (w:World) (h:yK n):
 Calls prog 56 #[n] w (zR (.string ⟨(Lib.itoa n).toArray⟩) w):=by
 unfold yK at h;by_cases hn:n<0
 obtain ⟨u,rfl⟩: ∃u:Nat,n=-(u:Int):=⟨n.natAbs,om⟩
 exact zHI u w om om;obtain ⟨u,rfl⟩: ∃u:Nat,n=u:=⟨n.toNat,om⟩
 exact zHJ u w om
end
end Go.Proofs.YtlenfgdjdianiaaGreatDoor
