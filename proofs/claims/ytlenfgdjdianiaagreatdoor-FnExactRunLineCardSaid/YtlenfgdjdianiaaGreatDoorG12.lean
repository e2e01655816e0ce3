/- Facts on which this claim rests, 12. -/
import Derived.Test.YtlenfgdjdianiaaGreatDoorG5
set_option linter.all false
set_option maxHeartbeats 6400000
namespace Go.Proofs.YtlenfgdjdianiaaGreatDoor
section
open Go.RowKit Tq Go.Proofs.Tryz
variable {B G a b n : Nat} {H W : Int} {w w' : World} {xs : List Int}
theorem Df (W H:Int) (ad:Option Addr) (n cap:Nat) (xs:List Int) (w:World) (hn:xs.length=n) (ha:Rd w ad xs) (hl:n<=↑Zn):
 Calls prog 208 #[.agg #[W,H, .slice ad n cap]] w fun e w'=>e= .returned ↑(Xu W H xs)/\Below w w w':=by
 have f:=Jh hn;have t:=Jh ha;clear hn ha;by_cases hp:zT W H xs 255=true
 case neg=>
  have v:zT W H xs 255=false:=by simpa using hp
  have l:Xu W H xs=0:=by unfold Xu;rw [if_neg hp]
  rw [l];clear hp l;go_in;go_wp2_with fail;refine (xV _ _ _ _ _ xs _ f.Z (by exact t.Z.alloc _) hl).mono ?_;rintro e w1 ⟨rfl,hb⟩;have c:=Jh (nJ.trans (hb.mono sI));have j:=Jh ((Blk.new w 31 #[W,H, .slice ad n cap]).zA hb);obtain ⟨I,c0,c1,c2⟩:=j.Z.c3;clear hb;rw [v]
  go_wp2
  go_ret;exact ⟨rfl,c.Z⟩
 have l:Xu W H xs=xE xs:=by unfold Xu;rw [if_pos hp]
 rw [l];clear l;obtain ⟨y,A,hi⟩:=yu f.Z hp;obtain ⟨b1,b2,b3,M,N,P⟩:=yP y;obtain ⟨J,z,L⟩:=JF A hi y;have E:1<=n:=om;have F:n<=1024:=om;clear A hi y;go_in;go_wp2_with fail;refine (xV _ _ _ _ _ xs _ f.Z (by exact t.Z.alloc _) hl).mono ?_;rintro e w1 ⟨rfl,hb⟩;have c:=Jh (nJ.trans (hb.mono sI));have j:=Jh ((Blk.new w 31 #[W,H, .slice ad n cap]).zA hb);obtain ⟨I,c0,c1,c2⟩:=j.Z.c3;clear hb;rw [hp]
 go_wp2
 go_loop [3,12] (fun s i=> ∃k:Nat,k<=n/\i=↑k/\s=↑(xE (xs.take k))) (fun _ i=>n - (intOf i).toNat)
 exact ⟨0,nZ,rfl,rfl⟩;obtain ⟨k,hk,rfl,rfl⟩:=hrel;by_cases D:k<n
 . obtain ⟨Q,R,u,C,o⟩:=(t.Z.below c.Z).at (oh f)
   have h1:=o k (oh f);obtain ⟨U,v2⟩:=jY z.Z k (oh f);obtain ⟨T,t2⟩:=Xn (xs:=xs) z.Z k;subst u;clear o
   go_wp2
   go_round
   . exact ⟨k+1,om,by go_num,by rw [BL _ _ (oh f)]⟩
   exact Jm
 go_wp2
 go_ret;obtain rfl:k=n:=om;exact ⟨yh (by rw [Yk (oh f)]),c.Z⟩
theorem TT (W H:Int) (ad:Option Addr) (n cap:Nat) (xs:List Int) (w:World) (hn:xs.length=n) (ha:Rd w ad xs) (hl:n<=↑Zn):
 Calls prog 146 #[.agg #[W,H, .slice ad n cap]] w fun e w'=>e= .returned ↑(Xu W H xs)/\Below w w w':=by
 have f:=Jh hn;have t:=Jh ha;clear hn ha;by_cases hp:zT W H xs 255=true
 case neg=>
  have v:zT W H xs 255=false:=by simpa using hp
  have l:Xu W H xs=0:=by unfold Xu;rw [if_neg hp]
  rw [l];clear hp l;go_in;go_wp2_with fail;refine (yj _ _ _ _ _ xs _ f.Z (by exact t.Z.alloc _) hl).mono ?_;rintro e w1 ⟨rfl,hb⟩;have c:=Jh (nJ.trans (hb.mono sI));have j:=Jh ((Blk.new w 31 #[W,H, .slice ad n cap]).zA hb);obtain ⟨I,c0,c1,c2⟩:=j.Z.c3;clear hb;rw [v]
  go_wp2
  go_ret;exact ⟨rfl,c.Z⟩
 have l:Xu W H xs=xE xs:=by unfold Xu;rw [if_pos hp]
 rw [l];clear l;obtain ⟨y,A,hi⟩:=yu f.Z hp;obtain ⟨b1,b2,b3,M,N,P⟩:=yP y;obtain ⟨J,z,L⟩:=JF A hi y;have E:1<=n:=om;have F:n<=1024:=om;clear A hi y;go_in;go_wp2_with fail;refine (yj _ _ _ _ _ xs _ f.Z (by exact t.Z.alloc _) hl).mono ?_;rintro e w1 ⟨rfl,hb⟩;have c:=Jh (nJ.trans (hb.mono sI));have j:=Jh ((Blk.new w 31 #[W,H, .slice ad n cap]).zA hb);obtain ⟨I,c0,c1,c2⟩:=j.Z.c3;clear hb;rw [hp]
 go_wp2
 go_loop [3,11] (fun s i=> ∃k:Nat,k<=n/\i=↑k/\s=↑(xE (xs.take k))) (fun _ i=>n - (intOf i).toNat)
 exact ⟨0,nZ,rfl,rfl⟩;obtain ⟨k,hk,rfl,rfl⟩:=hrel;by_cases D:k<n
 . obtain ⟨Q,R,u,C,o⟩:=(t.Z.below c.Z).at (oh f)
   have h1:=o k (oh f);obtain ⟨U,v2⟩:=jY z.Z k (oh f);obtain ⟨T,t2⟩:=Xn (xs:=xs) z.Z k;subst u;clear o
   go_wp2
   go_round
   . exact ⟨k+1,om,by go_num,by rw [BL _ _ (oh f)]⟩
   exact Jm
 go_wp2
 go_ret;obtain rfl:k=n:=om;exact ⟨yh (by rw [Yk (oh f)]),c.Z⟩
theorem AP (W H:Int) (ad:Option Addr) (n cap:Nat) (xs:List Int) (v:Int) (w:World) (hn:xs.length=n) (ha:Rd w ad xs) (hl:n<=↑Zn):
 Calls prog 157 #[.agg #[W,H, .slice ad n cap],v] w fun e w'=>e= .returned ↑(VG W H xs v)/\Below w w w':=by
 have f:=Jh hn;have t:=Jh ha;clear hn ha;by_cases hp:zT W H xs 255=true
 case neg=>
  have z:zT W H xs 255=false:=by simpa using hp
  have l:VG W H xs v=0:=by unfold VG;rw [if_neg hp]
  rw [l];clear hp l;go_in;go_wp2_with fail;refine (yj _ _ _ _ _ xs _ f.Z (by exact t.Z.alloc _) hl).mono ?_;rintro e w1 ⟨rfl,hb⟩;have c:=Jh (nJ.trans (hb.mono sI));have j:=Jh ((Blk.new w 31 #[W,H, .slice ad n cap]).zA hb);obtain ⟨L,c0,c1,c2⟩:=j.Z.c3;clear hb;rw [z]
  go_wp2
  go_ret;exact ⟨rfl,c.Z⟩
 have l:VG W H xs v=(zZ v xs:Int):=by unfold VG;rw [if_pos hp]
 rw [l];clear l;obtain ⟨A,D,hi⟩:=yu f.Z hp;obtain ⟨b1,b2,b3,Q,R,T⟩:=yP A;obtain ⟨N,M,P⟩:=JF D hi A;have I:1<=n:=om;have J:n<=1024:=om;clear D hi A;go_in;go_wp2_with fail;refine (yj _ _ _ _ _ xs _ f.Z (by exact t.Z.alloc _) hl).mono ?_;rintro e w1 ⟨rfl,hb⟩;have c:=Jh (nJ.trans (hb.mono sI));have j:=Jh ((Blk.new w 31 #[W,H, .slice ad n cap]).zA hb);obtain ⟨L,c0,c1,c2⟩:=j.Z.c3;clear hb;rw [hp]
 go_wp2
 go_loop [5,13] (fun s i=> ∃k:Nat,k<=n/\i=↑k/\s=↑(zZ v (xs.take k):Int)) (fun _ i=>n - (intOf i).toNat)
 exact ⟨0,nZ,rfl,rfl⟩;obtain ⟨k,hk,rfl,rfl⟩:=hrel;by_cases F:k<n
 . obtain ⟨U,V,y,E,o⟩:=(t.Z.below c.Z).at (oh f)
   have h1:=o k (oh f);have t2:=Uk v xs k;subst y;clear o;by_cases hv:xs[k]?.getD 0=v
   . have C:(xs[k]?.getD 0==v)=true:=by simpa using hv
     have u:=Jh hv;clear hv
     go_wp2
     go_round
     . exact ⟨k+1,om,by go_num,by rw [GY _ _ _ (oh f) u.Z];go_num⟩
     exact Jm
   have C:(xs[k]?.getD 0==v)=false:=by simpa using hv
   have u:=Jh hv;clear hv
   go_wp2
   go_round
   . exact ⟨k+1,om,by go_num,by rw [MP _ _ _ (oh f) u.Z]⟩
   exact Jm
 go_wp2
 go_ret;obtain rfl:k=n:=om;exact ⟨yh (by rw [Yk (oh f)]),c.Z⟩
theorem pG (h:xM xs 1=true):xM xs 255=true:=by
 unfold xM at h⊢;rw [Yp] at h⊢;intro x c;have:=h x c;simp at this⊢;omega
theorem FB (h:zT W H xs 1=true):zT W H xs 255=true:=by
 obtain ⟨h1,h2,h3⟩:=yu rfl h;rw [KU rfl h1 h2];exact pG h3
theorem jl (W H:Int) (ad:Option Addr) (n cap:Nat) (xs:List Int) (w:World) (hn:xs.length=n) (ha:Rd w ad xs) (hl:n<=↑Zn):
 Calls prog 86 #[.agg #[W,H, .slice ad n cap]] w (zR (.bool (zT W H xs 1)) w):=by
 have i:=Jh hn;have c:=Jh ha;clear hn ha;go_in;go_wp2_with fail;refine (NK _ _ _ _ _ xs _ _ i.Z (c.Z.below nJ) hl).mono ?_;rintro e w' ⟨rfl,hb⟩;have f:=Jh hb;clear hb
 go_wp2
 go_ret;exact ⟨rfl,nJ.trans (f.Z.mono sI)⟩
theorem jg (W H:Int) (ad:Option Addr) (n cap:Nat) (xs:List Int) (w:World) (hn:xs.length=n) (ha:Rd w ad xs) (hl:n<=↑Zn):
 Calls prog 115 #[.agg #[W,H, .slice ad n cap]] w (zR (.bool (zT W H xs 1)) w):=by
 have i:=Jh hn;have l:=Jh ha;clear hn ha;by_cases hp:zT W H xs 255=true
 case neg=>
  have o:zT W H xs 255=false:=by simpa using hp
  have j:zT W H xs 1=false:=by
   cases h:zT W H xs 1 with
   | false=>rfl
   | true=>exact absurd (FB h) hp
  rw [j];clear hp j;go_in;go_wp2_with fail;refine (xV _ _ _ _ _ xs _ i.Z (by exact l.Z.alloc _) hl).mono ?_;rintro e w1 ⟨rfl,hb⟩;have c:=Jh (nJ.trans (hb.mono sI));have f:=Jh ((Blk.new w 31 #[W,H, .slice ad n cap]).zA hb);obtain ⟨A,c0,c1,c2⟩:=f.Z.c3;clear hb;rw [o]
  go_wp2
  go_ret;exact ⟨rfl,c.Z⟩
 obtain ⟨s,t,hi⟩:=yu i.Z hp;obtain ⟨b1,b2,b3,D,E,F⟩:=yP s;obtain ⟨u,C,v⟩:=JF t hi s;have y:1<=n:=om;have z:n<=1024:=om;clear t hi s;have j:zT W H xs 1=xM xs 1:=KU i.Z v.Z u.Z;rw [j];clear j;go_in;go_wp2_with fail;refine (xV _ _ _ _ _ xs _ i.Z (by exact l.Z.alloc _) hl).mono ?_;rintro e w1 ⟨rfl,hb⟩;have c:=Jh (nJ.trans (hb.mono sI));have f:=Jh ((Blk.new w 31 #[W,H, .slice ad n cap]).zA hb);obtain ⟨A,c0,c1,c2⟩:=f.Z.c3;clear hb;rw [hp];go_wp2_with fail;refine (Ul _ _ _ xs _ _ i.Z (by exact l.Z.below c.Z) hl).mono ?_;rintro e w' ⟨rfl,rfl⟩
 go_wp2
 go_ret;exact ⟨rfl,c.Z⟩
def vQ (W H:Int) (xs:List Int):Int × Int:=if zT W H xs 255=true then (xE xs/(Nat.gcd (xE xs).toNat xs.length:Nat),(xs.length:Int)/(Nat.gcd (xE xs).toNat xs.length:Nat)) else (0,0)
theorem Es (h: ¬zT W H xs 255=true):vQ W H xs=(0,0):=by unfold vQ;rw [if_neg h]
theorem Mc {S:Nat} (hn:xs.length=n) (h:zT W H xs 255=true) (e:xE xs=(S:Int)) (c:Nat.gcd S n=G):vQ W H xs=((S:Int)/(G:Int),(n:Int)/(G:Int)):=by
 unfold vQ;rw [if_pos h,hn,e];simp [c]
theorem iE (hb:b≠0):Nat.gcd b (a % b)=Nat.gcd a b:=by rw [Nat.gcd_comm b,<-Nat.gcd_rec,Nat.gcd_comm]
theorem OH (a b:Nat):((a % b:Nat):Int)=(a:Int) % (b:Int):=sI
theorem dL (a b:Nat) (w:World) (ha:a<=1000000) (hb:b<=1000000):
 Calls prog 147 #[a,b] w fun e w'=>e= .returned ↑(Nat.gcd a b:Nat)/\ ∃q,w'=w.drewN q:=by
 go_in
 go_wp2
 go_loopw [0,1] (fun x y wr=> ∃f c:Nat,f<=1000000/\c<=1000000/\x=↑f/\y=↑c/\Hd (Nat.gcd f c=Nat.gcd a b)/\ ∃q,wr=w.drewN q) (fun _ y _=>(intOf y).toNat)
 exact ⟨a,b,ha,hb,rfl,rfl,Jh rfl,0,rfl⟩;obtain ⟨f,c,t,j,rfl,rfl,l,q,rfl⟩:=hrel;by_cases i:c=0
 . subst i
   go_wp2
   go_ret;exact ⟨yh (by have:=l.Z;rw [Nat.gcd_zero_right] at this;rw [this]),q,rfl⟩
 have h1:((c:Int) !=0)=true:=by simpa using i
 have h2:((c:Int)==0)=false:=by simpa using i
 have h3: ¬(c:Int)=0:=om;have s:=Jh (iE (a:=f) i);have u:=Nat.mod_lt f (show 0<c by omega);have o:=Jh (OH f c);have v:0<=(f:Int) % (c:Int):=Yg _ om;have z:(f:Int) % (c:Int)<c:=Ye _ om;clear i
 go_wp2
 go_roundw;exact ⟨c,f % c,j,om,rfl,by rw [o.Z],Jh (by rw [s.Z];exact l.Z),q,rfl⟩;exact Jm
theorem QS (a b:Nat) (w:World) (ha:a<=1000000) (hb:b<=1000000):
 Calls prog 209 #[a,b] w fun e w'=>e= .returned ↑(Nat.gcd a b:Nat)/\ ∃q,w'=w.drewN q:=by
 go_in
 go_wp2
 go_loopw [0,1] (fun x y wr=> ∃f c:Nat,f<=1000000/\c<=1000000/\x=↑f/\y=↑c/\Hd (Nat.gcd f c=Nat.gcd a b)/\ ∃q,wr=w.drewN q) (fun _ y _=>(intOf y).toNat)
 exact ⟨a,b,ha,hb,rfl,rfl,Jh rfl,0,rfl⟩;obtain ⟨f,c,t,l,rfl,rfl,o,q,rfl⟩:=hrel;by_cases i:c=0
 . subst i
   go_wp2
   go_ret;exact ⟨yh (by have:=o.Z;rw [Nat.gcd_zero_right] at this;rw [this]),q,rfl⟩
 have h1:((c:Int) !=0)=true:=by simpa using i
 have h2:((c:Int)==0)=false:=by simpa using i
 have h3: ¬(c:Int)=0:=om;have s:=Jh (iE (a:=f) i);have u:=Nat.mod_lt f (show 0<c by omega);obtain ⟨M,j⟩: ∃M:Nat,f % c=M:=⟨_,rfl⟩
 rw [j] at u s;have v:(f:Int).tmod (c:Int)=(M:Int):=by rw [Yl om,<-OH,j]
 have t2:IntKind.i64.wrap (M:Int)=(M:Int):=Yc _ om;clear i j;go_wp2_with fail
 go_quiet (fail)
 clear v t2
 go_wp2
 go_roundw;exact ⟨c,M,l,om,rfl,rfl,Jh (by rw [s.Z];exact o.Z),by first | exact GJ _ _ | exact GK _ _ _⟩;exact Jm
theorem aD (hn:xs.length=n) (h:xM xs 255=true) (c:n<=1024): ∃S:Nat,xE xs=(S:Int)/\S<=261120:=by
 have:=Xn h n;rw [Yk om] at this;exact ⟨(xE xs).toNat,om,om⟩
theorem MH {S:Nat} (hn:1<=n) (e:Nat.gcd S n=G) (c:n<=1024):1<=G/\G<=1024:=by
 have h1:=Nat.gcd_pos_of_pos_right S (show 0<n by omega);have h2:=Nat.gcd_le_right S (show 0<n by omega);omega
theorem Rh (h:zT W H xs 255=true):Xu W H xs=xE xs:=by unfold Xu;rw [if_pos h]
theorem Vv {S:Nat} (f:1<=G) (i:S<=261120): ∃A:Nat,(S:Int)/(G:Int)=A/\(S:Int).tdiv (G:Int)=A/\IntKind.i64.wrap (A:Int)=A/\A<=261120:=by
 have h:=Nat.div_le_self S G;have e:(S:Int)/(G:Int)=((S/G:Nat):Int):=sI;obtain ⟨A,c⟩: ∃A,S/G=A:=⟨_,rfl⟩
 rw [c] at h e;exact ⟨A,e,by rw [Yt om,e],Yc _ om,om⟩
theorem Zh (h:Below B w w') (n:Nat):Below B w (w'.drewN n):=⟨h.os,h.tape,h.output,h.size,h.block⟩
theorem TQ (W H:Int) (ad:Option Addr) (n cap:Nat) (xs:List Int) (w:World) (hn:xs.length=n) (ha:Rd w ad xs) (hl:n<=↑Zn):
 Calls prog 96 #[.agg #[W,H, .slice ad n cap]] w (zR (.tuple #[(vQ W H xs).1,(vQ W H xs).2]) w):=by
 have i:=Jh hn;have F:=Jh ha;clear hn ha;by_cases hp:zT W H xs 255=true
 case neg=>
  rw [Es hp];have T:zT W H xs 255=false:=by simpa using hp
  clear hp;go_in;go_wp2_with fail;refine (yj _ _ _ _ _ xs _ i.Z (by exact F.Z.alloc _) hl).mono ?_;rintro e w1 ⟨rfl,hb⟩;have c:=Jh (nJ.trans (hb.mono sI));have f:=Jh ((Blk.new w 31 #[W,H, .slice ad n cap]).zA hb);obtain ⟨V,c0,c1,c2⟩:=f.Z.c3;clear hb;rw [T]
  go_wp2
  go_ret2;exact ⟨rfl,c.Z⟩
 obtain ⟨U,X,hi⟩:=yu i.Z hp;obtain ⟨b1,b2,b3,b4,b5,b6⟩:=yP U;obtain ⟨HQ,HI,HS⟩:=JF X hi U;have R:1<=n:=om;have D:n<=1024:=om;clear X hi U;obtain ⟨S,P,Q⟩:=aD i.Z HI.Z D;obtain ⟨G,E⟩: ∃G,Nat.gcd S n=G:=⟨_,rfl⟩
 obtain ⟨g1,g2⟩:=MH R E D;obtain ⟨A,t,u,v,b0⟩:=Vv g1 Q;obtain ⟨B,y,z,C,b7⟩:=Vv (S:=n) g1 om;rw [Mc i.Z hp P E];have z1: ¬(G:Int)=0:=om;have z2:((G:Int)==0)=false:=sO;obtain ⟨HP,M,Y,I,J⟩:=JI hp P E t u;obtain ⟨L,l,o,s⟩:=JG v y z C;clear P E t u v y z C;go_in;go_wp2_with fail;refine (yj _ _ _ _ _ xs _ i.Z (by exact F.Z.alloc _) hl).mono ?_;rintro e w1 ⟨rfl,hb⟩;have c:=Jh (nJ.trans (hb.mono sI));have f:=Jh ((Blk.new w 31 #[W,H, .slice ad n cap]).zA hb);obtain ⟨V,c0,c1,c2⟩:=f.Z.c3;clear hb;rw [hp];clear hp;go_wp2_with fail;refine (TT _ _ _ _ _ xs _ i.Z (by exact F.Z.below c.Z) hl).mono ?_;rw [Rh HP.Z,M.Z];rintro e w2 ⟨rfl,hb⟩;have j:=Jh (zL c.Z hb);have N:=Jh (f.Z.zA hb);clear hb V c0 c1 c2;obtain ⟨V,c0,c1,c2⟩:=N.Z.c3;go_wp2_with fail;refine (dL S n _ om om).mono ?_;rw [Y.Z];rintro e w3 ⟨rfl,q,rfl⟩;have a2:=J.Z;have a3:=L.Z;have b2:=o.Z;have b3:=s.Z;go_wp2_with fail
 go_quiet (fail)
 clear a2 a3 b2 b3
 go_wp2
 go_ret2;exact ⟨by rw [I.Z,l.Z];rfl,by first | exact Zh j.Z _ | exact Zh (Zh j.Z _) _⟩
theorem Sd (W H:Int) (ad:Option Addr) (n cap:Nat) (xs:List Int) (w:World) (hn:xs.length=n) (ha:Rd w ad xs) (hl:n<=↑Zn):
 Calls prog 171 #[.agg #[W,H, .slice ad n cap]] w (zR (.tuple #[(vQ W H xs).1,(vQ W H xs).2]) w):=by
 have i:=Jh hn;have J:=Jh ha;clear hn ha;by_cases hp:zT W H xs 255=true
 case neg=>
  rw [Es hp];have U:zT W H xs 255=false:=by simpa using hp
  clear hp;go_in;go_wp2_with fail;refine (xV _ _ _ _ _ xs _ i.Z (by exact J.Z.alloc _) hl).mono ?_;rintro e w1 ⟨rfl,hb⟩;have c:=Jh (nJ.trans (hb.mono sI));have f:=Jh ((Blk.new w 31 #[W,H, .slice ad n cap]).zA hb);obtain ⟨F,c0,c1,c2⟩:=f.Z.c3;clear hb;rw [U]
  go_wp2
  go_ret2;exact ⟨rfl,c.Z⟩
 obtain ⟨V,X,hi⟩:=yu i.Z hp;obtain ⟨b1,b2,b3,b4,b5,b6⟩:=yP V;obtain ⟨HQ,HI,HS⟩:=JF X hi V;have T:1<=n:=om;have E:n<=1024:=om;clear X hi V;obtain ⟨S,Q,R⟩:=aD i.Z HI.Z E;obtain ⟨G,I⟩: ∃G,Nat.gcd S n=G:=⟨_,rfl⟩
 obtain ⟨g1,g2⟩:=MH T I E;obtain ⟨A,t,u,y,b0⟩:=Vv g1 R;obtain ⟨B,z,C,D,b7⟩:=Vv (S:=n) g1 om;rw [Mc i.Z hp Q I];have z1: ¬(G:Int)=0:=om;have z2:((G:Int)==0)=false:=sO;obtain ⟨HP,P,Y,L,M⟩:=JI hp Q I t u;obtain ⟨N,l,o,s⟩:=JG y z C D;clear Q I t u y z C D;go_in;go_wp2_with fail;refine (xV _ _ _ _ _ xs _ i.Z (by exact J.Z.alloc _) hl).mono ?_;rintro e w1 ⟨rfl,hb⟩;have c:=Jh (nJ.trans (hb.mono sI));have f:=Jh ((Blk.new w 31 #[W,H, .slice ad n cap]).zA hb);obtain ⟨F,c0,c1,c2⟩:=f.Z.c3;clear hb;rw [hp];clear hp
 go_wp2
 go_region_held3 (fun v=>JA v w W H (.slice ad n cap))
  (first | exact ⟨c0,c1,c2⟩ | exact ⟨(hb.cell F).trans c0,(hb.cell F).trans c1,(hb.cell F).trans c2⟩)
  (first
   | (go_at_call 208;((with_reducible refine (Df _ _ _ _ _ xs _ i.Z (by exact (J.Z.below c.Z).of_heap rfl) hl).mono ?_);rw [Rh HP.Z,P.Z];rintro e v1 ⟨rfl,hb⟩)))
 have j:=Jh (zL c.Z.drew hb);clear hb F c0 c1 c2;go_wp2_with fail;refine (QS S n _ om om).mono ?_;rw [Y.Z];rintro e w3 ⟨rfl,q,rfl⟩;have a2:=M.Z;have a3:=N.Z;have b2:=o.Z;have b3:=s.Z;go_wp2_with fail
 go_quiet (fail)
 clear a2 a3 b2 b3
 go_wp2
 go_ret2;exact ⟨by rw [L.Z,l.Z];rfl,by first | exact Zh j.Z _ | exact Zh (Zh j.Z _) _⟩
end
section
variable {k : Nat} {n x : Int} {rs xs : List Int}
open Tq Go.Proofs.Tryz
def Kt (c:Int):List Int->List Int
 | []=> []
 | n::r=>List.replicate n.toNat c++Kt (1 - c) r
def uI (c:Int) (j:Nat):Int:=if j % 2=0 then c else 1 - c
theorem Ah (c:Int) (j:Nat):uI c (j+1)=uI (1 - c) j:=by
 unfold uI;by_cases h:j % 2=0
 rw [if_neg om,if_pos h];rw [if_pos om,if_neg h];omega
theorem Qn (c:Int) (r:List Int) (m:Int):Kt c (r++ [m])=Kt c r++List.replicate m.toNat (uI c r.length):=by
 induction r generalizing c with
 | nil=>simp [Kt,uI]
 | cons n r e=>
  simp only [List.cons_append,Kt,e,List.length_cons,Ah,List.append_assoc]
def qA:List Int->Bool
 | []=>false
 | n::r=>decide (0<=n) && r.all (fun v=>decide (1<=v))
theorem NM {r:List Int} (h: ∀v,v ∈ r->0<=v) (c:Int):((Kt c r).length:Int)=xE r:=by
 induction r generalizing c with
 | nil=>rfl
 | cons n r e=>
  have:=h n sI;simp only [Kt,Yn,List.length_replicate,xE];push_cast;rw [e (fun v hv=>h v (by simp [hv]))];omega
theorem Dt {r:List Int} (h:qA (n::r)=true):0<=n/\ ∀v,v ∈ r->1<=v:=by
 unfold qA at h;simp only [Bool.and_eq_true,decide_eq_true_eq,Yp] at h;exact h
def yw (xs:List Int):Nat->List Int
 | 0=> [0]
 | k+1=>if xs.getD k 0=uI 0 ((yw xs k).length - 1) then (yw xs k).set ((yw xs k).length - 1) ((yw xs k).getD ((yw xs k).length - 1) 0+1) else yw xs k++ [1]
def Jq (xs:List Int):List Int:=yw xs xs.length
theorem TM {r:List Int} (h:qA r=true):qA (r++ [1])=true:=by
 cases r with
 | nil=>cases h
 | cons n r=>
  unfold qA at h⊢;simp only [List.cons_append,Bool.and_eq_true,decide_eq_true_eq,List.all_append] at h⊢;exact ⟨h.1,h.2,sI⟩
theorem TJ {r:List Int} (h:qA (r++ [x])=true):qA (r++ [x+1])=true:=by
 cases r with
 | nil=>
  unfold qA at h⊢;simp only [List.nil_append,Bool.and_eq_true,decide_eq_true_eq,List.all_nil] at h⊢;exact ⟨om,trivial⟩
 | cons n r=>
  unfold qA at h⊢;simp only [List.cons_append,Bool.and_eq_true,decide_eq_true_eq,List.all_append,List.all_cons,List.all_nil,Bool.and_true] at h⊢;exact ⟨h.1,h.2.1,om⟩
theorem Hr (j: ∀k,k<xs.length->xs.getD k 0=0\/xs.getD k 0=1) (k:Nat) (hk:k<=xs.length):qA (yw xs k)=true/\Kt 0 (yw xs k)=xs.take k/\(yw xs k).length<=k+1/\1<=(yw xs k).length:=by
 induction k with
 | zero=>exact ⟨by simp [yw,qA],by simp [yw,Kt],by simp [yw],by simp [yw]⟩
 | succ k o=>
  obtain ⟨h1,h2,h3,h4⟩:=o om
  have f:xs.take (k+1)=xs.take k++ [xs.getD k 0]:=by
   rw [Ym om];simp [List.getD,Ya (show k<xs.length by omega)]
  obtain ⟨r,x,hr⟩: ∃r x,yw xs k=r++ [x]:=by
   refine ⟨(yw xs k).dropLast,(yw xs k).getLast (by intro e;rw [e] at h4;simp at h4),?_⟩;rw [List.dropLast_concat_getLast]
  unfold yw;rw [hr] at h1 h2 h3⊢
  have l:0<=x:=by
   cases r with
   | nil=>unfold qA at h1;simp at h1;exact h1
   | cons n r=>
    have:=(Dt (n:=n) (r:=r++ [x]) (by simpa using h1)).2 x sI;omega
  simp only [Yn,List.length_cons,List.length_nil,Nat.zero_add,Nat.add_sub_cancel] at h3⊢;by_cases e:xs.getD k 0=uI 0 r.length
  rw [if_pos e];have hg:(r++ [x]).getD r.length 0=x:=by simp [List.getD]
  have i:(r++ [x]).set r.length ((r++ [x]).getD r.length 0+1)=r++ [x+1]:=by
   rw [hg,List.set_append];simp
  rw [i];refine ⟨TJ h1,?_,sO,sI⟩;rw [Qn,f,<-h2,Qn,List.append_assoc,e,show (x+1).toNat=x.toNat+1 by omega,List.replicate_succ'];rw [if_neg e];refine ⟨TM h1,?_,sO,sI⟩;rw [Qn,h2,f];congr 1
  have hc:uI 0 (r++ [x]).length=xs.getD k 0:=by
   rw [Yn,List.length_singleton,Ah];unfold uI at e⊢;have s:=j k om;by_cases c:r.length % 2=0
   rw [if_pos c] at e⊢;omega;rw [if_neg c] at e⊢;omega
  rw [hc];rfl
theorem zAg (c: ∀k,k<xs.length->xs.getD k 0=0\/xs.getD k 0=1):qA (Jq xs)=true/\Kt 0 (Jq xs)=xs:=by
 obtain ⟨h1,h2,_⟩:=Hr c xs.length nI;exact ⟨h1,by unfold Jq;rw [h2,List.take_length]⟩
def bJ (rs:List Int):Prop:= ∀v,v ∈ rs->0<=v
theorem nP (h:qA rs=true):bJ rs:=by
 cases rs with
 | nil=>cases h
 | cons n r=>
  obtain ⟨c,h1⟩:=Dt h;intro v hv;rcases List.mem_cons.1 hv with e | e
  omega;have:=h1 v e;omega
theorem zCB (h:bJ rs):0<=xE rs:=by
 induction rs with
 | nil=>exact Int.le_refl _
 | cons n r c=>
  have:=h n sI;have:=c (fun v hv=>h v (by simp [hv]));unfold xE;omega
theorem sM (h:k<rs.length):rs.getD k 0 ∈ rs:=by
 simp [List.getD,Ya h]
end
section
open Go.RowKit Tq Go.Proofs.Tryz
variable {B cap cap2 cp g k m n q : Nat} {O : Obj} {ad ad2 : Option Addr} {rs xs : List Int} {w w1 w5 wr : World}
def Nz (w:World) (xs:List Int) (e:Ending) (w':World):Prop:= ∃a n c,e= .returned (.slice a n c)/\OwnA w' w a n c xs/\n<=1048576/\Below w w w'
def vo (W H:Int) (xs:List Int):List Int:=if zT W H xs 1=true then Jq xs else []
theorem zAL (h:OwnA w B ad n cap xs) (hn:1<=n): ∃g,ad=some ⟨g,0,none⟩/\B<=g/\Own w g n cap xs:=by
 rcases h with ⟨_,c,_⟩ | h
 omega;exact h
theorem OZ (h:bJ rs): ∀ {q:Nat},q<rs.length->rs.getD q 0<=xE rs:=by
 induction rs with
 | nil=>intro q c;simp at c
 | cons a r e=>
  intro q c;have f:=h a sI;have hr:=zCB (rs:=r) (fun v hv=>h v (by simp [hv]));cases q with
  | zero=>simp [xE];omega
  | succ q=>
   have:=e (fun v hv=>h v (by simp [hv])) (q:=q) (by simpa using c);simp only [List.getD,List.getElem?_cons_succ,xE] at this⊢;omega
theorem OY (hn:xs.length=n) (h:xM xs 1=true): ∀k,k<xs.length->xs.getD k 0=0\/xs.getD k 0=1:=fun k hk=>by
 have:=jY h k hk;simp only [Yh];omega
theorem NA (f: ∀k,k<xs.length->xs.getD k 0=0\/xs.getD k 0=1) (hk:k<=xs.length) (c:q<(yw xs k).length):0<=(yw xs k).getD q 0/\(yw xs k).getD q 0<=k:=by
 obtain ⟨h1,h2,_⟩:=Hr f k hk;have hn:=nP h1;have e:=NM hn 0;rw [h2,Yj] at e;have:=OZ hn c;exact ⟨hn _ (sM c),om⟩
theorem Ls (q:Nat):uI 0 (q+1)=1 - uI 0 q:=by
 rw [Ah];unfold uI;split <;>omega
theorem WQ (q:Nat):0<=uI 0 q/\uI 0 q<=1:=by
 unfold uI;split <;>omega
theorem Du (hl:(yw xs k).length=q+1) (h:xs.getD k 0=uI 0 q):yw xs (k+1)=(yw xs k).set q ((yw xs k).getD q 0+1):=by
 show (if xs.getD k 0=uI 0 ((yw xs k).length - 1) then (yw xs k).set ((yw xs k).length - 1) ((yw xs k).getD ((yw xs k).length - 1) 0+1) else yw xs k++ [1])=_;rw [hl,Nat.add_sub_cancel,if_pos h]
theorem Dv (hl:(yw xs k).length=q+1) (h: ¬xs.getD k 0=uI 0 q):yw xs (k+1)=(yw xs k++ [0]).set (q+1) 1:=by
 show (if xs.getD k 0=uI 0 ((yw xs k).length - 1) then (yw xs k).set ((yw xs k).length - 1) ((yw xs k).getD ((yw xs k).length - 1) 0+1) else yw xs k++ [1])=_;rw [hl,Nat.add_sub_cancel,if_neg h,List.set_append];simp [hl]
theorem rF {r:List Int} (h:r.length=m) (v:Int):(r++ [v]).getD m 0=v:=by
 subst h;simp [List.getD]
theorem Nf (q:Nat) (w:World) (c:q<=1048576):
 Calls prog 207 #[q] w fun e w'=>e= .returned ↑(uI 0 q)/\w=w':=by
 have e:(q:Int) % 2=uI 0 q:=by
  unfold uI;split <;>omega
 have E:=Jh e;clear e;go_in
 go_wp2
 go_ret;exact ⟨yh E.Z,rfl⟩
theorem Ws (w:World) (v:Int):Own (w.alloc (.cells #[v] 3)) w 1 1 [v]:=
 JX.own (M:=#[v]) ⟨rfl,by unfold maxLen;simp,rfl,rfl⟩ w
theorem CIX (q:Nat):(∀w:World,q<=1048576->Calls prog 207 #[q] w fun e w'=>e= .returned ↑(uI 0 q)/\w=w'):=fun w h=>Nf q w h
theorem Mx {r:List Int} (hw:Below w1 w1 wr) (i:Own wr g (q+1) cp r) (hg:w1.heap.size<=g) (f:OwnA w5 w1 ad2 (q+1+1) cap2 (r++ [0])) (e:(wr.alloc O).grownBy w5 (zO ↑g)):
 ∃c,ad2=some ⟨c,0,none⟩/\w1.heap.size<=c/\Own w5 c (q+1+1) cap2 (r++ [0])/\Below w1 w1 w5/\w5.cell? ⟨c,q+1,none⟩=some ↑Z0/\w5.frozen? ⟨c,q+1,none⟩=false:=by
 obtain ⟨c,rfl,h1,h2⟩:=zAL f om;refine ⟨c,rfl,h1,h2,(hw.alloc hw.size O).grown e (oS hw.size) (fun k hk=>by simp only [zO,Option.some.injEq] at hk;omega),?_,h2.frozen _⟩;rw [h2.cell om,rF i.len]
theorem TS (W H:Int) (ad:Option Addr) (n cap:Nat) (xs:List Int) (w:World) (hn:xs.length=n) (ha:Rd w ad xs) (hl:n<=↑Zn):
 Calls prog 95 #[.agg #[W,H, .slice ad n cap]] w (Nz w (vo W H xs)):=by
 have u:=Jh hn;have R:=Jh ha;clear hn ha;by_cases hp:zT W H xs 1=true
 case neg=>
  have d1:zT W H xs 1=false:=by simpa using hp
  have L:vo W H xs=[]:=by unfold vo;rw [if_neg hp]
  rw [L];clear hp L;go_in;go_wp2_with fail;refine (jl _ _ _ _ _ xs _ u.Z (by exact R.Z.alloc _) hl).mono ?_;rintro e w1 ⟨rfl,hb⟩;have o:=Jh (nJ.trans (hb.mono sI));clear hb;rw [d1]
  go_wp2
  go_ret;exact ⟨none,0,0,rfl,oN,om,o.Z⟩
 have L:vo W H xs=yw xs n:=by unfold vo;rw [if_pos hp];unfold Jq;rw [u.Z]
 rw [L];clear L;obtain ⟨hs,hq,hi⟩:=yu u.Z hp;obtain ⟨b1,b2,b3,b4,b5,b6⟩:=yP hs;obtain ⟨HQ,HI,F⟩:=JF hq hi hs;have d4:1<=n:=om;have d5:n<=1024:=om;clear hq hi hs;have HX:=Jh (OY u.Z HI.Z);go_in;go_wp2_with fail;refine (jl _ _ _ _ _ xs _ u.Z (by exact R.Z.alloc _) hl).mono ?_;rintro e w1 ⟨rfl,hb⟩;have o:=Jh (nJ.trans (hb.mono sI));have c5:=Jh ((Blk.new w 31 #[W,H, .slice ad n cap]).zA hb);obtain ⟨l1,c0,c1,c2⟩:=c5.Z.c3;have T:=Jh (R.Z.below o.Z);clear hb;rw [hp];go_wp2_with fail;clear c0 c1 c2 l1
 go_loopw [3,4,15] (fun s c i wr=> ∃(k q g cp:Nat),k<=n/\q<=k/\s= .slice ↑g (q+1) cp/\c=↑(uI 0 q)/\i=↑k/\w1.heap.size<=g/\Hd (Own wr g (q+1) cp (yw xs k))/\Hd (Below w1 w1 wr)) (fun _ _ i _=>n - (intOf i).toNat)
 exact ⟨0,0,w1.heap.size,1,nZ,nZ,rfl,rfl,rfl,nI,Jh (Ws w1 0),Jh nJ⟩;obtain ⟨k,q,g,cp,hk,d6,rfl,rfl,rfl,t,y,D⟩:=hrel;have U:=Jh (T.Z.below D.Z);by_cases d3:k<n
 . obtain ⟨ba,oa,c8,d2,M⟩:=U.Z.at (oh u)
   have h1:=M k (oh u);subst c8;have hv:=HX.Z k (oh u);obtain ⟨x0,x1⟩:=NA HX.Z (k:=k) (q:=q) (oh u) (og y.Z.len);have CI:=Jh (CIX q);have d0:=WQ q;have z:=Ls q;have f:=Du (xs:=xs) (k:=k) (q:=q) y.Z.len;have l:=Dv (xs:=xs) (k:=k) (q:=q) y.Z.len;obtain ⟨v,hV⟩: ∃v,xs.getD k 0=v:=⟨_,rfl⟩
   rw [hV] at h1 hv f l;obtain ⟨C,Q⟩: ∃C,uI 0 q=C:=⟨_,rfl⟩
   rw [Q] at d0 z f l CI;(try rw [Q]);have HC:=Jh Q;have HV:=Jh hV;clear M hV Q;have v0:0<=v:=om;have v1:v<=1:=om;by_cases he:v=C
   . have F:=Jh (f he)
     subst he;clear f l z;have g2:=y.Z.cell (j:=q) om;have g3:=y.Z.frozen q;obtain ⟨X,hX⟩: ∃X,(yw xs k).getD q 0=X:=⟨_,rfl⟩
     rw [hX] at g2 x0 x1 F;have I:=Jh (y.Z.set q (X+1));clear hX;have nb:(v !=v)=false:=sI
     go_wp2
     go_roundw
     . exact ⟨k+1,q,g,cp,om,om,rfl,by rw [HC.Z],by go_num,t,Jh (by rw [F.Z];first | exact I.Z | exact I.Z.drewN _),Jh (by first | exact D.Z.setCell t _ | exact (D.Z.setCell t _).drewN _)⟩
     exact Jm
   have F:=Jh (l he);have Y:Hd (uI 0 (q+1)=v):=Jh (by rw [z];omega);have nb:(v !=C)=true:=by simpa using he
   clear f l z he;go_wp2_with (at_builtin;refine qQ _ rfl (.tmp 23) (.tmp 24) rfl w1 (q+1) cp _ (yw xs k) rfl ((OwnA.mk y.Z t).alloc _) wr.heap.size 0 rfl (by go_simp) om (oS D.Z.size) ?_;intro ad2 cap2 w5 P N;have c4:=Jh (Mx D.Z y.Z t P N);obtain ⟨g5,rfl,A,b7,b8,h2,h3⟩:=c4.Z);have E:=Jh (b7.set (q+1) 1);have J:=Jh (b8.setCell (show w1.heap.size<=(Addr.mk g5 (q+1) none).block from A) ↑Z1);clear P N;go_roundw
   . exact ⟨k+1,q+1,g5,cap2,om,om,rfl,by rw [Y.Z],by go_num,A,Jh (by rw [F.Z];first | exact E.Z | exact E.Z.drewN _),Jh (by first | exact J.Z | exact J.Z.drewN _)⟩
   exact Jm
 obtain rfl:k=n:=om;have V:=Jh (zL o.Z D.Z);have b0:Hd (w.heap.size<=g):=Jh (og o.Z.size)
 go_wp2
 go_ret;exact ⟨_,_,_,rfl,OwnA.mk y.Z b0.Z,om,V.Z⟩
theorem Sg (W H:Int) (ad:Option Addr) (n cap:Nat) (xs:List Int) (w:World) (hn:xs.length=n) (ha:Rd w ad xs) (hl:n<=↑Zn):
 Calls prog 170 #[.agg #[W,H, .slice ad n cap]] w (Nz w (vo W H xs)):=by
 have t:=Jh hn;have R:=Jh ha;clear hn ha;by_cases hp:zT W H xs 1=true
 case neg=>
  have d0:zT W H xs 1=false:=by simpa using hp
  have J:vo W H xs=[]:=by unfold vo;rw [if_neg hp]
  rw [J];clear hp J;go_in;go_wp2_with fail;refine (jg _ _ _ _ _ xs _ t.Z (by exact R.Z.alloc _) hl).mono ?_;rintro e w1 ⟨rfl,hb⟩;have l:=Jh (nJ.trans (hb.mono sI));clear hb;rw [d0]
  go_wp2
  go_ret;exact ⟨none,0,0,rfl,oN,om,l.Z⟩
 have J:vo W H xs=yw xs n:=by unfold vo;rw [if_pos hp];unfold Jq;rw [t.Z]
 rw [J];clear J;obtain ⟨hs,hq,hi⟩:=yu t.Z hp;obtain ⟨b1,b2,b3,b4,b5,b6⟩:=yP hs;obtain ⟨HQ,HI,E⟩:=JF hq hi hs;have d4:1<=n:=om;have d5:n<=1024:=om;clear hq hi hs;have HX:=Jh (OY t.Z HI.Z);go_in;go_wp2_with fail;refine (jg _ _ _ _ _ xs _ t.Z (by exact R.Z.alloc _) hl).mono ?_;rintro e w1 ⟨rfl,hb⟩;have l:=Jh (nJ.trans (hb.mono sI));have c4:=Jh ((Blk.new w 31 #[W,H, .slice ad n cap]).zA hb);obtain ⟨l1,c0,c1,c2⟩:=c4.Z.c3;have T:=Jh (R.Z.below l.Z);clear hb;rw [hp];go_wp2_with fail;clear c0 c1 c2 l1
 go_loopw [3,13] (fun s i wr=> ∃(k q g cp:Nat),k<=n/\q<=k/\s= .slice ↑g (q+1) cp/\i=↑k/\w1.heap.size<=g/\Hd (Own wr g (q+1) cp (yw xs k))/\Hd (Below w1 w1 wr)) (fun _ i _=>n - (intOf i).toNat)
 exact ⟨0,0,w1.heap.size,1,nZ,nZ,rfl,rfl,nI,Jh (Ws w1 0),Jh nJ⟩;obtain ⟨k,q,g,cp,hk,d6,rfl,rfl,o,u,A⟩:=hrel;have U:=Jh (T.Z.below A.Z);by_cases d3:k<n
 . obtain ⟨ba,oa,c5,d2,L⟩:=U.Z.at (oh t)
   have h1:=L k (oh t);subst c5;have hv:=HX.Z k (oh t);obtain ⟨x0,x1⟩:=NA HX.Z (k:=k) (q:=q) (oh t) (og u.Z.len);have Q:=Jh (CIX q);have c8:=WQ q;have y:=Ls q;have c:=Du (xs:=xs) (k:=k) (q:=q) u.Z.len;have f:=Dv (xs:=xs) (k:=k) (q:=q) u.Z.len;obtain ⟨v,hV⟩: ∃v,xs.getD k 0=v:=⟨_,rfl⟩
   rw [hV] at h1 hv c f;obtain ⟨C,P⟩: ∃C,uI 0 q=C:=⟨_,rfl⟩
   rw [P] at c8 y c f Q;(try rw [P]);have HC:=Jh P;have HV:=Jh hV;clear L hV P;have v0:0<=v:=om;have v1:v<=1:=om;by_cases he:v=C
   . have E:=Jh (c he)
     subst he;clear c f y;have g2:=u.Z.cell (j:=q) om;have g3:=u.Z.frozen q;obtain ⟨X,hX⟩: ∃X,(yw xs k).getD q 0=X:=⟨_,rfl⟩
     rw [hX] at g2 x0 x1 E;have F:=Jh (u.Z.set q (X+1));clear hX;have nb:(v !=v)=false:=sI;go_wp2_with fail;refine (Q.Z _ om).mono ?_;rintro e w5 ⟨rfl,rfl⟩
     go_wp2
     go_roundw
     . exact ⟨k+1,q,g,cp,om,om,rfl,by go_num,o,Jh (by rw [E.Z];first | exact F.Z | exact F.Z.drewN _),Jh (by first | exact A.Z.setCell o _ | exact (A.Z.setCell o _).drewN _)⟩
     exact Jm
   have E:=Jh (f he);have d1:Hd (uI 0 (q+1)=v):=Jh (by rw [y];omega);have nb:(v !=C)=true:=by simpa using he
   clear c f y he;go_wp2_with fail;refine (Q.Z _ om).mono ?_;rintro e w5 ⟨rfl,rfl⟩;go_wp2_with (at_builtin;refine qQ _ rfl (.tmp 23) (.tmp 24) rfl w1 (q+1) cp _ (yw xs k) rfl ((OwnA.mk u.Z o).alloc _) wr.heap.size 0 rfl (by go_simp) om (oS A.Z.size) ?_;intro ad2 cap2 w5 N M;have b8:=Jh (Mx A.Z u.Z o N M);obtain ⟨g5,rfl,z,b0,b7,h2,h3⟩:=b8.Z);have D:=Jh (b0.set (q+1) 1);have I:=Jh (b7.setCell (show w1.heap.size<=(Addr.mk g5 (q+1) none).block from z) ↑Z1);clear N M;go_roundw
   . exact ⟨k+1,q+1,g5,cap2,om,om,rfl,by go_num,z,Jh (by rw [E.Z];first | exact D.Z | exact D.Z.drewN _),Jh (by first | exact I.Z | exact I.Z.drewN _)⟩
   exact Jm
 obtain rfl:k=n:=om;have V:=Jh (zL l.Z A.Z);have Y:Hd (w.heap.size<=g):=Jh (og l.Z.size)
 go_wp2
 go_ret;exact ⟨_,_,_,rfl,OwnA.mk u.Z Y.Z,om,V.Z⟩
end
end Go.Proofs.YtlenfgdjdianiaaGreatDoor
