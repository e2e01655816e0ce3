/- Facts on which this claim rests, 24. -/
import Derived.Test.YtlenfgdjdianiaaGreatDoorF23
set_option linter.all false
set_option maxHeartbeats 6400000
namespace Go.Proofs.YtlenfgdjdianiaaGreatDoor
section
open Go.RowKit Tq Go.Proofs.Tryz
variable {A B K a b g k m n q u x y : Int} {T : Nat} {w w' : World}
theorem Blk.c2 {g:Nat} {a b:Value} (h:Blk w g T #[a,b]):g<w.heap.size/\Jc w g a/\Jc w (g,1) b:=
 ⟨h.lt,by rw [h.cell];rfl,by rw [h.cell];rfl⟩
theorem Qr (h: ¬(1<=A/\A<=12/\0<=B/\B<=12)):uP A B=false:=by
 unfold uP;by_cases h1:1<=A <;>by_cases h2:A<=12 <;>by_cases h3:0<=B <;>by_cases h4:B<=12 <;>simp [h1,h2,h3,h4]
 omega
theorem Vo (h1:1<=A) (h2:A<=12) (h3:0<=B) (h4:B<=12):uP A B=true:=by unfold uP;simp [h1,h2,h3,h4]
theorem in5 (x a b:Int) (w:World):
 Calls prog 57 #[x,a,b] w fun e w'=>e= .returned (.bool (decide (a<=x/\x<=b)))/\w=w':=by
 go_in
 go_wp2
 all_goals (go_ret;exact ⟨zX (by first | (simp [*];done) | (simp [*];omega) | (simp;intros;omega)),rfl⟩)
theorem kT (A B:Int) (w:World):
 Calls prog 185 #[.agg #[A,B]] w (zR (.bool (uP A B)) w):=by
 go_in;go_wp2_with fail
 all_goals (go_ret;exact ⟨zX (by first | (symm;exact Qr om) | (symm;exact Vo om om om om) | (by_cases h:B<=12 <;>first | (rw [Vo om om om h];simp [*];done) | (rw [Qr om];simp [*];done))),nJ⟩)
theorem qI (A B:Int) (w:World):
 Calls prog 103 #[.agg #[A,B]] w (zR (.bool (uP A B)) w):=by
 go_in;go_wp2_with fail;refine (in5 _ _ _ _).mono ?_;rintro e w1 ⟨rfl,rfl⟩;by_cases h1:1<=A/\A<=12
 . have c:decide (1<=A/\A<=12)=true:=decide_eq_true h1
   rw [c];go_wp2_with fail;refine (in5 _ _ _ _).mono ?_;rintro e w1 ⟨rfl,rfl⟩;go_wp2_with fail;go_ret;exact ⟨zX (by unfold uP;simp [h1]),nJ⟩
 have c:decide (1<=A/\A<=12)=false:=decide_eq_false h1;rw [c];go_wp2_with fail;go_ret;exact ⟨zX (by rw [Qr om]),nJ⟩
theorem zJy (w:World) (k:Nat):Below w w (w.drewN k):=zGa (row:=none) (xc (yR w none) k) nI (fun _ h=>by cases h)
theorem zPK (h:a<0) (hn:1<=n):-n<a.tmod n/\a.tmod n<=0/\(a.tmod n<0->a.tmod n+n=a % n)/\(¬a.tmod n<0->a.tmod n=a % n):=by
 obtain ⟨b,rfl⟩: ∃b,a=-b:=⟨-a,om⟩
 have c:(-b).tmod n=-(b % n):=by rw [Int.neg_tmod,Yl om]
 have l:0<=b % n:=Yg _ om;have o:b % n<n:=Ye _ om;rw [c];refine ⟨om,om,fun h1=>?_,fun h1=>?_⟩
 have e:-b=(n - b % n)+n*(-(b/n) - 1):=by
  have:=Int.mul_ediv_add_emod b n;rw [Int.mul_sub,Int.mul_neg];omega
 have i:(-b) % n=n - b % n:=by
  rw [e,Int.add_mul_emod_self_left,Int.emod_eq_of_lt om om]
 rw [i];omega;have j:b % n=0:=om;have s:(-b) % n=0:=Int.emod_eq_zero_of_dvd (Int.dvd_neg.2 (Int.dvd_of_emod_eq_zero j));omega
theorem zJH (a n:Int) (w:World) (h:1<=n) (h2:n<=9223372036854775807):
 Calls prog 235 #[a,n] w fun e w'=>e= .returned (.int .i64 (a % n))/\w=w':=by
 by_cases ha:0<=a
 . have j:0<=a % n:=Yg _ om
   have l:a % n<n:=Ye _ om;go_in
   go_wp2
   go_ret;exact ⟨rfl,rfl⟩
 obtain ⟨o,t2,t3,t4⟩:=zPK (a:=a) (n:=n) om h;have c:=Jh t3;have i:=Jh t4;clear t3 t4;by_cases hr:a.tmod n<0
 . go_in
   go_wp2
   go_ret;exact ⟨yf (c.Z hr),rfl⟩
 go_in
 go_wp2
 go_ret;exact ⟨yf (i.Z hr),rfl⟩
theorem zHn {a b:Nat} (hb:b≠0):Nat.gcd b (a % b)=Nat.gcd a b:=by rw [Nat.gcd_comm b,<-Nat.gcd_rec,Nat.gcd_comm]
theorem zCg (a b:Nat):((a % b:Nat):Int)=(a:Int) % (b:Int):=sI
theorem zMF (a b:Nat) (w:World) (ha:a<=1000000) (hb:b<=1000000):
 Calls prog 147 #[a,b] w fun e w'=>e= .returned ↑(Nat.gcd a b:Nat)/\ ∃q,w'=w.drewN q:=by
 go_in;go_wp2_with fail
 go_loopw [0,1] (fun x y wr=> ∃i c:Nat,i<=1000000/\c<=1000000/\x=↑i/\y=↑c/\Hd (Nat.gcd i c=Nat.gcd a b)/\ ∃q,wr=w.drewN q) (fun _ y _=>(intOf y).toNat)
 case atStart=>exact ⟨a,b,ha,hb,rfl,rfl,Jh rfl,0,rfl⟩
 obtain ⟨i,c,z,l,rfl,rfl,o,q,rfl⟩:=hrel;by_cases j:c=0
 . subst j
   go_wp2_with fail;go_ret;exact ⟨yf (by have:=o.Z;rw [Nat.gcd_zero_right] at this;rw [this]),q,rfl⟩
 have h1:((c:Int) !=0)=true:=by simpa using j
 have h2:((c:Int)==0)=false:=by simpa using j
 have h3: ¬(c:Int)=0:=om;have t:=Jh (zHn (a:=i) j);have C:=Nat.mod_lt i (show 0<c by omega);have s:=Jh (zCg i c);have D:0<=(i:Int) % (c:Int):=Yg _ om;have E:(i:Int) % (c:Int)<c:=Ye _ om;clear j;go_wp2_with fail;go_roundw
 case rel=>exact ⟨c,i % c,l,om,rfl,by rw [s.Z],Jh (by rw [t.Z];exact o.Z),q,rfl⟩
 exact Jm
theorem zKh (a b:Nat) (w:World) (ha:a<=1000000) (hb:b<=1000000):
 Calls prog 209 #[a,b] w fun e w'=>e= .returned ↑(Nat.gcd a b:Nat)/\ ∃q,w'=w.drewN q:=by
 go_in;go_wp2_with fail
 go_loopw [0,1] (fun x y wr=> ∃i c:Nat,i<=1000000/\c<=1000000/\x=↑i/\y=↑c/\Hd (Nat.gcd i c=Nat.gcd a b)/\ ∃q,wr=w.drewN q) (fun _ y _=>(intOf y).toNat)
 case atStart=>exact ⟨a,b,ha,hb,rfl,rfl,Jh rfl,0,rfl⟩
 obtain ⟨i,c,z,o,rfl,rfl,s,q,rfl⟩:=hrel;by_cases j:c=0
 . subst j
   go_wp2_with fail;go_ret;exact ⟨yf (by have:=s.Z;rw [Nat.gcd_zero_right] at this;rw [this]),q,rfl⟩
 have h1:((c:Int) !=0)=true:=by simpa using j
 have h2:((c:Int)==0)=false:=by simpa using j
 have h3: ¬(c:Int)=0:=om;have t:=Jh (zHn (a:=i) j);have C:=Nat.mod_lt i (show 0<c by omega);obtain ⟨M,l⟩: ∃M:Nat,i % c=M:=⟨_,rfl⟩
 rw [l] at C t;have D:(i:Int).tmod (c:Int)=(M:Int):=by rw [Yl om,<-zCg,l]
 have t2:IntKind.i64.wrap (M:Int)=(M:Int):=Yc _ om;clear j l;go_wp2_with fail
 go_quiet (fail)
 clear D t2;go_wp2_with fail;go_roundw
 case rel=>exact ⟨c,M,o,om,rfl,rfl,Jh (by rw [t.Z];exact s.Z),by first | exact zKV _ _ | exact zKW _ _ _⟩
 exact Jm
theorem zHo {d p:Int} (L:Lat A B n g d a b p q): ∃x y:Nat,A=(x:Int)/\B=(y:Int)/\x<=12/\y<=12/\((Nat.gcd x y:Nat):Int)=g:=by
 have h1:=L.a1;have h2:=L.a2;have h3:=L.b1;have h4:=L.b2;refine ⟨A.toNat,B.toNat,om,om,om,om,?_⟩;exact L.hg
theorem zMG {d p:Int} (L:Lat A B n g d a b p q) (w:World):
 Calls prog 147 #[A,B] w fun e w'=>e= .returned ↑g/\Below w w w':=by
 obtain ⟨x,y,rfl,rfl,h1,h2,hg⟩:=zHo L;rw [<-hg];exact (zMF x y w om om).mono (fun e w' ⟨h,k,hk⟩=>⟨h,by rw [hk];exact zJy _ k⟩)
theorem zKi {d p:Int} (L:Lat A B n g d a b p q) (w:World):
 Calls prog 209 #[A,B] w fun e w'=>e= .returned ↑g/\Below w w w':=by
 obtain ⟨x,y,rfl,rfl,h1,h2,hg⟩:=zHo L;rw [<-hg];exact (zKh x y w om om).mono (fun e w' ⟨h,k,hk⟩=>⟨h,by rw [hk];exact zJy _ k⟩)
theorem zLE {d p:Int} (L:Lat A B n g d a b p q):0<=A*A/\A*A<=144/\0<=B*B/\B*B<=144:=by
 obtain ⟨h1,h2⟩:=Um (A:=A) (og L.a1) L.a2;obtain ⟨h3,h4⟩:=Um L.b1 L.b2;exact ⟨h1,h2,h3,h4⟩
theorem qR {d p:Int} (L:Lat A B n g d a b p q):uP A B=true:=Vo L.a1 L.a2 L.b1 L.b2
theorem ZR {d p:Int} (L:Lat A B n g d a b p q) (w:World):
 Calls prog 152 #[.agg #[A,B]] w fun e w'=>e= .returned ↑n/\Below w w w':=by
 obtain ⟨i,j,l,o⟩:=zLE L;have c:=Jh L;clear L;go_in;go_wp2_with fail;go_ret;exact ⟨yf c.Z.area,nJ⟩
theorem un {d p:Int} (L:Lat A B n g d a b p q) (w:World):
 Calls prog 223 #[.agg #[A,B]] w fun e w'=>e= .returned ↑n/\Below w w w':=by
 obtain ⟨j,l,o,s⟩:=zLE L;have i:=Jh L;clear L;go_in;go_wp2_with fail;refine (kT _ _ _).mono ?_;rw [qR i.Z];rintro e w1 ⟨rfl,hb⟩;have c:=Jh (zI nJ hb);obtain ⟨z,c0,c1⟩:=((Blk.new w 96 #[A,B]).zA hb).c2;clear hb;go_wp2_with fail;go_ret;exact ⟨yf i.Z.area,c.Z⟩
theorem zQM {B:Nat} (h:Below B w w') (n:Nat):Below B w (w'.drewN n):=⟨h.os,h.tape,h.output,h.size,h.block⟩
theorem zQf {d p:Int} (L:Lat A B n g d a b p q):n.tdiv g=d/\n/g=d:=by
 have h1:=L.g1;have h2:=L.n1;have e:n/g=d:=by rw [<-L.wg];exact Int.mul_ediv_cancel _ om
 exact ⟨by rw [Yt om];exact e,e⟩
theorem wO {d p:Int} (L:Lat A B n g d a b p q) (w:World):
 Calls prog 104 #[.agg #[A,B]] w (zR (.tuple #[d,g]) w):=by
 obtain ⟨o,t2⟩:=zQf L;have g1:=L.g1;have g2:=L.g2;have n1:=L.n1;have n2:=L.n2;have d1:=L.w1;have d2:=L.w2;have l:=Jh L;have j:=Jh t2;clear L o t2;go_in;go_wp2_with fail;refine (zMG l.Z _).mono ?_;rintro e w1 ⟨rfl,hb⟩;have c:=Jh (zI nJ hb);obtain ⟨z,c0,c1⟩:=((Blk.new w 96 #[A,B]).zA hb).c2;clear hb;go_wp2_with fail;refine (ZR l.Z _).mono ?_;rintro e w2 ⟨rfl,hb⟩;have i:=Jh (zI c.Z hb);clear hb;have s: ¬g=0:=om;have z2:(g==0)=false:=sO;have t2:0<=n/g:=by rw [j.Z];omega
 have t3:n/g<=288:=by rw [j.Z];omega
 go_wp2_with fail;go_ret2;exact ⟨by rw [j.Z];rfl,i.Z⟩
theorem jm {d p:Int} (L:Lat A B n g d a b p q) (w:World):
 Calls prog 184 #[.agg #[A,B]] w fun e w'=>e= .returned ↑d/\Below w w w':=by
 obtain ⟨C,t2⟩:=zQf L;have g1:=L.g1;have g2:=L.g2;have n1:=L.n1;have n2:=L.n2;have d1:=L.w1;have d2:=L.w2;have l:=Jh L;have D:=Jh C;clear L C t2;go_in;go_wp2_with fail;refine (kT _ _ _).mono ?_;rw [qR l.Z];rintro e w1 ⟨rfl,hb⟩;have j:=Jh (zI nJ hb);obtain ⟨z,c0,c1⟩:=((Blk.new w 96 #[A,B]).zA hb).c2;clear hb;go_wp2_with fail;have F: ¬g=0:=om;have z2:(g==0)=false:=sO;have t2:=D.Z;have t3:IntKind.i64.wrap d=d:=Yc _ om;have i:Hd (∀v,BelowL w1 v->Jc v w A/\Jc v (w,1) B/\BelowL w1 v):=Jh (fun v h=>⟨(h.Z.cell z).trans c0,(h.Z.cell z).trans c1,h⟩)
 go_region_held3 i
  (first | exact i.Z _ c | exact i.Z _ o | exact i.Z _ lS)
  (first
   | (go_at_call 223;((with_reducible refine (un l.Z _).mono ?_);rintro e E ⟨rfl,s⟩;have o:=BelowL.call (uo aS) s))
   | (go_at_call 209;((with_reducible refine (zKi l.Z _).mono ?_);rintro e v2 ⟨rfl,t⟩;have c:=BelowL.call (uo aS) t)))
 go_wp2_with fail;go_ret;exact ⟨rfl,zI j.Z c.Z⟩
theorem Qk (h:uP A B=false) (w:World):
 Calls prog 184 #[.agg #[A,B]] w fun e w'=>e= .returned ↑Z0/\Below w w w':=by
 have i:=Jh h;clear h;go_in;go_wp2_with fail;refine (kT _ _ _).mono ?_;rw [i.Z];rintro e w1 ⟨rfl,hb⟩;have c:=Jh (zI nJ hb);clear hb;go_wp2_with fail;go_ret;exact ⟨rfl,c.Z⟩
theorem zNB {d p:Int} (L:Lat A B n g d a b p q) (c:0<=K) (h1:K<n):0<=K % d/\K % d<=287/\0<=K/d/\K/d<=11/\K.tmod d=K % d/\K.tdiv d=K/d:=by
 obtain ⟨a0,a1,a2,a3⟩:=L.name_bd c h1;have:=L.w2;have:=L.g2;exact ⟨a0,om,a2,om,Yl c,Yt c⟩
theorem Ql {d p:Int} (L:Lat A B n g d a b p q) (K:Int) (G:0<=K) (h1:K<n) (w:World):
 Calls prog 260 #[.agg #[A,B],K] w (zR (.tuple #[.int .i64 (K % d), .int .i64 (K/d), .bool true]) w):=by
 obtain ⟨U,E⟩: ∃U,K % d=U:=⟨_,rfl⟩
 obtain ⟨V,F⟩: ∃V,K/d=V:=⟨_,rfl⟩
 obtain ⟨H,M,N,v2,i,t2⟩:=zNB L G h1;rw [E] at H M i⊢;rw [F] at N v2 t2⊢;have n1:=L.n1;have n2:=L.n2;have d1:=L.w1;have d2:=L.w2;have s:=Jh L;have t:=Jh i;have C:=Jh t2;clear L i t2 E F;go_in;go_wp2_with fail;refine (kT _ _ _).mono ?_;rw [qR s.Z];rintro e w1 ⟨rfl,hb⟩;have j:=Jh (zI nJ hb);have c:=Jh ((Blk.new w 96 #[A,B]).zA hb);obtain ⟨z,c0,c1⟩:=c.Z.c2;clear hb;go_wp2_with fail;refine (un s.Z _).mono ?_;rintro e w2 ⟨rfl,hb⟩;have l:=Jh (zI j.Z hb);have D:=Jh (c.Z.zA hb);clear hb z c0 c1;obtain ⟨z,c0,c1⟩:=D.Z.c2;go_wp2_with fail;refine (jm s.Z _).mono ?_;rintro e O ⟨rfl,hb⟩;have o:=Jh (zI l.Z hb);clear hb z c0 c1;have P: ¬d=0:=om;have z2:(d==0)=false:=sO;have i:=t.Z;have t2:=C.Z;have t3:IntKind.i64.wrap U=U:=Yc _ om;have t4:IntKind.i64.wrap V=V:=Yc _ om;go_wp2_with fail
 go_quiet (fail)
 go_wp2_with fail
 go_ret3
 exact ⟨rfl,zQM o.Z _⟩
theorem Un (hn:1<=n):-n<x.tmod n/\x.tmod n<n:=by
 by_cases h:0<=x
 rw [Yl h];have:=Yg x (show n≠0 by omega);have:=Ye x (show 0<n by omega);omega;have:=zPK (a:=x) (n:=n) om hn;omega
theorem Jl:n ∣ x - x.tmod n:=⟨x.tdiv n,by have:=Int.mul_tdiv_add_tmod x n;omega⟩
theorem zKg (hn:1<=n):(x.tmod n*A+y.tmod n*B).tmod n=0↔n ∣ x*A+y*B:=by
 have e:n ∣ (x*A+y*B) - (x.tmod n*A+y.tmod n*B):=by
  rw [show x*A+y*B - (x.tmod n*A+y.tmod n*B)=(x - x.tmod n)*A+(y - y.tmod n)*B by simp only [Int.sub_mul];omega];exact Int.dvd_add (Int.dvd_mul_of_dvd_left Jl) (Int.dvd_mul_of_dvd_left Jl)
 rw [<-Int.dvd_iff_tmod_eq_zero];constructor;intro h;have:=Int.dvd_add e h;rwa [Int.sub_add_cancel] at this;intro h;have:=Int.dvd_sub h e;rwa [show x*A+y*B - (x*A+y*B - (x.tmod n*A+y.tmod n*B))=x.tmod n*A+y.tmod n*B by omega] at this
theorem zIa (hn:1<=n):(y.tmod n*A - x.tmod n*B).tmod n=0↔n ∣ y*A - x*B:=by
 have e:n ∣ (y*A - x*B) - (y.tmod n*A - x.tmod n*B):=by
  rw [show y*A - x*B - (y.tmod n*A - x.tmod n*B)=(y - y.tmod n)*A - (x - x.tmod n)*B by simp only [Int.sub_mul];omega];exact Int.dvd_sub (Int.dvd_mul_of_dvd_left Jl) (Int.dvd_mul_of_dvd_left Jl)
 rw [<-Int.dvd_iff_tmod_eq_zero];constructor;intro h;have:=Int.dvd_add e h;rwa [Int.sub_add_cancel] at this;intro h;have:=Int.dvd_sub h e;rwa [show y*A - x*B - (y*A - x*B - (y.tmod n*A - x.tmod n*B))=y.tmod n*A - x.tmod n*B by omega] at this
theorem vU (h1:-m<=u) (h2:u<=m) (hm:0<=m) (a1:0<=A) (a2:A<=12):-(m*12)<=u*A/\u*A<=m*12:=by
 have e:u*A<=m*A:=Yo h2 a1;have c:-m*A<=u*A:=Yo h1 a1;have i:m*A<=m*12:=YA a2 hm;rw [Int.neg_mul] at c;omega
theorem zJQ {d p:Int} (L:Lat A B n g d a b p q) (x y:Int) (w:World):
 Calls prog 154 #[.agg #[A,B],x,y] w (zR (.bool (decide (kF A B x y))) w):=by
 have n1:=L.n1;have n2:=L.n2;have X: ¬n=0:=om;have z2:(n==0)=false:=sO;obtain ⟨Q,R⟩:=Un (x:=x) n1;obtain ⟨W,v2⟩:=Un (x:=y) n1;have l:Hd (kF A B x y↔(x.tmod n*A+y.tmod n*B).tmod n=0/\(y.tmod n*A - x.tmod n*B).tmod n=0):=Jh (by rw [L.has,zKg n1,zIa n1]);obtain ⟨s,t⟩:=vU (u:=x.tmod n) (m:=288) (A:=A) om om om (og L.a1) L.a2;obtain ⟨C,D⟩:=vU (u:=x.tmod n) (m:=288) (A:=B) om om om L.b1 L.b2;obtain ⟨E,F⟩:=vU (u:=y.tmod n) (m:=288) (A:=A) om om om (og L.a1) L.a2;obtain ⟨G,H⟩:=vU (u:=y.tmod n) (m:=288) (A:=B) om om om L.b1 L.b2;obtain ⟨M,N⟩:=Un (x:=x.tmod n*A+y.tmod n*B) n1;obtain ⟨O,P⟩:=Un (x:=y.tmod n*A - x.tmod n*B) n1;have o:=Jh L;clear L
 have i:Hd (∀c1 c2:Bool,((x.tmod n*A+y.tmod n*B).tmod n==0)=c1->((y.tmod n*A - x.tmod n*B).tmod n==0)=c2->(c1 && c2)=decide (kF A B x y)):=Jh (by
  intro c1 c2 h1 h2;rw [<-h1,<-h2]
  by_cases k1:(x.tmod n*A+y.tmod n*B).tmod n=0 <;>by_cases k2:(y.tmod n*A - x.tmod n*B).tmod n=0 <;>simp [l.Z,k1,k2])
 cases h1:((x.tmod n*A+y.tmod n*B).tmod n==0) <;>cases h2:((y.tmod n*A - x.tmod n*B).tmod n==0)
 all_goals (
  have j:=Jh (i.Z _ _ h1 h2);go_in;go_wp2_with fail;refine (ZR o.Z _).mono ?_;rintro e w1 ⟨rfl,hb⟩;have c:=Jh (zI nJ hb);obtain ⟨z,c0,c1⟩:=((Blk.new w 96 #[A,B]).zA hb).c2;clear hb;go_wp2_with fail;go_ret
  exact ⟨zX (by rw [<-j.Z];rfl),c.Z⟩)
theorem zNf {d p:Int} (L:Lat A B n g d a b p q) (hK:uZ A B x y K) (c:0<=k) (h1:k<n):decide (kF A B (x - k % d) (y - k/d))=decide (k=K):=by
 by_cases h:k=K
 subst h;rw [decide_eq_true (L.isName.1 hK).2.2,decide_eq_true rfl];rw [decide_eq_false h,decide_eq_false];intro e;exact h (L.name_one (L.isName.2 ⟨c,h1,e⟩) hK)
theorem zHC {d p:Int} (L:Lat A B n g d a b p q) (x y K:Int) (hK:uZ A B x y K) (x1:-1000000<=x) (x2:x<=1000000) (y1:-1000000<=y) (y2:y<=1000000) (w:World):
 Calls prog 106 #[.agg #[A,B],x,y] w fun e w'=>e= .returned ↑K/\Below w w w':=by
 have n1:=L.n1;have n2:=L.n2;have d1:=L.w1;have d2:=L.w2;have g1:=L.g1;have g2:=L.g2;have hw:=L.wg;have W:=(L.isName.1 hK).1;have k1:=(L.isName.1 hK).2.1;obtain ⟨M,rfl⟩: ∃M:Nat,K=M:=⟨K.toNat,om⟩
 have j:=Jh L;have G:=Jh hK;clear L hK;go_in;go_wp2_with fail;refine (wO j.Z _).mono ?_;rintro e w1 ⟨rfl,hb⟩;have l:=Jh (zI nJ hb);have s:=Jh ((Blk.new w 96 #[A,B]).zA hb);clear hb;go_wp2_with fail
 go_loopw [9] (fun i wr=> ∃k:Nat,k<=M/\i=↑k/\Below w1 w1 wr) (fun i _=>M - (intOf i).toNat)
 case atStart=>exact ⟨0,nZ,rfl,bR⟩
 obtain ⟨k,hk,rfl,hg⟩:=hrel;have F:=Jh hg;have H:=Jh (s.Z.zA hg);clear hg;obtain ⟨z,c0,c1⟩:=H.Z.c2;obtain ⟨U,C⟩: ∃U,(k:Int) % d=U:=⟨_,rfl⟩
 obtain ⟨V,D⟩: ∃V,(k:Int)/d=V:=⟨_,rfl⟩
 obtain ⟨Q,R,E,v2,P,t2⟩:=zNB j.Z (K:=(k:Int)) om om;have o:=Jh (zNf j.Z G.Z (k:=(k:Int)) om om);rw [C] at Q R P o;rw [D] at E v2 t2 o;clear C D;have z1: ¬d=0:=om;have z2:(d==0)=false:=sO;have t3:IntKind.i64.wrap U=U:=Yc _ om;have t4:IntKind.i64.wrap V=V:=Yc _ om;have t5:IntKind.i64.wrap (x - U)=x - U:=Yc _ om;have X:IntKind.i64.wrap (y - V)=y - V:=Yc _ om;have t7:IntKind.i64.wrap (d*g)=d*g:=by rw [hw];exact Yc _ om
 have O:(k:Int)<d*g:=om;go_wp2_with fail
 go_region_held3 (fun v=>Jc v w A/\Jc v (w,1) B)
  (first | exact ⟨c0,c1⟩ | exact ⟨(hb.cell z).trans c0,(hb.cell z).trans c1⟩)
  (first
   | (go_at_call 154;((with_reducible refine (zJQ j.Z _ _ _).mono ?_);rw [o.Z];rintro e E ⟨rfl,hb⟩)))
 have c:=Jh (zI F.Z.drew hb);clear hb;by_cases N:k=M
 . have t:decide ((k:Int)=(M:Int))=true:=decide_eq_true om
   rw [t];go_wp2_with fail;go_ret;exact ⟨yf om,zI l.Z c.Z⟩
 have t:decide ((k:Int)=(M:Int))=false:=decide_eq_false om;rw [t];go_wp2_with fail;go_roundw
 case rel=>exact ⟨k+1,om,by go_num,c.Z⟩
 exact Jm
theorem Vh (x:Int) (w:World):
 Calls prog 264 #[x] w fun e w'=>e= .returned (.bool (decide (-100000<=x/\x<=100000)))/\w=w':=by
 go_in
 go_wp2
 all_goals (go_ret;exact ⟨zX (by first | (simp [*];done) | (simp [*];omega) | (simp;intros;omega)),rfl⟩)
end
section
variable {A B I J U V Y a b g n q v w : Int} {f : Nat → Int} {k : Nat}
open Tq Go.Proofs.Tryz
def Ko (A B U V I J:Int) (k:Nat):Int:=
 (U - (I+(k:Int) % 5 - 2)*A+(J+(k:Int)/5 - 2)*B)*(U - (I+(k:Int) % 5 - 2)*A+(J+(k:Int)/5 - 2)*B)+(V - (I+(k:Int) % 5 - 2)*B - (J+(k:Int)/5 - 2)*A)*(V - (I+(k:Int) % 5 - 2)*B - (J+(k:Int)/5 - 2)*A)
def ZX (f:Nat->Int) (k:Nat) (b:Int):Prop:=(k=0/\b=-1)\/(0<k/\(∃j,j<k/\b=f j)/\ ∀j,j<k->b<=f j)
theorem zIM (f:Nat->Int):ZX f 0 (-1):=Or.inl ⟨rfl,rfl⟩
theorem zEP (h:ZX f k b) (hn: ∀j,0<=f j) (hb:b<0\/f k<b):ZX f (k+1) (f k):=by
 refine Or.inr ⟨om,⟨k,om,rfl⟩,fun j c=>?_⟩;by_cases e:j=k
 rw [e];exact Int.le_refl _;rcases h with ⟨h1,h2⟩ | ⟨h1,⟨i,hi,h2⟩,h3⟩
 omega;have:=h3 j om;have:=hn i;omega
theorem zMs (h:ZX f k b) (c: ¬b<0) (hb: ¬f k<b):ZX f (k+1) b:=by
 rcases h with ⟨h1,h2⟩ | ⟨h1,⟨i,hi,h2⟩,h3⟩
 omega;refine Or.inr ⟨om,⟨i,om,h2⟩,fun j l=>?_⟩;by_cases e:j=k
 rw [e];omega;exact h3 j om
theorem zJV (x:Int):0<=x*x:=by
 rcases Int.le_total 0 x with h | h
 exact Int.mul_nonneg h h;have:=Int.mul_nonneg (show 0<=-x by omega) (show 0<=-x by omega);rwa [Int.neg_mul_neg] at this
theorem zPS (A B U V I J:Int) (k:Nat):0<=Ko A B U V I J k:=by
 unfold Ko;have h1:=zJV (U - (I+(k:Int) % 5 - 2)*A+(J+(k:Int)/5 - 2)*B);have h2:=zJV (V - (I+(k:Int) % 5 - 2)*B - (J+(k:Int)/5 - 2)*A);omega
theorem zPR (h:ZX f k b) (hn: ∀j,0<=f j):-1<=b:=by
 rcases h with ⟨h1,h2⟩ | ⟨h1,⟨i,hi,h2⟩,h3⟩
 omega;have:=hn i;omega
theorem zDi (hn:1<=n):Y.tdiv n=Y/n\/Y.tdiv n=Y/n+1:=by
 have h1:=Int.mul_tdiv_add_tmod Y n;have h2:=Int.mul_ediv_add_emod Y n;have h3:=Yg Y (show n≠0 by omega);have h4:=Ye Y (show 0<n by omega);by_cases i:0<=Y
 left;exact Yt i;obtain ⟨X,rfl⟩: ∃X,Y=-X:=⟨-Y,om⟩
 have c:(-X).tmod n=-(X % n):=by rw [Int.neg_tmod,Yl om]
 have l:=Yg X (show n≠0 by omega);have o:=Ye X (show 0<n by omega);rw [c] at h1;obtain ⟨t,e⟩: ∃t,(-X).tdiv n=t:=⟨_,rfl⟩
 obtain ⟨f,hf⟩: ∃f,(-X)/n=f:=⟨_,rfl⟩
 rw [e] at h1⊢;rw [hf] at h2⊢;have j:n*(t - f)<n*2:=by rw [Int.mul_sub];omega
 have i2:n*(-1)<n*(t - f):=by rw [Int.mul_sub];omega
 have s:=Int.lt_of_mul_lt_mul_left j om;have z:=Int.lt_of_mul_lt_mul_left i2 om;omega
theorem zKC {p:Int} (L:Lat A B n g w a b p q) (D:I=(U*A+V*B)/n) (E:J=(V*A - U*B).tdiv n) (h:ZX (Ko A B U V I J) 25 v):v=ke A B U V:=by
 rcases h with ⟨h1,_⟩ | ⟨_,⟨i,hi,h2⟩,h3⟩
 omega;have l: ∀k,ke A B U V<=Ko A B U V I J k:=fun k=>L.near_le U V (I+(k:Int) % 5 - 2) (J+(k:Int)/5 - 2);obtain ⟨c,d,hc,hd,e⟩:=L.near_at U V;have j:=zDi (Y:=V*A - U*B) L.n1;rw [<-E] at j;rw [<-D] at hc;obtain ⟨F,C⟩: ∃F,(V*A - U*B)/n=F:=⟨_,rfl⟩
 rw [C] at hd j;obtain ⟨s,H⟩: ∃s:Nat,(s:Int)=c - I+2:=⟨(c - I+2).toNat,om⟩
 obtain ⟨t,M⟩: ∃t:Nat,(t:Int)=d - J+2:=⟨(d - J+2).toNat,om⟩
 have hk:=h3 (s+5*t) om;have o:((s+5*t:Nat):Int) % 5=s:=om;have z:((s+5*t:Nat):Int)/5=t:=om
 have G:Ko A B U V I J (s+5*t)=ke A B U V:=by
  unfold Ko;rw [o,z,show I+(s:Int) - 2=c by omega,show J+(t:Int) - 2=d by omega,e]
 have:=l i;omega
end
section
open Go.RowKit Tq Go.Proofs.Tryz
variable {A B I J U V a b g m n q x : Int}
theorem Kl (h1:-m<=x) (h2:x<=m):0<=x*x/\x*x<=m*m:=by
 refine ⟨zJV x,?_⟩;rcases Int.le_total 0 x with h | h
 exact Yr h2 h2 h om;have:=Yr (show -x<=m by omega) (show -x<=m by omega) om om;rwa [Int.neg_mul_neg] at this
theorem zIo {d p:Int} (L:Lat A B n g d a b p q) (c:0<=U) (i:U<=287) (j:0<=V) (v2:V<=11):
 0<=U*A/\U*A<=3444/\0<=U*B/\U*B<=3444/\0<=V*A/\V*A<=132/\0<=V*B/\V*B<=132/\0<=(U*A+V*B)/n/\(U*A+V*B)/n<=4000/\-4000<=(V*A - U*B).tdiv n/\(V*A - U*B).tdiv n<=4000:=by
 have a1:=L.a1;have a2:=L.a2;have b1:=L.b1;have b2:=L.b2;have n1:=L.n1;have h1:0<=U*A:=Int.mul_nonneg c om;have h2:=Yr i a2 om om;have h3:0<=U*B:=Int.mul_nonneg c b1;have h4:=Yr i b2 b1 om;have s:0<=V*A:=Int.mul_nonneg j om;have t:=Yr v2 a2 om om;have z:0<=V*B:=Int.mul_nonneg j b1;have C:=Yr v2 b2 b1 om;have D:0<=(U*A+V*B)/n:=Yw om om;have E:(U*A+V*B)/n<=U*A+V*B:=Int.ediv_le_self _ om
 have F:-4000<=(V*A - U*B).tdiv n/\(V*A - U*B).tdiv n<=4000:=by
  rcases zDi (Y:=V*A - U*B) n1 with e | e
  all_goals (
   rw [e]
   have o:-3444<=(V*A - U*B)/n:=by
    apply Int.le_ediv_of_mul_le om;have:-3444*n<=-3444*1:=Int.mul_le_mul_of_nonpos_left om n1;omega
   have l:(V*A - U*B)/n<133:=by
    apply Int.ediv_lt_of_lt_mul om;have:133*1<=133*n:=YA n1 om;omega
   omega)
 omega
theorem zOI (k:Nat) (hk:k<25) (a1:0<=A) (a2:A<=12) (b1:0<=B) (b2:B<=12) (W:0<=U) (X:U<=287) (v1:0<=V) (v2:V<=11) (N:-4000<=I) (i2:I<=4000) (O:-4000<=J) (R:J<=4000):
 -60120<=(I+(k:Int) % 5 - 2)*A/\(I+(k:Int) % 5 - 2)*A<=60120/\-60120<=(J+(k:Int)/5 - 2)*B/\(J+(k:Int)/5 - 2)*B<=60120/\
 -60120<=(I+(k:Int) % 5 - 2)*B/\(I+(k:Int) % 5 - 2)*B<=60120/\-60120<=(J+(k:Int)/5 - 2)*A/\(J+(k:Int)/5 - 2)*A<=60120/\
 0<=(U - (I+(k:Int) % 5 - 2)*A+(J+(k:Int)/5 - 2)*B)*(U - (I+(k:Int) % 5 - 2)*A+(J+(k:Int)/5 - 2)*B)/\(U - (I+(k:Int) % 5 - 2)*A+(J+(k:Int)/5 - 2)*B)*(U - (I+(k:Int) % 5 - 2)*A+(J+(k:Int)/5 - 2)*B)<=40000000000/\
 0<=(V - (I+(k:Int) % 5 - 2)*B - (J+(k:Int)/5 - 2)*A)*(V - (I+(k:Int) % 5 - 2)*B - (J+(k:Int)/5 - 2)*A)/\(V - (I+(k:Int) % 5 - 2)*B - (J+(k:Int)/5 - 2)*A)*(V - (I+(k:Int) % 5 - 2)*B - (J+(k:Int)/5 - 2)*A)<=40000000000:=by
 obtain ⟨P,o⟩: ∃P,I+(k:Int) % 5 - 2=P:=⟨_,rfl⟩
 obtain ⟨Q,s⟩: ∃Q,J+(k:Int)/5 - 2=Q:=⟨_,rfl⟩
 rw [o,s];have c:-5010<=P:=om;have e:P<=5010:=om;have i:-5010<=Q:=om;have j:Q<=5010:=om;obtain ⟨t,z⟩:=vU c e om a1 a2;obtain ⟨C,D⟩:=vU i j om b1 b2;obtain ⟨E,F⟩:=vU c e om b1 b2;obtain ⟨G,H⟩:=vU i j om a1 a2;obtain ⟨l,L⟩:=Kl (x:=U - P*A+Q*B) (m:=200000) om om;obtain ⟨f3,M⟩:=Kl (x:=V - P*B - Q*A) (m:=200000) om om;refine ⟨om,om,om,om,om,om,om,om,l,om,f3,om⟩
theorem zHD {d p:Int} (L:Lat A B n g d a b p q) (K R:Int) (h0:0<=K) (h1:K<n) (Q:ke A B (K % d) (K/d)=R) (w:World):
 Calls prog 153 #[.agg #[A,B],K] w fun e w'=>e= .returned ↑R/\Below w w w':=by
 obtain ⟨U,W⟩: ∃U,K % d=U:=⟨_,rfl⟩
 obtain ⟨V,X⟩: ∃V,K/d=V:=⟨_,rfl⟩
 obtain ⟨u1,u2,v1,v2,t1,t2⟩:=zNB L h0 h1;rw [W,X] at Q;have n1:=L.n1;have n2:=L.n2;have d1:=L.w1;have d2:=L.w2;have a1:=L.a1;have a2:=L.a2;have b1:=L.b1;have b2:=L.b2;have z1: ¬d=0:=om;have z2:(d==0)=false:=sO;have z3: ¬n=0:=om;have z4:(n==0)=false:=sO;obtain ⟨s1,s2,s3,s4,s5,s6,s7,s8,s9,C,D,E⟩:=zIo L (U:=U) (V:=V) om om om om;have M:=Jh L;have HR:=Jh Q;clear L Q t1 t2;go_in;go_wp2_with fail;refine (wO M.Z _).mono ?_;rintro e w1 ⟨rfl,hb⟩;have G:=Jh (zI nJ hb);have s:=Jh ((Blk.new w 96 #[A,B]).zA hb);obtain ⟨z,c0,c1⟩:=s.Z.c2;clear hb;go_wp2_with fail;refine (ZR M.Z _).mono ?_;rintro e w2 ⟨rfl,hb⟩;have H:=Jh (zI G.Z hb);have N:=Jh (s.Z.zA hb);clear hb z c0 c1;obtain ⟨z,c0,c1⟩:=N.Z.c2;go_wp2_with fail;rw [W] at u1 u2;rw [X] at v1 v2;clear W X;obtain ⟨I,O⟩: ∃I,(U*A+V*B)/n=I:=⟨_,rfl⟩
 obtain ⟨J,P⟩: ∃J,(V*A - U*B).tdiv n=J:=⟨_,rfl⟩
 rw [O] at s9 C⊢;rw [P] at D E⊢;have HI:=Jh O;have HJ:=Jh P;have l:=Jh (zPS A B U V I J);clear O P;clear s1 s2 s3 s4 s5 s6 s7 s8 z1 z2 z3 z4
 go_loopw [12,13] (fun b i wr=> ∃(k:Nat) (c:Int),k<=25/\i=↑k/\b=↑c/\Hd (ZX (Ko A B U V I J) k c)/\wr=w2) (fun _ i _=>25 - (intOf i).toNat)
 case atStart=>exact ⟨0,-1,om,rfl,rfl,Jh (zIM _),rfl⟩
 obtain ⟨k,c,hk,rfl,rfl,o,rfl⟩:=hrel;by_cases b0:k<25
 . obtain ⟨r1,r2,r3,r4,r5,r6,r7,r8,r9,b3,b4,b5⟩:=zOI (A:=A) (B:=B) (U:=U) (V:=V) (I:=I) (J:=J) k b0 om a2 b1 b2 u1 u2 v1 v2 om C D E
   have q0:=zPR o.Z l.Z;have F:Hd (Ko A B U V I J k=(U - (I+(k:Int) % 5 - 2)*A+(J+(k:Int)/5 - 2)*B)*(U - (I+(k:Int) % 5 - 2)*A+(J+(k:Int)/5 - 2)*B)+(V - (I+(k:Int) % 5 - 2)*B - (J+(k:Int)/5 - 2)*A)*(V - (I+(k:Int) % 5 - 2)*B - (J+(k:Int)/5 - 2)*A)):=Jh rfl;by_cases t:c<0
   . have j:=Jh (zEP o.Z l.Z (Or.inl t))
     go_wp2_with fail;go_roundw
     case rel=>exact ⟨k+1,_,om,by go_num,rfl,Jh (by rw [<-F.Z];exact j.Z),by first | trivial | rfl⟩
     exact Jm
   by_cases hc:Ko A B U V I J k<c
   . have j:=Jh (zEP o.Z l.Z (Or.inr hc))
     rw [F.Z] at hc;go_wp2_with fail;go_roundw
     case rel=>exact ⟨k+1,_,om,by go_num,rfl,Jh (by rw [<-F.Z];exact j.Z),by first | trivial | rfl⟩
     exact Jm
   have j:=Jh (zMs o.Z t hc);rw [F.Z] at hc;go_wp2_with fail;go_roundw
   case rel=>exact ⟨k+1,c,om,by go_num,rfl,Jh j.Z,by first | trivial | rfl⟩
   exact Jm
 obtain rfl:k=25:=om;have HF:=Jh (zKC M.Z HI.Z.symm HJ.Z.symm o.Z);go_wp2_with fail;go_ret;exact ⟨yf (by rw [HF.Z,HR.Z]),H.Z⟩
theorem zKo (a b n:Int) (w:World) (h1:1<=n) (h2:n<=1000) (h3:-1000000<=a) (h4:a<=1000000) (c:-1000000<=b) (i:b<=1000000):
 Calls prog 300 #[a,b,n] w fun e w'=>e= .returned ↑(yL (b - a) n)/\w=w':=by
 have b1:=Yg (b - a) (show n≠0 by omega);have b2:=Ye (b - a) (show 0<n by omega);go_in;go_wp2_with fail;refine (zJH _ _ _ h1 om).mono ?_;rintro e w2 ⟨rfl,rfl⟩;go_wp2_with fail
 all_goals (go_ret;exact ⟨yf (by unfold yL;omega),rfl⟩)
theorem zGh (n X Y:Int) (w:World) (h1:1<=n) (h2:n<=1000) (h3:-1000000<=X) (h4:X<=1000000) (F:-1000000<=Y) (G:Y<=1000000):
 Calls prog 287 #[n,n, .agg #[Z0,Z0], .agg #[X,Y]] w (zR (.int .i64 (yL X n*yL X n+yL Y n*yL Y n)) w):=by
 obtain ⟨z,C⟩:=jT (d:=X) h1;obtain ⟨D,E⟩:=jT (d:=Y) h1;obtain ⟨S,c⟩: ∃S,yL X n=S:=⟨_,rfl⟩
 obtain ⟨T,i⟩: ∃T,yL Y n=T:=⟨_,rfl⟩
 rw [c] at z C⊢;rw [i] at D E⊢;obtain ⟨H,L⟩:=Kl (x:=S) (m:=1000) om om;obtain ⟨M,N⟩:=Kl (x:=T) (m:=1000) om om;have s:Hd (yL (X - 0) n=S):=Jh (by rw [Int.sub_zero];exact c);have t:Hd (yL (Y - 0) n=T):=Jh (by rw [Int.sub_zero];exact i);clear c i;go_in;go_wp2_with fail;have l:=(Blk.new w 176 #[Z0,Z0]).alloc (.cells #[X,Y] 176);have o:=Blk.zD (g:=w.heap.size+1) (w:=w.alloc (.cells #[Z0,Z0] 176)) 176 #[X,Y] sI;have a0:=l.cell 0;have a1:=l.cell 1;have j:=o.cell 0;have b1:=o.cell 1;simp only [Yi,List.getElem?_cons_zero,List.getElem?_cons_succ] at a0 a1 j b1
 go_region_held3 (fun v=>Jc v w Z0/\Jc v (w,1) Z0/\Jc v ↑(w.heap.size+1) X/\Jc v (w.heap.size+1,1) Y)
  (first | exact ⟨a0,a1,j,b1⟩)
  (first
   | (go_at_call 300;((with_reducible refine (zKo _ _ _ _ om om om om om om).mono ?_);rintro e O ⟨rfl,rfl⟩;first | rw [s.Z] | rw [t.Z])))
 all_goals (
  go_wp2_with fail;go_ret
  exact ⟨rfl,((Joins.below_alloc2 w _ _).drew)⟩)
theorem zLU {d p:Int} (L:Lat A B n g d a b p q) (x y:Int):
 (yL (x % n*A+y % n*B) n*yL (x % n*A+y % n*B) n+yL (y % n*A - x % n*B) n*yL (y % n*A - x % n*B) n).tdiv n=ke A B x y/\
 0<=yL (x % n*A+y % n*B) n*yL (x % n*A+y % n*B) n+yL (y % n*A - x % n*B) n*yL (y % n*A - x % n*B) n/\
 yL (x % n*A+y % n*B) n*yL (x % n*A+y % n*B) n+yL (y % n*A - x % n*B) n*yL (y % n*A - x % n*B) n<=200000:=by
 have hn:=L.n1;have c:=L.n2;have h:=L.near_n (x % n) (y % n);rw [L.near_mod] at h;obtain ⟨o,s⟩:=jT (d:=x % n*A+y % n*B) hn;obtain ⟨t,z⟩:=jT (d:=y % n*A - x % n*B) hn;obtain ⟨e,i⟩:=Kl (x:=yL (x % n*A+y % n*B) n) (m:=288) om om;obtain ⟨j,l⟩:=Kl (x:=yL (y % n*A - x % n*B) n) (m:=288) om om;refine ⟨?_,om,om⟩;rw [<-h];exact Int.mul_tdiv_cancel_left _ om
theorem XQ {d p:Int} (L:Lat A B n g d a b p q) (x y R:Int) (C:ke A B x y=R) (w:World):
 Calls prog 262 #[.agg #[A,B], .agg #[x,y]] w fun e w'=>e= .returned ↑R/\Below w w w':=by
 have n1:=L.n1;have n2:=L.n2;have a1:=L.a1;have a2:=L.a2;have b1:=L.b1;have b2:=L.b2;obtain ⟨c,i,j⟩:=zLU L x y;rw [C] at c;obtain ⟨U,E⟩: ∃U,x % n=U:=⟨_,rfl⟩
 obtain ⟨V,F⟩: ∃V,y % n=V:=⟨_,rfl⟩
 have u1:=Yg x (show n≠0 by omega);have u2:=Ye x (show 0<n by omega);have G:=Yg y (show n≠0 by omega);have v2:=Ye y (show 0<n by omega);rw [E] at u1 u2 c i j;rw [F] at G v2 c i j;obtain ⟨p1,p2⟩:=vU (u:=U) (m:=288) (A:=A) om om om om a2;obtain ⟨p3,p4⟩:=vU (u:=U) (m:=288) (A:=B) om om om b1 b2;obtain ⟨p5,p6⟩:=vU (u:=V) (m:=288) (A:=A) om om om om a2;obtain ⟨p7,p8⟩:=vU (u:=V) (m:=288) (A:=B) om om om b1 b2;obtain ⟨X,hX⟩: ∃X,U*A+V*B=X:=⟨_,rfl⟩
 obtain ⟨Y,hY⟩: ∃Y,V*A - U*B=Y:=⟨_,rfl⟩
 rw [hX,hY] at c i j;obtain ⟨D,hD⟩: ∃D,yL X n*yL X n+yL Y n*yL Y n=D:=⟨_,rfl⟩
 rw [hD] at c i j;have r0:0<=R:=by rw [<-C];exact L.near_nn x y
 have N:=Jh L;have P:=Jh E;have Q:=Jh F;have H:=Jh hD;have O:=Jh c;have z1: ¬n=0:=om;have z2:(n==0)=false:=sO;clear L C E F hD c;go_in;go_wp2_with fail;refine (un N.Z _).mono ?_;rintro e w1 ⟨rfl,hb⟩;have l:=Jh (zI nV hb);have s:=Jh (((Blk.new w 96 #[A,B]).alloc (.cells #[x,y] 176)).zA hb);have t:=Jh ((Blk.zD (g:=w.heap.size+1) (w:=w.alloc (.cells #[A,B] 96)) 176 #[x,y] sI).zA hb);obtain ⟨z,c0,c1⟩:=s.Z.c2;obtain ⟨y',W,d1⟩:=t.Z.c2;clear hb;go_wp2_with fail
 go_region_held3 (fun v=>Jc v ↑(w.heap.size+1) x/\Jc v (w.heap.size+1,1) y)
  (first | exact ⟨W,d1⟩)
  (first
   | (go_at_call 235;((with_reducible refine (zJH _ _ _ n1 om).mono ?_);rintro e G ⟨rfl,rfl⟩;first | rw [P.Z] | rw [Q.Z])))
 have l0:w1.drew.cell? w=some ↑A:=c0;have l1:w1.drew.cell? (w,1)=some ↑B:=c1;go_wp2_with fail;refine (zGh n X Y _ n1 om om om om om).mono ?_;rw [H.Z];rintro e w2 ⟨rfl,hb⟩;have o:=Jh (zI (zJ l.Z (.cells #[.int .i64 X, .int .i64 Y] 176)).drew hb);clear hb;have e0:0<=D/n:=Yw i om;have e1:D/n<=200000:=Int.le_trans (Int.ediv_le_self _ i) j;have M:Hd (D/n=R):=Jh (by rw [<-Yt i];exact O.Z);go_wp2_with fail;go_ret;exact ⟨yf M.Z,o.Z⟩
end
end Go.Proofs.YtlenfgdjdianiaaGreatDoor
