/- Facts on which this claim rests, 21. -/
import Derived.Shelf.SlSortCmp.QuietGrown
import Derived.Test.YtlenfgdjdianiaaGreatDoorF20
set_option linter.all false
set_option maxHeartbeats 6400000
namespace Go.Proofs.YtlenfgdjdianiaaGreatDoor
open Go.RowKit Tq Go.Proofs.Tryz
variable {W w w' w0 : World} {a b c cap g i j m n : Nat} {cb : Array Value} {f f0 : Nat → Int} {key : Int → Int}
theorem zBf {blk:Nat} (h:Own W blk n cap (gen n f)) (hi:i<n) (o:j<n) (l:i≠j):
 Own ((W.setCell (blk,i) ↑(f j)).setCell (blk,j) ↑(f i)) blk n cap (gen n (sw f i j)):=by
 have h1:=(h.set i (f j)).set j (f i)
 have e:((gen n f).set i (f j)).set j (f i)=gen n (sw f i j):=by
  rw [KU n f (fun k=>if k=i then f j else f k) i (f j) hi sI (fun k _ hk=>by simp [hk])];exact KU n _ _ j (f i) o (by unfold sw;simp [Ne.symm l]) (fun k _ hk=>by unfold sw;simp [hk])
 rwa [e] at h1
theorem jE {blk:Nat} (h:Own W blk n cap (gen n f)) (hi:i<n):W.cell? (blk,i)=some ↑(f i):=by
 have:=h.cell hi;rwa [yN _ _ _ hi] at this
theorem zBG {blk:Nat} (h:Own W blk n cap (gen n f)) (hi:i<n) (k:j<n) (l:i≠j) (v:Value): ∃u,(W.setCell (blk,i) v).cell? (blk,j)=some u:=
 ⟨_,(World.cell?_setCell_other _ _ _ _ (by intro e;simp only [Addr.mk.injEq] at e;omega)).trans (jE h k)⟩
set_option maxRecDepth 100000 in
theorem Jj (g:Nat) (cb:Array Value) (blk n a b m:Nat) (f:Nat->Int) (w:World) (E:Own w blk n n (gen n f)) (hn:n<=100000) (h1:a+m<=b) (h2:b+m<=n):
 Calls prog 302 #[.slice ↑blk n n,a,b,m, .func (.func g) #[] cb] w fun e w'=>e= .returned (.tuple #[])/\Own w' blk n n (gen n (xt a b m f))/\w.grownBy w' (some blk):=by
 have H:=Jh E;clear E;go_in;go_wp2_with fail
 go_loopw [10] (fun i wr=> ∃k:Nat,k<=m/\i=↑k/\Hd (Own wr blk n n (gen n (xt a b k f)))/\Hd (w.grownBy wr (some blk))) (fun i _=>m - (intOf i).toNat)
 case atStart=>exact ⟨0,nZ,rfl,Jh (by rw [zJa];exact H.Z),Jh (yR _ _)⟩
 obtain ⟨k,hk,rfl,l,B⟩:=hrel;by_cases M:k<m
 . obtain ⟨t,y⟩:=zN (a+k)
   obtain ⟨v,z⟩:=zN (b+k);have P:((a:Int)+(k:Int)).toNat=t:=om;have R:(0:Int)<=(a:Int)+(k:Int):=om;have N:(a:Int)+(k:Int)<(n:Int):=om;have U:IntKind.i64.wrap ((a:Int)+(k:Int))=(a:Int)+(k:Int):=by rw [IntKind.wrap_i64];omega
   have Q:((b:Int)+(k:Int)).toNat=v:=om;have T:(0:Int)<=(b:Int)+(k:Int):=om;have O:(b:Int)+(k:Int)<(n:Int):=om;have V:IntKind.i64.wrap ((b:Int)+(k:Int))=(b:Int)+(k:Int):=by rw [IntKind.wrap_i64];omega
   have q:t≠v:=om;have o:t<n:=om;have s:v<n:=om;obtain ⟨sx,F⟩:=zN ((xt a b k f) t);obtain ⟨sy,G⟩:=zN ((xt a b k f) v);have A:=Jh (zBf l.Z o s q);have D:=jE l.Z o;have x:=jE l.Z s;have J:=l.Z.frozen t;have L:=l.Z.frozen v;rw [<-F] at D A;rw [<-G] at x A;obtain ⟨u,I⟩:=zBG l.Z o s q ↑sy;have C:sw (xt a b k f) t v=sw (xt a b k f) (a+k) (b+k):=by rw [y,z]
   rw [C] at A;clear F G q y z C;go_wp2_with fail
   go_big_region
   clear D x J L I;go_wp2_with fail;go_roundw
   case rel=>exact ⟨k+1,om,by go_num,Jh (by rw [<-zJZ a b k f om];exact A.Z.drewN 1),Jh (xc (yO (yO B.Z _) _) 1)⟩
   exact Jm
 obtain rfl:k=m:=om;go_wp2_with fail
 go_end0
 exact ⟨rfl,l.Z,B.Z⟩
set_option maxRecDepth 100000 in
theorem zIE (g:Nat) (cb:Array Value) (blk n a m b:Nat) (f:Nat->Int) (w:World) (s:Own w blk n n (gen n f)) (hn:n<=100000) (h1:a<m) (h2:m<b) (h3:b<=n):
 Calls prog 301 #[.slice ↑blk n n,a,m,b, .func (.func g) #[] cb] w fun e w'=>e= .returned (.tuple #[])/\Own w' blk n n (gen n (za a m b f))/\w.grownBy w' (some blk):=by
 have N:=Jh s;clear s;obtain ⟨i0,C⟩:=zN (m - a:Nat);obtain ⟨u,D⟩:=zN (b - m:Nat);have T:(m:Int) - (a:Int)=(i0:Int):=om;have U:(b:Int) - (m:Int)=(u:Int):=om;have k1:1<=i0/\1<=u/\i0<=m/\m+u<=n:=om;have J:m - i0=a:=om;have L:m+u=b:=om;have I:Hd (za (m - i0) m (m+u) f=za a m b f):=Jh (by rw [J,L]);have v:=Jh k1;clear C D J L k1;go_in;go_wp2_with fail
 go_loopw [10,11] (fun G H wr=> ∃(i j:Nat) (F:Nat->Int),1<=i/\1<=j/\i<=m/\m+j<=n/\G=↑i/\H=↑j/\Hd (za (m - i) m (m+j) F=za a m b f)/\Hd (Own wr blk n n (gen n F))/\Hd (w.grownBy wr (some blk))) (fun G H _=>(intOf G).toNat+(intOf H).toNat)
 case atStart=>exact ⟨i0,u,f,v.Z.1,v.Z.2.1,v.Z.2.2.1,v.Z.2.2.2,rfl,rfl,I,N,Jh (yR _ _)⟩
 obtain ⟨i,j,F,O,P,i2,Q,rfl,rfl,y,B,z⟩:=hrel;clear T U I v;obtain ⟨q,M⟩:=zN (m - i:Nat);have zq:(m:Int) - (i:Int)=(q:Int):=om;have X:q+i<=m:=om;have Y:m<=q+i:=om;have A:=Jh M;clear M;rcases Nat.lt_trichotomy i j with E | rfl | hgt
 . have c1:((i:Int) !=(j:Int))=true:=sO
   have c2: ¬(j:Int)<(i:Int):=om;obtain ⟨r,hr⟩:=zN (m+j - i:Nat);have zr:(m:Int)+(j:Int) - (i:Int)=(r:Int):=om;obtain ⟨t,x⟩:=zN (j - i:Nat);have V:(j:Int) - (i:Int)=(t:Int):=om;have k:Hd (za (m - i) m (m+t) (xt q r i F)=za (m - i) m (m+j) F):=Jh (by rw [x,A.Z,hr];exact zLq m i j F i2 E);have r1:r+i<=m+j:=om;have r2:m+j<=r+i:=om;have R:1<=t:=om;have t2:t<=j:=om;have t3:i+t<=j:=om;clear hr x;go_wp2_with fail;refine (Jj g cb blk n q r i F _ B.Z hn om om).mono ?_;rintro e w2 ⟨rfl,s,hg⟩;have o:=Jh s;have l:=Jh (zU z.Z hg);clear s hg;go_wp2_with fail;go_roundw
   case rel=>exact ⟨i,t,xt q r i F,O,om,i2,om,rfl,rfl,Jh (by rw [k.Z];exact y.Z),o,l⟩
   exact Jm
 . have c1:((i:Int) !=(i:Int))=false:=sI
   have k:Hd (xt q m i F=za (m - i) m (m+i) F):=Jh (by rw [A.Z];exact zPp m i F i2);go_wp2_with fail;refine (Jj g cb blk n q m i F _ B.Z hn om om).mono ?_;rintro e w2 ⟨rfl,s,hg⟩;have o:=Jh s;have l:=Jh (zU z.Z hg);clear s hg;go_wp2_with fail
   go_end0
   exact ⟨rfl,by rw [<-y.Z,<-k.Z];exact o.Z,l.Z⟩
 have c1:((i:Int) !=(j:Int))=true:=sO;have c2:(j:Int)<(i:Int):=om;obtain ⟨t,x⟩:=zN (i - j:Nat);have V:(i:Int) - (j:Int)=(t:Int):=om;have k:Hd (za (m - t) m (m+j) (xt q m j F)=za (m - i) m (m+j) F):=Jh (by rw [x,A.Z];exact zOH m i j F i2 hgt);have R:1<=t:=om;have t2:t<=i:=om;have t3:t+j<=i:=om;clear x;go_wp2_with fail;refine (Jj g cb blk n q m j F _ B.Z hn om om).mono ?_;rintro e w2 ⟨rfl,s,hg⟩;have o:=Jh s;have l:=Jh (zU z.Z hg);clear s hg;go_wp2_with fail;go_roundw
 case rel=>exact ⟨t,j,xt q m j F,om,P,om,Q,rfl,rfl,Jh (by rw [k.Z];exact y.Z),o,l⟩
 exact Jm
def xS (g:Nat) (cb:Array Value) (key:Int->Int) (blk n:Nat) (w0:World):Prop:=
 ∀(W:World),w0.grownBy W (some blk)-> ∀x y:Int,0<=x->x<n->0<=y->y<n->
  Calls Tryz.prog g (#[.int .i64 x, .int .i64 y]++cb) W fun e W'=> ∃c:Int,e= .returned (.int .i64 c)/\(c<0↔key x<key y)/\Below W.heap.size W W'
theorem xS.on {blk:Nat} (h:xS g cb key blk n w0) (hg:w0.grownBy w (some blk)):xS g cb key blk n w:=
 fun W e=>h W (zU hg e)
theorem xl (h:Below w w w') (row:Option Nat):w.grownBy w' row:=⟨h.os,h.tape,h.output,h.size,fun i hi _=>h.block i hi⟩
structure VN (key:Int->Int) (f f0:Nat->Int) (a i j:Nat):Prop where
 aj:a<=j
 ji:j<=i
 at_:f j=(i:Int)
 srt: ∀p q,a<=p->p<q->q<=i->p≠j->q≠j->RL key (f p) (f q)
 up: ∀q,j<q->q<=i->RL key (i:Int) (f q)
 val: ∀p,a<=p->p<=i->p≠j->(a:Int)<=f p/\f p<i
 Z: ∀p,p<a\/i<p->f p=f0 p
structure Xh (key:Int->Int) (f f0:Nat->Int) (a i:Nat):Prop where
 srt:Srt key f a i
 val: ∀p,a<=p->p<i->(a:Int)<=f p/\f p<i
 Z: ∀p,p<a\/i<=p->f p=f0 p
theorem Xh.start (h:f a=(a:Int)):Xh key f f a (a+1):=
 ⟨fun i j _ _ _=>om,fun p h1 h2=>by (obtain rfl:p=a:=by omega);omega,fun _ _=>rfl⟩
theorem Xh.open (h:Xh key f f0 a i) (hi:f0 i=(i:Int)) (ha:a<=i):VN key f f0 a i i:=
 ⟨ha,nI,by rw [h.Z i om];exact hi,fun p q h1 h2 h3 h4 e=>h.srt p q h1 h2 om,fun q h1 h2=>om,fun p h1 h2 h3=>h.val p h1 om,fun p hp=>h.Z p om⟩
theorem VN.close (h:VN key f f0 a i j) (l:j=a\/ ¬key (i:Int)<key (f (j - 1))):Xh key f f0 a (i+1):=by
 have aj:=h.aj;have ji:=h.ji
 have lo: ∀p,a<=p->p<j->RL key (f p) (i:Int):=by
  intro p h1 h2;rcases l with e | e
  omega;have v:=h.val (j - 1) om om om;have r:RL key (f (j - 1)) (i:Int):=RL.of_not (fun c=>e ((RL.later v.2).1 c)) om;by_cases k:p=j - 1
  rw [k];exact r;exact (h.srt p (j - 1) h1 om om om om).trans r
 refine ⟨fun p q h1 h2 h3=>?_,fun p h1 h2=>?_,fun p hp=>h.Z p om⟩;by_cases c1:p=j
 subst c1;rw [h.at_];exact h.up q h2 om;by_cases c2:q=j
 subst c2;rw [h.at_];exact lo p h1 h2;exact h.srt p q h1 h2 om c1 c2;by_cases c1:p=j
 subst c1;rw [h.at_];omega;have:=h.val p h1 om c1;omega
theorem VN.step (h:VN key f f0 a i (j+1)) (ha:a<=j) (hk:key (i:Int)<key (f j)):VN key (sw f (j+1) j) f0 a i j:=by
 have ji:=h.ji;have v:=h.val j ha om om;have r:RL key (i:Int) (f j):=(RL.later v.2).2 hk;have k:sw f (j+1) j (j+1)=f j:=by unfold sw;rw [if_pos rfl]
 have o:sw f (j+1) j j=(i:Int):=by unfold sw;rw [if_neg om,if_pos rfl];exact h.at_
 have e: ∀p,p≠j->p≠j+1->sw f (j+1) j p=f p:=fun p h1 h2=>by unfold sw;rw [if_neg h2,if_neg h1]
 refine ⟨ha,om,o,fun p q h1 h2 h3 h4 l=>?_,fun q h1 h2=>?_,fun p h1 h2 h3=>?_,fun p hp=>?_⟩;by_cases c1:p=j+1
 subst c1;rw [k,e q l om];exact h.srt j q ha om h3 om om;by_cases c2:q=j+1
 subst c2;rw [k,e p h4 c1];exact h.srt p j h1 om om c1 om;rw [e p h4 c1,e q l c2];exact h.srt p q h1 h2 h3 c1 c2;by_cases c1:q=j+1
 subst c1;rw [k];exact r;rw [e q om c1];exact h.up q om h2;by_cases c1:p=j+1
 subst c1;rw [k];exact v;rw [e p h3 c1];exact h.val p h1 h2 c1;rw [e p om om];exact h.Z p hp
set_option maxRecDepth 100000 in
theorem zAw (g:Nat) (cb:Array Value) (key:Int->Int) (blk n a b:Nat) (f:Nat->Int) (w:World) (eg: ∀args w,(callFunc g args).run Tryz.prog w= .ok (.enter g args) w) (C:xS g cb key blk n w) (ho:Own w blk n n (gen n f)) (hn:n<=100000) (h1:a<b) (h2:b<=n)
 (U: ∀k,a<=k->k<b->f k=(k:Int)):
 Calls Tryz.prog 290 #[.slice (some ⟨blk,0,none⟩) n n, .int .i64 a, .int .i64 b, .func (.func g) #[] cb] w fun e w'=> ∃f',e= .returned (.tuple #[])/\Own w' blk n n (gen n f')/\w.grownBy w' (some blk)/\Xh key f' f a b:=by
 have HO:=Jh ho;have HC:Aside _:=C;have HI:=Jh U;clear ho C U;go_enter Tryz.func290,Tryz.ntmps290;go_wp2_with fail
 go_loopg [8] (b - a) (fun gh vi wr=> ∃(i:Nat) (F:Nat->Int),vi= .int .i64 i/\a<i/\i<=b/\b<=i+gh/\Hd (Xh key F f a i)/\Hd (Own wr blk n n (gen n F))/\Hd (w.grownBy wr (some blk)))
 case atStart=>exact ⟨a+1,f,by go_num,by omega,by omega,by omega,Jh (Xh.start (HI.Z a (Nat.le_refl _) h1)),HO,Jh (yR _ _)⟩
 obtain ⟨i,F,rfl,i1,i2,b2,HF,s,z⟩:=hrel;by_cases b1:i<b
 . go_wp2_with fail
   go_loopg [9] i (fun gh vj Y=> ∃(j:Nat) (l:Nat->Int),vj= .int .i64 j/\a<=j/\j<=i/\j<=gh/\Hd (VN key l f a i j)/\Hd (Own Y blk n n (gen n l))/\Hd (w.grownBy Y (some blk)))
   case atStart=>exact ⟨i,F,rfl,by omega,Nat.le_refl _,Nat.le_refl _,Jh (HF.Z.open (HI.Z i (by omega) b1) (by omega)),s,z⟩
   clear s z HF;obtain ⟨j,l,rfl,j1,j2,b3,A,s,z⟩:=hrel;by_cases b4:a<j
   . obtain ⟨q,hq⟩: ∃q:Nat,j=q+1:=⟨j - 1,by omega⟩
     have zj:(j:Int) - 1=(q:Int):=by omega
     have c1:(a:Int)<(j:Int):=by omega
     have p2:(j:Int)<(n:Int):=by omega
     have p4:(q:Int)<(n:Int):=by omega
     have p5:IntKind.i64.wrap (q:Int)=(q:Int):=Yc _ (by omega);have p6:q<n:=by omega
     have B:=Jh hq;clear hq;have I:=jE s.Z (i:=j) (by omega);have cp:=jE s.Z (i:=q) p6;obtain ⟨x,J⟩: ∃x,x=l j:=⟨_,rfl⟩
     obtain ⟨y,L⟩: ∃y,y=l q:=⟨_,rfl⟩
     rw [<-J] at I;rw [<-L] at cp;have P:=Jh J;have Q:=Jh L;clear J L;have MK:Hd (∀v,BelowL wr v->v.cell? ⟨blk,j,none⟩=some (.int .i64 x)/\v.cell? ⟨blk,q,none⟩=some (.int .i64 y)/\BelowL wr v):=Jh (fun v h=>⟨(h.Z.cell s.Z.lt).trans I,(h.Z.cell s.Z.lt).trans cp,h⟩);go_wp2_with fail;have q0:=z.Z;have HV:=Jh (A.Z.val)
     have xv:0<=x/\x<n:=by
      rw [P.Z,A.Z.at_];omega
     have yv:0<=y/\y<n:=by
      have:=A.Z.val q (by have:=B.Z;omega) (by have:=B.Z;omega) (by have:=B.Z;omega);rw [Q.Z];omega
     have CC:Hd (∀v,BelowL wr v->Calls Tryz.prog g (#[.int .i64 x, .int .i64 y]++cb) v fun e v'=> ∃c:Int,e= .returned (.int .i64 c)/\(c<0↔key x<key y)/\Below v.heap.size v v'):=Jh (fun v hv=>HC.out v (zU z.Z (xl hv.Z _)) x y xv.1 xv.2 yv.1 yv.2);clear q0 HV xv yv
     go_region_held3 (fun v=>v.cell? ⟨blk,j,none⟩=some (.int .i64 x)/\v.cell? ⟨blk,q,none⟩=some (.int .i64 y)/\BelowL wr v)
      (first | exact MK.Z _ t | exact MK.Z _ (BelowL.start _))
      (first
       | (go_at_fn g;((with_reducible refine (CC.Z _ (uo (by assumption))).mono ?_);rintro e v1 ⟨c,rfl,hc,X⟩;have t:=BelowL.call (uo (by assumption)) X)))
     have o:=Jh (s.Z.below t.Z s.Z.lt);have O:=Jh (zU z.Z (xl t.Z _));clear I cp t X MK CC;by_cases hk:key x<key y
     . have HK:=Jh hk
       have b0:=Jh (show VN key (sw l j q) f a i q by
        have e:=B.Z;subst e
        exact A.Z.step (by omega) (by have h:=HK.Z;rw [P.Z,A.Z.at_,Q.Z] at h;exact h))
       clear P Q hc;go_wp2_with fail;obtain ⟨M,T⟩: ∃zz,zz=j:=⟨_,rfl⟩
       obtain ⟨N,V⟩: ∃zz,zz=q:=⟨_,rfl⟩
       have ea:((j:Int)).toNat=M:=by omega
       have pa:(0:Int)<=(j:Int):=by omega
       have ba:(j:Int)<(n:Int):=by omega
       have ra:IntKind.i64.wrap ((j:Int))=(j:Int):=by rw [IntKind.wrap_i64];omega
       have ec:((q:Int)).toNat=N:=by omega
       have pc:(0:Int)<=(q:Int):=by omega
       have bc:(q:Int)<(n:Int):=by omega
       have rc:IntKind.i64.wrap ((q:Int))=(q:Int):=by rw [IntKind.wrap_i64];omega
       have G:M≠N:=by omega
       have E:M<n:=by omega
       have H:N<n:=by omega
       obtain ⟨sx,J⟩: ∃zz,zz=(l) M:=⟨_,rfl⟩
       obtain ⟨sy,L⟩: ∃zz,zz=(l) N:=⟨_,rfl⟩
       have SO:=Jh (zBf o.Z E H G);have I:=jE o.Z E;have R:=jE o.Z H;have fa:=o.Z.frozen M;have fb:=o.Z.frozen N;rw [<-J] at I SO;rw [<-L] at R SO;obtain ⟨u,cu⟩:=zBG o.Z E H G (.int .i64 sy);have SE:sw (l) M N=sw (l) (j) (q):=by rw [T,V]
       rw [SE] at SO;clear J L G T V SE;go_wp2_with fail
       go_big_region
       clear I R fa fb cu;go_wp2_with fail
       go_roundg q
       case measure=>have:=B.Z;omega
       exact ⟨q,sw l j q,rfl,by have:=B.Z;omega,by have:=B.Z;omega,Nat.le_refl _,b0,Jh (SO.Z.drewN 1),Jh (xc (yO (yO O.Z _) _) 1)⟩
     have HK:=Jh hk
     have D:=Jh (show Xh key l f a (i+1) from A.Z.close (Or.inr (by
      have e:=B.Z;subst e;have h:=HK.Z;rw [P.Z,A.Z.at_,Q.Z] at h
      exact h)))
     clear P Q hc;go_wp2_with fail
     go_roundg (b - (i+1))
     case measure=>omega
     exact ⟨i+1,l,by go_num,by omega,by omega,by omega,D,o,O⟩
   have c0:decide ((j:Int)>(a:Int))=false:=decide_eq_false (by omega);have c1: ¬(a:Int)<(j:Int):=by omega
   have D:=Jh (show Xh key l f a (i+1) from A.Z.close (Or.inl (by omega)));go_wp2_with fail
   go_big_region
   go_wp2_with fail
   go_roundg (b - (i+1))
   case measure=>omega
   exact ⟨i+1,l,by go_num,by omega,by omega,by omega,D,Jh (s.Z.drewN 1),Jh (xc z.Z 1)⟩
 obtain rfl:i=b:=by omega
 go_wp2_with fail
 go_end0
 exact ⟨F,rfl,s.Z,z.Z,HF.Z⟩
def uI (f:Nat->Int) (n:Nat):Prop:= ∀k,k<n->0<=f k/\f k<n
theorem Ui (i j:Nat) (h:i<j): ∃c:Nat,((i:Int)+(j:Int))/2=c/\i<=c/\c<j:=⟨(i+j)/2,om,om,om⟩
theorem zPf (sr:Srt key f m b) (h:RL key (f c) (f a)) (hc:c<b) (P: ∀k,m<=k->k<i->RL key (f k) (f a)): ∀k,m<=k->k<c+1->RL key (f k) (f a):=by
 intro k h1 h2;by_cases e:k=c
 rw [e];exact h;exact (sr k c h1 om hc).trans h
theorem zLG (sr:Srt key f m b) (h: ¬RL key (f c) (f a)) (hc:m<=c): ∀k,c<=k->k<b-> ¬RL key (f k) (f a):=by
 intro k h1 h2 h3;by_cases e:k=c
 rw [e] at h3;exact h h3;exact h ((sr c k hc om h2).trans h3)
theorem zOG (sl:Srt key f a m) (h: ¬RL key (f m) (f c)) (hc:c<m): ∀k,a<=k->k<c+1-> ¬RL key (f m) (f k):=by
 intro k h1 h2 h3;by_cases e:k=c
 rw [e] at h3;exact h h3;exact h (h3.trans (sl k c h1 om hc))
theorem zJJ (sl:Srt key f a m) (h:RL key (f m) (f c)) (hc:a<=c): ∀k,c<=k->k<m->RL key (f m) (f k):=by
 intro k h1 h2;by_cases e:k=c
 rw [e];exact h;exact h.trans (sl c k hc om h2)
theorem zLF (h1:a+1<=i) (h2:i<=b) (sr:Srt key f (a+1) b) (hl:jL f a (a+1) b) (p: ∀k,a+1<=k->k<i->RL key (f k) (f a)) (q: ∀k,i<=k->k<b-> ¬RL key (f k) (f a)):zT key (za a (a+1) i f) f a b:=by
 have S:=zCV h1 h2 sr hl p q;exact S.done (zT.self S.lo.2) (zT.self (Ur h1 h2 sr hl q))
theorem zJI (h1:a<=i) (h2:i<=m) (sl:Srt key f a m) (hl:jL f a m (m+1)) (p: ∀k,a<=k->k<i-> ¬RL key (f m) (f k)) (q: ∀k,i<=k->k<m->RL key (f m) (f k)):zT key (za i m (m+1) f) f a (m+1):=by
 have S:=zBc h1 h2 sl hl p q;exact S.done (zT.self (UQ h1 h2 sl hl p)) (zT.self S.hi.1)
set_option maxRecDepth 100000 in
theorem zOb (g:Nat) (cb:Array Value) (key:Int->Int) (blk n a m b:Nat) (f:Nat->Int) (w:World) (eg: ∀args w,(callFunc g args).run Tryz.prog w= .ok (.enter g args) w) (t:xS g cb key blk n w) (ho:Own w blk n n (gen n f)) (hn:n<=100000)
 (h1:m=a+1) (h2:m<b) (h3:b<=n) (hv:uI f n) (sr:Srt key f m b) (hl:jL f a m b):
 Calls Tryz.prog 291 #[.slice (some ⟨blk,0,none⟩) n n, .int .i64 a, .int .i64 m, .int .i64 b, .func (.func g) #[] cb] w fun e w'=> ∃f',e= .returned (.tuple #[])/\Own w' blk n n (gen n f')/\w.grownBy w' (some blk)/\zT key f' f a b:=by
 have HO:=Jh ho;have HC:Aside _:=t;have zm:(m:Int) - (a:Int)=1:=by omega
 have am:a<m:=by omega
 have HM:=Jh h1;have HV:=Jh hv;have A:=Jh sr;have L:=Jh hl;clear ho t h1 hv sr hl;go_enter Tryz.func291,Tryz.ntmps291;go_wp2_with fail
 go_loopw [10,11] (fun vi vj wr=> ∃i j:Nat,vi= .int .i64 i/\vj= .int .i64 j/\m<=i/\i<=j/\j<=b/\Hd (∀k,m<=k->k<i->RL key (f k) (f a))/\Hd (∀k,j<=k->k<b-> ¬RL key (f k) (f a))/\Hd (Own wr blk n n (gen n f))/\Hd (w.grownBy wr (some blk))) (fun vi vj _=>(intOf vj).toNat - (intOf vi).toNat)
 case atStart=>exact ⟨m,b,rfl,rfl,Nat.le_refl _,by omega,Nat.le_refl _,Jh (fun k h1 h2=>by omega),Jh (fun k h1 h2=>by omega),HO,Jh (yR _ _)⟩
 obtain ⟨i,j,rfl,rfl,i1,i2,i3,X,P2,l,z⟩:=hrel;by_cases b1:i<j
 . obtain ⟨c,hc,q1,q2⟩:=Ui i j b1
   have T:m<=c:=by omega
   have b3:a<n:=by omega
   have cn:c<n:=by omega
   have bi:((c:Nat):Int)<(n:Int):=by omega
   have bj:((a:Nat):Int)<(n:Int):=by omega
   have E:=jE l.Z (i:=c) (by omega);have cp:=jE l.Z (i:=a) (by omega);obtain ⟨x,F⟩: ∃zz,zz=(f) (c):=⟨_,rfl⟩
   obtain ⟨y,G⟩: ∃zz,zz=(f) (a):=⟨_,rfl⟩
   have xv:=HV.Z (c) (by omega);have yv:=HV.Z (a) (by omega);rw [<-F] at E xv;rw [<-G] at cp yv;have U:=Jh F;have V:=Jh G;have MK:Hd (∀v,BelowL wr v->v.cell? ⟨blk,c,none⟩=some (.int .i64 x)/\v.cell? ⟨blk,a,none⟩=some (.int .i64 y)/\BelowL wr v):=Jh (fun v h=>⟨(h.Z.cell l.Z.lt).trans E,(h.Z.cell l.Z.lt).trans cp,h⟩);have CC:Hd (∀v,BelowL wr v->Calls Tryz.prog g (#[.int .i64 x, .int .i64 y]++cb) v fun e v'=> ∃c:Int,e= .returned (.int .i64 c)/\(c<0↔key x<key y)/\Below v.heap.size v v'):=Jh (fun v hv=>HC.out v (zU z.Z (xl hv.Z _)) x y xv.1 xv.2 yv.1 yv.2);clear F G xv yv;go_wp2_with fail
   go_region_held3 (fun v=>v.cell? ⟨blk,c,none⟩=some (.int .i64 x)/\v.cell? ⟨blk,a,none⟩=some (.int .i64 y)/\BelowL wr v)
    (first | exact MK.Z _ q | exact MK.Z _ (BelowL.start _))
    (first
     | (go_at_fn g;((with_reducible refine (CC.Z _ (uo (by assumption))).mono ?_);rintro e v1 ⟨cc,rfl,b4,R⟩;have q:=BelowL.call (uo (by assumption)) R)))
   have M:=Jh (l.Z.below q.Z l.Z.lt);have J:=Jh (zU z.Z (xl q.Z _));clear E cp q R MK CC bi bj;have o:=Jh (L.Z a c (Nat.le_refl _) am T (by omega));by_cases hk:key x<key y
   . have P3:=Jh (zPf A.Z (show RL key (f c) (f a) by rw [RL.later o.Z,<-U.Z,<-V.Z];exact hk) (by omega) X.Z)
     clear U V o;go_wp2_with fail;go_roundw
     case rel=>exact ⟨c+1,j,by go_num,rfl,by omega,by omega,i3,P3,P2,M,J⟩
     simp [intOf];omega
   have P3:=Jh (zLG A.Z (show ¬RL key (f c) (f a) by rw [RL.later o.Z,<-U.Z,<-V.Z];exact hk) T);clear U V o;go_wp2_with fail;go_roundw
   case rel=>exact ⟨i,c,rfl,rfl,i1,q1,by omega,X,P3,M,J⟩
   simp [intOf];omega
 obtain rfl:i=j:=by omega
 obtain ⟨s,O⟩: ∃s:Nat,i=s+1:=⟨i - 1,by omega⟩
 have zi:(i:Int) - 1=(s:Int):=by omega
 have i4:a<=s:=by omega
 have i5:s+1<=b:=by omega
 have b0:=Jh O;clear O
 have HD:Hd (zT key (za a (a+1) i f) f a b):=Jh (by
  have e:=HM.Z;subst e
  exact zLF i1 i3 A.Z L.Z X.Z P2.Z)
 clear zm X P2;have HS:=Jh (show za a (a+1) (a+1) f=f from ZC f (Or.inr rfl) (by omega) (Nat.le_refl _));go_wp2_with fail
 go_loopw [13] (fun vk wr=> ∃k:Nat,vk= .int .i64 k/\a<=k/\k<=s/\Hd (Own wr blk n n (gen n (za a (a+1) (k+1) f)))/\Hd (w.grownBy wr (some blk))) (fun vk _=>s - (intOf vk).toNat)
 case atStart=>exact ⟨a,rfl,Nat.le_refl _,i4,Jh (by rw [HS.Z];exact l.Z),z⟩
 clear l z;obtain ⟨k,rfl,k1,k2,l,z⟩:=hrel;by_cases b2:k<s
 . obtain ⟨H,P⟩: ∃zz,zz=k:=⟨_,rfl⟩
   obtain ⟨I,Q⟩: ∃zz,zz=k+1:=⟨_,rfl⟩
   have ea:((k:Int)).toNat=H:=by omega
   have pa:(0:Int)<=(k:Int):=by omega
   have ba:(k:Int)<(n:Int):=by omega
   have ra:IntKind.i64.wrap ((k:Int))=(k:Int):=by rw [IntKind.wrap_i64];omega
   have ec:((k:Int)+1).toNat=I:=by omega
   have pc:(0:Int)<=(k:Int)+1:=by omega
   have bc:(k:Int)+1<(n:Int):=by omega
   have rc:IntKind.i64.wrap ((k:Int)+1)=(k:Int)+1:=by rw [IntKind.wrap_i64];omega
   have C:H≠I:=by omega
   have B:H<n:=by omega
   have D:I<n:=by omega
   obtain ⟨sx,F⟩: ∃zz,zz=(za a (a+1) (k+1) f) H:=⟨_,rfl⟩
   obtain ⟨sy,G⟩: ∃zz,zz=(za a (a+1) (k+1) f) I:=⟨_,rfl⟩
   have Y:=Jh (zBf l.Z B D C);have E:=jE l.Z B;have N:=jE l.Z D;have fa:=l.Z.frozen H;have fb:=l.Z.frozen I;rw [<-F] at E Y;rw [<-G] at N Y;obtain ⟨u,cu⟩:=zBG l.Z B D C (.int .i64 sy);have SE:sw (za a (a+1) (k+1) f) H I=sw (za a (a+1) (k+1) f) (k) (k+1):=by rw [P,Q]
   rw [SE] at Y;clear F G C P Q SE;go_wp2_with fail
   go_big_region
   clear E N fa fb cu;go_wp2_with fail;go_roundw
   case rel=>exact ⟨k+1,by go_num,by omega,by omega,Jh (by rw [<-zRV a k m f k1];exact Y.Z.drewN 1),Jh (xc (yO (yO z.Z _) _) 1)⟩
   simp [intOf];omega
 obtain rfl:k=s:=by omega
 go_wp2_with fail;exact bodyPost_ret (results_none rfl _ _ _) rfl ⟨_,rfl,l.Z,z.Z,by rw [<-b0.Z];exact HD.Z⟩
set_option maxRecDepth 100000 in
theorem zMR (g:Nat) (cb:Array Value) (key:Int->Int) (blk n a m b:Nat) (f:Nat->Int) (w:World) (eg: ∀args w,(callFunc g args).run Tryz.prog w= .ok (.enter g args) w) (z:xS g cb key blk n w) (ho:Own w blk n n (gen n f)) (hn:n<=100000)
 (h0:m≠a+1) (h1:a<m) (h2:b=m+1) (h3:b<=n) (hv:uI f n) (sl:Srt key f a m) (hl:jL f a m b):
 Calls Tryz.prog 291 #[.slice (some ⟨blk,0,none⟩) n n, .int .i64 a, .int .i64 m, .int .i64 b, .func (.func g) #[] cb] w fun e w'=> ∃f',e= .returned (.tuple #[])/\Own w' blk n n (gen n f')/\w.grownBy w' (some blk)/\zT key f' f a b:=by
 have HO:=Jh ho;have HC:Aside _:=z;obtain ⟨t,ht⟩: ∃t:Nat,t=m - a:=⟨_,rfl⟩
 have zt:(m:Int) - (a:Int)=(t:Int):=by omega
 have b2:((t:Int)==1)=false:=by simp;omega
 have zb:(b:Int) - (m:Int)=1:=by omega
 have mb:m<b:=by omega
 have HM:=Jh h2;have HV:=Jh hv;have B:=Jh sl;have M:=Jh hl;clear ho z h0 h2 hv sl hl ht;go_enter Tryz.func291,Tryz.ntmps291;go_wp2_with fail
 go_loopw [14,15] (fun vi vj wr=> ∃i j:Nat,vi= .int .i64 i/\vj= .int .i64 j/\a<=i/\i<=j/\j<=m/\Hd (∀k,a<=k->k<i-> ¬RL key (f m) (f k))/\Hd (∀k,j<=k->k<m->RL key (f m) (f k))/\Hd (Own wr blk n n (gen n f))/\Hd (w.grownBy wr (some blk))) (fun vi vj _=>(intOf vj).toNat - (intOf vi).toNat)
 case atStart=>exact ⟨a,m,rfl,rfl,Nat.le_refl _,by omega,Nat.le_refl _,Jh (fun k h1 h2=>by omega),Jh (fun k h1 h2=>by omega),HO,Jh (yR _ _)⟩
 obtain ⟨i,j,rfl,rfl,i1,i2,i3,P1,P2,l,A⟩:=hrel;by_cases b1:i<j
 . obtain ⟨c,hc,q1,q2⟩:=Ui i j b1
   have T:a<=c:=by omega
   have cm:c<m:=by omega
   have cn:c<n:=by omega
   have mn:m<n:=by omega
   have bi:((m:Nat):Int)<(n:Int):=by omega
   have bj:((c:Nat):Int)<(n:Int):=by omega
   have F:=jE l.Z (i:=m) (by omega);have cp:=jE l.Z (i:=c) (by omega);obtain ⟨x,G⟩: ∃zz,zz=(f) (m):=⟨_,rfl⟩
   obtain ⟨y,H⟩: ∃zz,zz=(f) (c):=⟨_,rfl⟩
   have Y:=HV.Z (m) (by omega);have yv:=HV.Z (c) (by omega);rw [<-G] at F Y;rw [<-H] at cp yv;have U:=Jh G;have V:=Jh H;have MK:Hd (∀v,BelowL wr v->v.cell? ⟨blk,m,none⟩=some (.int .i64 x)/\v.cell? ⟨blk,c,none⟩=some (.int .i64 y)/\BelowL wr v):=Jh (fun v h=>⟨(h.Z.cell l.Z.lt).trans F,(h.Z.cell l.Z.lt).trans cp,h⟩);have CC:Hd (∀v,BelowL wr v->Calls Tryz.prog g (#[.int .i64 x, .int .i64 y]++cb) v fun e v'=> ∃c:Int,e= .returned (.int .i64 c)/\(c<0↔key x<key y)/\Below v.heap.size v v'):=Jh (fun v hv=>HC.out v (zU A.Z (xl hv.Z _)) x y Y.1 Y.2 yv.1 yv.2);clear G H Y yv;go_wp2_with fail
   go_region_held3 (fun v=>v.cell? ⟨blk,m,none⟩=some (.int .i64 x)/\v.cell? ⟨blk,c,none⟩=some (.int .i64 y)/\BelowL wr v)
    (first | exact MK.Z _ s | exact MK.Z _ (BelowL.start _))
    (first
     | (go_at_fn g;((with_reducible refine (CC.Z _ (uo (by assumption))).mono ?_);rintro e v1 ⟨cc,rfl,b4,R⟩;have s:=BelowL.call (uo (by assumption)) R)))
   have N:=Jh (l.Z.below s.Z l.Z.lt);have L:=Jh (zU A.Z (xl s.Z _));clear F cp s R MK CC bi bj;have q:=Jh (M.Z c m T cm (Nat.le_refl _) mb);by_cases hk:key x<key y
   . have o:(!decide (key x<key y))=false:=by simp [hk]
     rw [o];clear o;have P3:=Jh (zJJ B.Z (show RL key (f m) (f c) by rw [RL.later q.Z,<-U.Z,<-V.Z];exact hk) T);clear U V q;go_wp2_with fail;go_roundw
     case rel=>exact ⟨i,c,rfl,rfl,i1,q1,by omega,P1,P3,N,L⟩
     simp [intOf];omega
   have o:(!decide (key x<key y))=true:=by simp;omega
   rw [o];clear o;have P3:=Jh (zOG B.Z (show ¬RL key (f m) (f c) by rw [RL.later q.Z,<-U.Z,<-V.Z];exact hk) cm);clear U V q;go_wp2_with fail;go_roundw
   case rel=>exact ⟨c+1,j,by go_num,rfl,by omega,by omega,i3,P3,P2,N,L⟩
   simp [intOf];omega
 obtain rfl:i=j:=by omega
 have HD:Hd (zT key (za i m (m+1) f) f a b):=Jh (by
  have e:=HM.Z;subst e
  exact zJI i1 i3 B.Z M.Z P1.Z P2.Z)
 clear zt b2 zb P1 P2;have HS:=Jh (show za m m (m+1) f=f from ZC f (Or.inl rfl) (Nat.le_refl _) (by omega));go_wp2_with fail
 go_loopw [17] (fun vk wr=> ∃k:Nat,vk= .int .i64 k/\i<=k/\k<=m/\Hd (Own wr blk n n (gen n (za k m (m+1) f)))/\Hd (w.grownBy wr (some blk))) (fun vk _=>(intOf vk).toNat)
 case atStart=>exact ⟨m,rfl,i3,Nat.le_refl _,Jh (by rw [HS.Z];exact l.Z),A⟩
 clear l A;obtain ⟨k,rfl,k1,k2,l,A⟩:=hrel;by_cases b3:i<k
 . obtain ⟨r,hr⟩: ∃r:Nat,k=r+1:=⟨k - 1,by omega⟩
   have zr:(k:Int) - 1=(r:Int):=by omega
   have r1:i<=r:=by omega
   have r2:r<m:=by omega
   have r3:r<k:=by omega
   have b0:=Jh hr;clear hr;obtain ⟨I,P⟩: ∃zz,zz=k:=⟨_,rfl⟩
   obtain ⟨J,Q⟩: ∃zz,zz=r:=⟨_,rfl⟩
   have ea:((k:Int)).toNat=I:=by omega
   have pa:(0:Int)<=(k:Int):=by omega
   have ba:(k:Int)<(n:Int):=by omega
   have ra:IntKind.i64.wrap ((k:Int))=(k:Int):=by rw [IntKind.wrap_i64];omega
   have ec:((r:Int)).toNat=J:=by omega
   have pc:(0:Int)<=(r:Int):=by omega
   have bc:(r:Int)<(n:Int):=by omega
   have rc:IntKind.i64.wrap ((r:Int))=(r:Int):=by rw [IntKind.wrap_i64];omega
   have D:I≠J:=by omega
   have C:I<n:=by omega
   have E:J<n:=by omega
   obtain ⟨sx,G⟩: ∃zz,zz=(za k m (m+1) f) I:=⟨_,rfl⟩
   obtain ⟨sy,H⟩: ∃zz,zz=(za k m (m+1) f) J:=⟨_,rfl⟩
   have X:=Jh (zBf l.Z C E D);have F:=jE l.Z C;have O:=jE l.Z E;have fa:=l.Z.frozen I;have fb:=l.Z.frozen J;rw [<-G] at F X;rw [<-H] at O X;obtain ⟨u,cu⟩:=zBG l.Z C E D (.int .i64 sy);have SE:sw (za k m (m+1) f) I J=sw (za k m (m+1) f) (k) (r):=by rw [P,Q]
   rw [SE] at X;clear G H D P Q SE;go_wp2_with fail
   go_big_region
   clear F O fa fb cu;have HE:Hd (sw (za k m (m+1) f) k r=za r m (m+1) f):=Jh (by have e:=b0.Z;subst e;exact zPw r m f r2);go_wp2_with fail;go_roundw
   case rel=>exact ⟨r,rfl,r1,by omega,Jh (by rw [<-HE.Z];exact X.Z.drewN 1),Jh (xc (yO (yO A.Z _) _) 1)⟩
   simp [intOf];omega
 obtain rfl:i=k:=by omega
 go_wp2_with fail;exact bodyPost_ret (results_none rfl _ _ _) rfl ⟨_,rfl,l.Z,A.Z,HD.Z⟩
end Go.Proofs.YtlenfgdjdianiaaGreatDoor
