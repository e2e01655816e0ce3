/- Facts on which this claim rests, 22. -/
import Derived.Test.YtlenfgdjdianiaaGreatDoorF21
set_option linter.all false
set_option maxHeartbeats 6400000
namespace Go.Proofs.YtlenfgdjdianiaaGreatDoor
open Go.RowKit Tq Go.Proofs.Tryz
variable {a b e m n s x y z : Nat} {f g : Nat → Int} {key : Int → Int}
theorem Srt.congr (h:Srt key f x y) (e: ∀k,x<=k->k<y->g k=f k):Srt key g x y:=fun i j p q r=>by
 rw [e i p om,e j om r];exact h i j p q r
theorem jL.congr (h:jL f x z y) (e: ∀k,x<=k->k<y->g k=f k) (h1:x<=z) (h2:z<=y):jL g x z y:=fun i j p q r t=>by
 rw [e i p om,e j om t];exact h i j p q r t
theorem uI.merged (h:uI f n) (m:zT key g f x y) (j:y<=n):uI g n:=fun k hk=>by
 by_cases c:k<x\/y<=k
 rw [m.same k c];exact h k hk;obtain ⟨i,a0,a1,a2⟩:=m.frm k om om;rw [a2];exact h i om
theorem uI.rot (h:uI f n) (h1:s<=m) (h2:m<=e) (h3:e<=n):uI (za s m e f) n:=fun k hk=>by
 obtain ⟨c,a0,a1,a2⟩:=zAE (a:=0) (b:=n) f nZ h1 h2 h3 k nZ hk;rw [a2];exact h c a1
theorem zDh {mid:Nat} (S:vp key f a s m e b) (hl:jL f a m b) (c:s+(e - m)=mid):
 Srt key (za s m e f) a s/\Srt key (za s m e f) s mid/\Srt key (za s m e f) mid e/\Srt key (za s m e f) e b/\jL (za s m e f) a s mid/\jL (za s m e f) mid e b/\
 (∀g1 g2,zT key g1 (za s m e f) a mid->zT key g2 g1 mid b->zT key g2 f a b):=by
 subst c;exact ⟨S.lo.1,S.lo.2,S.hi.1,S.hi.2,(S.lless hl).1,(S.lless hl).2,fun g1 g2=>S.done⟩
theorem zGt {mid lo hi:Nat} (h1:a<m) (h2:m<b) (hm:(a+b)/2=mid) (h:(lo=a/\hi=m/\m<=mid)\/(lo+b=mid+m/\hi=mid/\mid<m)) (sl:Srt key f a m) (sr:Srt key f m b):zAT key f a m b (mid+m - 1) lo hi:=by
 rcases h with ⟨rfl,rfl,h3⟩ | ⟨h3,rfl,h4⟩
 exact ⟨nI,nI,om,fun c p q=>om,sl,sr⟩;exact ⟨om,om,om,fun c p q=>om,sl,sr⟩
set_option maxRecDepth 100000 in
theorem zOc (g:Nat) (cb:Array Value) (key:Int->Int) (blk n N:Nat) (eg: ∀args w,(callFunc g args).run Tryz.prog w= .ok (.enter g args) w) (hn:n<=100000)
 (ih: ∀(a m b:Nat) (f:Nat->Int) (w:World),b - a<=N->xS g cb key blk n w->Own w blk n n (gen n f)->a<m->m<b->b<=n->uI f n->Srt key f a m->Srt key f m b->jL f a m b->
  Calls Tryz.prog 291 #[.slice (some ⟨blk,0,none⟩) n n, .int .i64 a, .int .i64 m, .int .i64 b, .func (.func g) #[] cb] w fun e w'=> ∃f',e= .returned (.tuple #[])/\Own w' blk n n (gen n f')/\w.grownBy w' (some blk)/\zT key f' f a b)
 (a m b:Nat) (f:Nat->Int) (w:World) (hN:b - a<=N+1) (c4:xS g cb key blk n w) (B:Own w blk n n (gen n f)) (ha:m≠a+1) (hb:b≠m+1) (h1:a<m) (h2:m<b) (h3:b<=n) (hv:uI f n) (sl:Srt key f a m) (sr:Srt key f m b) (hl:jL f a m b):
 Calls Tryz.prog 291 #[.slice (some ⟨blk,0,none⟩) n n, .int .i64 a, .int .i64 m, .int .i64 b, .func (.func g) #[] cb] w fun e w'=> ∃f',e= .returned (.tuple #[])/\Own w' blk n n (gen n f')/\w.grownBy w' (some blk)/\zT key f' f a b:=by
 have X:Aside _:=ih;have HO:=Jh B;have U:Aside _:=c4;have HV:=Jh hv;have b2:=Jh hl;obtain ⟨t,ht⟩: ∃t:Nat,t=m - a:=⟨_,rfl⟩
 have zt:(m:Int) - (a:Int)=(t:Int):=by omega
 have d8:((t:Int)==1)=false:=by simp;omega
 obtain ⟨u,hu⟩: ∃u:Nat,u=b - m:=⟨_,rfl⟩
 have zu:(b:Int) - (m:Int)=(u:Int):=by omega
 have e0:((u:Int)==1)=false:=by simp;omega
 obtain ⟨mid,c5⟩: ∃mid:Nat,(a+b)/2=mid:=⟨_,rfl⟩
 have d1:((a:Int)+(b:Int))/2=(mid:Int):=by omega
 have c8:a<mid:=by omega
 have d0:mid<b:=by omega
 obtain ⟨NN,e3⟩: ∃NN:Nat,NN=mid+m:=⟨_,rfl⟩
 have d7:(mid:Int)+(m:Int)=(NN:Int):=by omega
 obtain ⟨p,hp⟩: ∃p:Nat,p=NN - 1:=⟨_,rfl⟩
 have zp:(NN:Int) - 1=(p:Int):=by omega
 have f4:p+1<=NN:=by omega
 have f5:NN<=p+1:=by omega
 have f6:mid+m<=NN:=by omega
 have f8:NN<=mid+m:=by omega
 have d5:=Jh c5;have HP:Hd (p=mid+m - 1):=Jh (by omega);have d6: ∀lo hi:Nat,((lo=a/\hi=m/\m<=mid)\/(lo+b=mid+m/\hi=mid/\mid<m))->zAT key f a m b p lo hi:=fun lo hi h=>by rw [HP.Z];exact zGt h1 h2 d5.Z h sl sr
 have b8:Aside _:=d6;clear ih B c4 ha hb hv sl sr hl ht hu c5 e3 hp d6;go_enter Tryz.func291,Tryz.ntmps291;by_cases e8:mid<m
 . obtain ⟨lo,e5⟩: ∃lo:Nat,lo=NN - b:=⟨_,rfl⟩
   have g0:(NN:Int) - (b:Int)=(lo:Int):=by omega
   have F:=Jh (b8.out lo mid (Or.inr (by omega)));have f0:lo+b<=NN:=by omega
   have f1:NN<=lo+b:=by omega
   have f2:a<=lo:=by omega
   have d4:lo<=mid:=by omega
   have e7:mid<=m:=by omega
   clear e5 b8;have P0:=Jh (show wD key f p lo mid lo mid from ⟨Nat.le_refl _,d4,Nat.le_refl _,fun c h1 h2=>by omega,fun c h1 h2=>by omega⟩);go_wp2_with fail
   go_loopw [20,21] (fun vs vr wr=> ∃s r:Nat,vs= .int .i64 s/\vr= .int .i64 r/\Hd (wD key f p lo mid s r)/\Hd (Own wr blk n n (gen n f))/\Hd (w.grownBy wr (some blk))) (fun vs vr _=>(intOf vr).toNat - (intOf vs).toNat)
   case atStart=>exact ⟨lo,mid,rfl,rfl,P0,HO,Jh (yR _ _)⟩
   obtain ⟨s,r,rfl,rfl,P,V,HG⟩:=hrel;have s1:=P.Z.h1;have s2:=P.Z.h2;have s3:=P.Z.h3;by_cases d3:s<r
   . obtain ⟨c,hc,q1,q2⟩:=Ui s r d3
     obtain ⟨b6,b7,e6⟩:=F.Z.pl c (by omega) (by omega);obtain ⟨e,he⟩: ∃e:Nat,e=p - c:=⟨_,rfl⟩
     have ze:(p:Int) - (c:Int)=(e:Int):=by omega
     rw [<-he] at b6 b7;have HE:=Jh he;have we:IntKind.i64.wrap (e:Int)=(e:Int):=Yc _ (by omega);have cn:c<n:=by omega
     have en:e<n:=by omega
     have c0:a<=c:=by omega
     have c1:c<m:=by omega
     clear he;have bi:((e:Nat):Int)<(n:Int):=by omega
     have bj:((c:Nat):Int)<(n:Int):=by omega
     have ca:=jE V.Z (i:=e) (by omega);have cp:=jE V.Z (i:=c) (by omega);obtain ⟨x,hx⟩: ∃zz,zz=(f) (e):=⟨_,rfl⟩
     obtain ⟨y,hy⟩: ∃zz,zz=(f) (c):=⟨_,rfl⟩
     have xv:=HV.Z (e) (by omega);have yv:=HV.Z (c) (by omega);rw [<-hx] at ca xv;rw [<-hy] at cp yv;have HX:=Jh hx;have HY:=Jh hy;have MK:Hd (∀v,BelowL wr v->v.cell? ⟨blk,e,none⟩=some (.int .i64 x)/\v.cell? ⟨blk,c,none⟩=some (.int .i64 y)/\BelowL wr v):=Jh (fun v h=>⟨(h.Z.cell V.Z.lt).trans ca,(h.Z.cell V.Z.lt).trans cp,h⟩);have CC:Hd (∀v,BelowL wr v->Calls Tryz.prog g (#[.int .i64 x, .int .i64 y]++cb) v fun e v'=> ∃c:Int,e= .returned (.int .i64 c)/\(c<0↔key x<key y)/\Below v.heap.size v v'):=Jh (fun v hv=>U.out v (zU HG.Z (xl hv.Z _)) x y xv.1 xv.2 yv.1 yv.2);clear hx hy xv yv;go_wp2_with fail
     go_region_held3 (fun v=>v.cell? ⟨blk,e,none⟩=some (.int .i64 x)/\v.cell? ⟨blk,c,none⟩=some (.int .i64 y)/\BelowL wr v)
      (first | exact MK.Z _ b1 | exact MK.Z _ (BelowL.start _))
      (first
       | (go_at_fn g;((with_reducible refine (CC.Z _ (uo (by assumption))).mono ?_);rintro e v1 ⟨cc,rfl,e4,b5⟩;have b1:=BelowL.call (uo (by assumption)) b5)))
     have b4:=Jh (V.Z.below b1.Z V.Z.lt);have b3:=Jh (zU HG.Z (xl b1.Z _));clear ca cp b1 b5 MK CC bi bj;have b0:=Jh (b2.Z c e c0 c1 b6 b7);by_cases hk:key x<key y
     . have Y:(!decide (key x<key y))=false:=by simp [hk]
       rw [Y];clear Y;have P3:=Jh (P.Z.down F.Z q1 q2 (show RL key (f (p - c)) (f c) by rw [<-HE.Z,RL.later b0.Z,<-HX.Z,<-HY.Z];exact hk));clear HX HY b0;go_wp2_with fail;go_roundw
       case rel=>exact ⟨s,c,rfl,rfl,P3,b4,b3⟩
       simp [intOf];omega
     have Y:(!decide (key x<key y))=true:=by simp;omega
     rw [Y];clear Y;have P3:=Jh (P.Z.up F.Z q1 q2 (show ¬RL key (f (p - c)) (f c) by rw [<-HE.Z,RL.later b0.Z,<-HX.Z,<-HY.Z];exact hk));clear HX HY b0;go_wp2_with fail;go_roundw
     case rel=>exact ⟨c+1,r,by go_num,rfl,P3,b4,b3⟩
     simp [intOf];omega
   obtain rfl:s=r:=by omega
   obtain ⟨e,he⟩: ∃e:Nat,e=NN - s:=⟨_,rfl⟩
   have ze:(NN:Int) - (s:Int)=(e:Int):=by omega
   have S:Hd (vp key f a s m e b):=Jh (by
    have hp:=HP.Z;have F2:=F.Z;have P2:=P.Z;rw [hp] at F2 P2;have h9:=QS h1 h2 c8 d0 F2 b2.Z (Or.inr (by omega)) (Or.inr rfl) P2 (by omega)
    rwa [show mid+m - s=e by omega] at h9)
   have t1:=S.Z.h1;have t2:=S.Z.h2;have t3:=S.Z.h3;have t4:=S.Z.h4;obtain ⟨y1,y2,y3,y4,y5,y6,y7⟩:=zDh S.Z b2.Z (show s+(e - m)=mid by omega);have Y1:=Jh y1;have Y2:=Jh y2;have J:=Jh y3;have L:=Jh y4;have Y5:=Jh y5;have Y6:=Jh y6;have C:=Jh y7;have G:=Jh (uI.rot HV.Z t2 t3 (show e<=n by omega));have e1:s+e<=NN:=by omega
   have e2:NN<=s+e:=by omega
   clear y1 y2 y3 y4 y5 y6 y7 he P P0 F zt d8 zu e0 d1 d7 zp;by_cases ca:s<m
   . by_cases d2:m<e
     . go_wp2_with fail
       refine (zIE g cb blk n s m e f _ V.Z hn ca d2 (by omega)).mono ?_;rintro W w1 ⟨rfl,B,hg⟩;have I:=Jh B;have H:=Jh (zU HG.Z hg);clear B hg V HG;by_cases cc:a<s
       . by_cases cd:s<mid
         . go_wp2_with fail
           refine (X.out a s mid _ _ (by omega) (xS.on (g:=g) (cb:=cb) (key:=key) (blk:=blk) (n:=n) U.out H.Z) I.Z cc cd (by omega) G.Z Y1.Z Y2.Z Y5.Z).mono ?_;rintro W w2 ⟨g1,rfl,B,hg,hm⟩;have D:=Jh B;have l:=Jh (zU H.Z hg);have E:=Jh hm;clear B hg hm I H;obtain ⟨g1,j⟩: ∃g1,zT key g1 (za s m e f) a mid/\Own _ blk n n (gen n g1):=⟨_,E.Z,D.Z⟩
           have o:=Jh j.1;have A:=Jh j.2;clear j E D;have q:=Jh (fun k h=>o.Z.same k (Or.inr h));by_cases R:mid<e
           . by_cases T:e<b
             . go_wp2_with fail
               refine (X.out mid e b _ _ (by omega) (xS.on (g:=g) (cb:=cb) (key:=key) (blk:=blk) (n:=n) U.out l.Z) A.Z R T h3 (G.Z.merged o.Z (by omega)) (J.Z.congr (fun k h _=>q.Z k h)) (L.Z.congr (fun k h _=>q.Z k (by omega))) (Y6.Z.congr (fun k h _=>q.Z k h) (by omega) (by omega))).mono ?_;rintro W w3 ⟨g2,rfl,B,hg,hm⟩;have O:=Jh B;have M:=Jh (zU l.Z hg);have Q:=Jh hm;clear B hg hm A l;go_wp2_with fail
               go_end0
               exact ⟨g2,rfl,O.Z,M.Z,C.Z g1 g2 o.Z Q.Z⟩
             go_wp2_with fail
             go_end0
             exact ⟨g1,rfl,A.Z,l.Z,C.Z g1 g1 o.Z (zT.self ((J.Z.congr (fun k h _=>q.Z k h)).sub (Nat.le_refl _) (by omega)))⟩
           go_wp2_with fail
           go_end0
           exact ⟨g1,rfl,A.Z,l.Z,C.Z g1 g1 o.Z (zT.self ((L.Z.congr (fun k h _=>q.Z k (by omega))).sub (by omega) (Nat.le_refl _)))⟩
         have E:Hd (zT key (za s m e f) (za s m e f) a mid):=Jh (zT.self (Y1.Z.sub (Nat.le_refl _) (by omega)));have D:=I;have l:=H;clear I H;obtain ⟨g1,j⟩: ∃g1,zT key g1 (za s m e f) a mid/\Own _ blk n n (gen n g1):=⟨_,E.Z,D.Z⟩
         have o:=Jh j.1;have A:=Jh j.2;clear j E D;have q:=Jh (fun k h=>o.Z.same k (Or.inr h));by_cases R:mid<e
         . by_cases T:e<b
           . go_wp2_with fail
             refine (X.out mid e b _ _ (by omega) (xS.on (g:=g) (cb:=cb) (key:=key) (blk:=blk) (n:=n) U.out l.Z) A.Z R T h3 (G.Z.merged o.Z (by omega)) (J.Z.congr (fun k h _=>q.Z k h)) (L.Z.congr (fun k h _=>q.Z k (by omega))) (Y6.Z.congr (fun k h _=>q.Z k h) (by omega) (by omega))).mono ?_;rintro W w3 ⟨g2,rfl,B,hg,hm⟩;have O:=Jh B;have M:=Jh (zU l.Z hg);have Q:=Jh hm;clear B hg hm A l;go_wp2_with fail
             go_end0
             exact ⟨g2,rfl,O.Z,M.Z,C.Z g1 g2 o.Z Q.Z⟩
           go_wp2_with fail
           go_end0
           exact ⟨g1,rfl,A.Z,l.Z,C.Z g1 g1 o.Z (zT.self ((J.Z.congr (fun k h _=>q.Z k h)).sub (Nat.le_refl _) (by omega)))⟩
         go_wp2_with fail
         go_end0
         exact ⟨g1,rfl,A.Z,l.Z,C.Z g1 g1 o.Z (zT.self ((L.Z.congr (fun k h _=>q.Z k (by omega))).sub (by omega) (Nat.le_refl _)))⟩
       have h9:a=s:=by omega
       have E:Hd (zT key (za s m e f) (za s m e f) a mid):=Jh (zT.self (show Srt key (za s m e f) a mid by rw [h9];exact Y2.Z));clear h9;have D:=I;have l:=H;clear I H;obtain ⟨g1,j⟩: ∃g1,zT key g1 (za s m e f) a mid/\Own _ blk n n (gen n g1):=⟨_,E.Z,D.Z⟩
       have o:=Jh j.1;have A:=Jh j.2;clear j E D;have q:=Jh (fun k h=>o.Z.same k (Or.inr h));by_cases R:mid<e
       . by_cases T:e<b
         . go_wp2_with fail
           refine (X.out mid e b _ _ (by omega) (xS.on (g:=g) (cb:=cb) (key:=key) (blk:=blk) (n:=n) U.out l.Z) A.Z R T h3 (G.Z.merged o.Z (by omega)) (J.Z.congr (fun k h _=>q.Z k h)) (L.Z.congr (fun k h _=>q.Z k (by omega))) (Y6.Z.congr (fun k h _=>q.Z k h) (by omega) (by omega))).mono ?_;rintro W w3 ⟨g2,rfl,B,hg,hm⟩;have O:=Jh B;have M:=Jh (zU l.Z hg);have Q:=Jh hm;clear B hg hm A l;go_wp2_with fail
           go_end0
           exact ⟨g2,rfl,O.Z,M.Z,C.Z g1 g2 o.Z Q.Z⟩
         go_wp2_with fail
         go_end0
         exact ⟨g1,rfl,A.Z,l.Z,C.Z g1 g1 o.Z (zT.self ((J.Z.congr (fun k h _=>q.Z k h)).sub (Nat.le_refl _) (by omega)))⟩
       go_wp2_with fail
       go_end0
       exact ⟨g1,rfl,A.Z,l.Z,C.Z g1 g1 o.Z (zT.self ((L.Z.congr (fun k h _=>q.Z k (by omega))).sub (by omega) (Nat.le_refl _)))⟩
     have I:Hd (Own wr blk n n (gen n (za s m e f))):=Jh (by rw [ZC f (Or.inr (by omega)) t2 t3];exact V.Z);have H:=HG;clear V HG;by_cases cc:a<s
     . by_cases cd:s<mid
       . go_wp2_with fail
         refine (X.out a s mid _ _ (by omega) (xS.on (g:=g) (cb:=cb) (key:=key) (blk:=blk) (n:=n) U.out H.Z) I.Z cc cd (by omega) G.Z Y1.Z Y2.Z Y5.Z).mono ?_;rintro W w2 ⟨g1,rfl,B,hg,hm⟩;have D:=Jh B;have l:=Jh (zU H.Z hg);have E:=Jh hm;clear B hg hm I H;obtain ⟨g1,j⟩: ∃g1,zT key g1 (za s m e f) a mid/\Own _ blk n n (gen n g1):=⟨_,E.Z,D.Z⟩
         have o:=Jh j.1;have A:=Jh j.2;clear j E D;have q:=Jh (fun k h=>o.Z.same k (Or.inr h));by_cases R:mid<e
         . by_cases T:e<b
           . go_wp2_with fail
             refine (X.out mid e b _ _ (by omega) (xS.on (g:=g) (cb:=cb) (key:=key) (blk:=blk) (n:=n) U.out l.Z) A.Z R T h3 (G.Z.merged o.Z (by omega)) (J.Z.congr (fun k h _=>q.Z k h)) (L.Z.congr (fun k h _=>q.Z k (by omega))) (Y6.Z.congr (fun k h _=>q.Z k h) (by omega) (by omega))).mono ?_;rintro W w3 ⟨g2,rfl,B,hg,hm⟩;have O:=Jh B;have M:=Jh (zU l.Z hg);have Q:=Jh hm;clear B hg hm A l;go_wp2_with fail
             go_end0
             exact ⟨g2,rfl,O.Z,M.Z,C.Z g1 g2 o.Z Q.Z⟩
           go_wp2_with fail
           go_end0
           exact ⟨g1,rfl,A.Z,l.Z,C.Z g1 g1 o.Z (zT.self ((J.Z.congr (fun k h _=>q.Z k h)).sub (Nat.le_refl _) (by omega)))⟩
         go_wp2_with fail
         go_end0
         exact ⟨g1,rfl,A.Z,l.Z,C.Z g1 g1 o.Z (zT.self ((L.Z.congr (fun k h _=>q.Z k (by omega))).sub (by omega) (Nat.le_refl _)))⟩
       have E:Hd (zT key (za s m e f) (za s m e f) a mid):=Jh (zT.self (Y1.Z.sub (Nat.le_refl _) (by omega)));have D:=I;have l:=H;clear I H;obtain ⟨g1,j⟩: ∃g1,zT key g1 (za s m e f) a mid/\Own _ blk n n (gen n g1):=⟨_,E.Z,D.Z⟩
       have o:=Jh j.1;have A:=Jh j.2;clear j E D;have q:=Jh (fun k h=>o.Z.same k (Or.inr h));by_cases R:mid<e
       . by_cases T:e<b
         . go_wp2_with fail
           refine (X.out mid e b _ _ (by omega) (xS.on (g:=g) (cb:=cb) (key:=key) (blk:=blk) (n:=n) U.out l.Z) A.Z R T h3 (G.Z.merged o.Z (by omega)) (J.Z.congr (fun k h _=>q.Z k h)) (L.Z.congr (fun k h _=>q.Z k (by omega))) (Y6.Z.congr (fun k h _=>q.Z k h) (by omega) (by omega))).mono ?_;rintro W w3 ⟨g2,rfl,B,hg,hm⟩;have O:=Jh B;have M:=Jh (zU l.Z hg);have Q:=Jh hm;clear B hg hm A l;go_wp2_with fail
           go_end0
           exact ⟨g2,rfl,O.Z,M.Z,C.Z g1 g2 o.Z Q.Z⟩
         go_wp2_with fail
         go_end0
         exact ⟨g1,rfl,A.Z,l.Z,C.Z g1 g1 o.Z (zT.self ((J.Z.congr (fun k h _=>q.Z k h)).sub (Nat.le_refl _) (by omega)))⟩
       go_wp2_with fail
       go_end0
       exact ⟨g1,rfl,A.Z,l.Z,C.Z g1 g1 o.Z (zT.self ((L.Z.congr (fun k h _=>q.Z k (by omega))).sub (by omega) (Nat.le_refl _)))⟩
     have h9:a=s:=by omega
     have E:Hd (zT key (za s m e f) (za s m e f) a mid):=Jh (zT.self (show Srt key (za s m e f) a mid by rw [h9];exact Y2.Z));clear h9;have D:=I;have l:=H;clear I H;obtain ⟨g1,j⟩: ∃g1,zT key g1 (za s m e f) a mid/\Own _ blk n n (gen n g1):=⟨_,E.Z,D.Z⟩
     have o:=Jh j.1;have A:=Jh j.2;clear j E D;have q:=Jh (fun k h=>o.Z.same k (Or.inr h));by_cases R:mid<e
     . by_cases T:e<b
       . go_wp2_with fail
         refine (X.out mid e b _ _ (by omega) (xS.on (g:=g) (cb:=cb) (key:=key) (blk:=blk) (n:=n) U.out l.Z) A.Z R T h3 (G.Z.merged o.Z (by omega)) (J.Z.congr (fun k h _=>q.Z k h)) (L.Z.congr (fun k h _=>q.Z k (by omega))) (Y6.Z.congr (fun k h _=>q.Z k h) (by omega) (by omega))).mono ?_;rintro W w3 ⟨g2,rfl,B,hg,hm⟩;have O:=Jh B;have M:=Jh (zU l.Z hg);have Q:=Jh hm;clear B hg hm A l;go_wp2_with fail
         go_end0
         exact ⟨g2,rfl,O.Z,M.Z,C.Z g1 g2 o.Z Q.Z⟩
       go_wp2_with fail
       go_end0
       exact ⟨g1,rfl,A.Z,l.Z,C.Z g1 g1 o.Z (zT.self ((J.Z.congr (fun k h _=>q.Z k h)).sub (Nat.le_refl _) (by omega)))⟩
     go_wp2_with fail
     go_end0
     exact ⟨g1,rfl,A.Z,l.Z,C.Z g1 g1 o.Z (zT.self ((L.Z.congr (fun k h _=>q.Z k (by omega))).sub (by omega) (Nat.le_refl _)))⟩
   have I:Hd (Own wr blk n n (gen n (za s m e f))):=Jh (by rw [ZC f (Or.inl (by omega)) t2 t3];exact V.Z);have H:=HG;clear V HG;by_cases cc:a<s
   . by_cases cd:s<mid
     . go_wp2_with fail
       refine (X.out a s mid _ _ (by omega) (xS.on (g:=g) (cb:=cb) (key:=key) (blk:=blk) (n:=n) U.out H.Z) I.Z cc cd (by omega) G.Z Y1.Z Y2.Z Y5.Z).mono ?_;rintro W w2 ⟨g1,rfl,B,hg,hm⟩;have D:=Jh B;have l:=Jh (zU H.Z hg);have E:=Jh hm;clear B hg hm I H;obtain ⟨g1,j⟩: ∃g1,zT key g1 (za s m e f) a mid/\Own _ blk n n (gen n g1):=⟨_,E.Z,D.Z⟩
       have o:=Jh j.1;have A:=Jh j.2;clear j E D;have q:=Jh (fun k h=>o.Z.same k (Or.inr h));by_cases R:mid<e
       . by_cases T:e<b
         . go_wp2_with fail
           refine (X.out mid e b _ _ (by omega) (xS.on (g:=g) (cb:=cb) (key:=key) (blk:=blk) (n:=n) U.out l.Z) A.Z R T h3 (G.Z.merged o.Z (by omega)) (J.Z.congr (fun k h _=>q.Z k h)) (L.Z.congr (fun k h _=>q.Z k (by omega))) (Y6.Z.congr (fun k h _=>q.Z k h) (by omega) (by omega))).mono ?_;rintro W w3 ⟨g2,rfl,B,hg,hm⟩;have O:=Jh B;have M:=Jh (zU l.Z hg);have Q:=Jh hm;clear B hg hm A l;go_wp2_with fail
           go_end0
           exact ⟨g2,rfl,O.Z,M.Z,C.Z g1 g2 o.Z Q.Z⟩
         go_wp2_with fail
         go_end0
         exact ⟨g1,rfl,A.Z,l.Z,C.Z g1 g1 o.Z (zT.self ((J.Z.congr (fun k h _=>q.Z k h)).sub (Nat.le_refl _) (by omega)))⟩
       go_wp2_with fail
       go_end0
       exact ⟨g1,rfl,A.Z,l.Z,C.Z g1 g1 o.Z (zT.self ((L.Z.congr (fun k h _=>q.Z k (by omega))).sub (by omega) (Nat.le_refl _)))⟩
     have E:Hd (zT key (za s m e f) (za s m e f) a mid):=Jh (zT.self (Y1.Z.sub (Nat.le_refl _) (by omega)));have D:=I;have l:=H;clear I H;obtain ⟨g1,j⟩: ∃g1,zT key g1 (za s m e f) a mid/\Own _ blk n n (gen n g1):=⟨_,E.Z,D.Z⟩
     have o:=Jh j.1;have A:=Jh j.2;clear j E D;have q:=Jh (fun k h=>o.Z.same k (Or.inr h));by_cases R:mid<e
     . by_cases T:e<b
       . go_wp2_with fail
         refine (X.out mid e b _ _ (by omega) (xS.on (g:=g) (cb:=cb) (key:=key) (blk:=blk) (n:=n) U.out l.Z) A.Z R T h3 (G.Z.merged o.Z (by omega)) (J.Z.congr (fun k h _=>q.Z k h)) (L.Z.congr (fun k h _=>q.Z k (by omega))) (Y6.Z.congr (fun k h _=>q.Z k h) (by omega) (by omega))).mono ?_;rintro W w3 ⟨g2,rfl,B,hg,hm⟩;have O:=Jh B;have M:=Jh (zU l.Z hg);have Q:=Jh hm;clear B hg hm A l;go_wp2_with fail
         go_end0
         exact ⟨g2,rfl,O.Z,M.Z,C.Z g1 g2 o.Z Q.Z⟩
       go_wp2_with fail
       go_end0
       exact ⟨g1,rfl,A.Z,l.Z,C.Z g1 g1 o.Z (zT.self ((J.Z.congr (fun k h _=>q.Z k h)).sub (Nat.le_refl _) (by omega)))⟩
     go_wp2_with fail
     go_end0
     exact ⟨g1,rfl,A.Z,l.Z,C.Z g1 g1 o.Z (zT.self ((L.Z.congr (fun k h _=>q.Z k (by omega))).sub (by omega) (Nat.le_refl _)))⟩
   have h9:a=s:=by omega
   have E:Hd (zT key (za s m e f) (za s m e f) a mid):=Jh (zT.self (show Srt key (za s m e f) a mid by rw [h9];exact Y2.Z));clear h9;have D:=I;have l:=H;clear I H;obtain ⟨g1,j⟩: ∃g1,zT key g1 (za s m e f) a mid/\Own _ blk n n (gen n g1):=⟨_,E.Z,D.Z⟩
   have o:=Jh j.1;have A:=Jh j.2;clear j E D;have q:=Jh (fun k h=>o.Z.same k (Or.inr h));by_cases R:mid<e
   . by_cases T:e<b
     . go_wp2_with fail
       refine (X.out mid e b _ _ (by omega) (xS.on (g:=g) (cb:=cb) (key:=key) (blk:=blk) (n:=n) U.out l.Z) A.Z R T h3 (G.Z.merged o.Z (by omega)) (J.Z.congr (fun k h _=>q.Z k h)) (L.Z.congr (fun k h _=>q.Z k (by omega))) (Y6.Z.congr (fun k h _=>q.Z k h) (by omega) (by omega))).mono ?_;rintro W w3 ⟨g2,rfl,B,hg,hm⟩;have O:=Jh B;have M:=Jh (zU l.Z hg);have Q:=Jh hm;clear B hg hm A l;go_wp2_with fail
       go_end0
       exact ⟨g2,rfl,O.Z,M.Z,C.Z g1 g2 o.Z Q.Z⟩
     go_wp2_with fail
     go_end0
     exact ⟨g1,rfl,A.Z,l.Z,C.Z g1 g1 o.Z (zT.self ((J.Z.congr (fun k h _=>q.Z k h)).sub (Nat.le_refl _) (by omega)))⟩
   go_wp2_with fail
   go_end0
   exact ⟨g1,rfl,A.Z,l.Z,C.Z g1 g1 o.Z (zT.self ((L.Z.congr (fun k h _=>q.Z k (by omega))).sub (by omega) (Nat.le_refl _)))⟩
 have F:=Jh (b8.out a m (Or.inl (by omega)));have d4:a<=m:=by omega
 clear b8;have P0:=Jh (show wD key f p a m a m from ⟨Nat.le_refl _,d4,Nat.le_refl _,fun c h1 h2=>by omega,fun c h1 h2=>by omega⟩);go_wp2_with fail
 go_loopw [20,21] (fun vs vr wr=> ∃s r:Nat,vs= .int .i64 s/\vr= .int .i64 r/\Hd (wD key f p a m s r)/\Hd (Own wr blk n n (gen n f))/\Hd (w.grownBy wr (some blk))) (fun vs vr _=>(intOf vr).toNat - (intOf vs).toNat)
 case atStart=>exact ⟨a,m,rfl,rfl,P0,HO,Jh (yR _ _)⟩
 obtain ⟨s,r,rfl,rfl,P,V,HG⟩:=hrel;have s1:=P.Z.h1;have s2:=P.Z.h2;have s3:=P.Z.h3;by_cases d3:s<r
 . obtain ⟨c,hc,q1,q2⟩:=Ui s r d3
   obtain ⟨b6,b7,e6⟩:=F.Z.pl c (by omega) (by omega);obtain ⟨e,he⟩: ∃e:Nat,e=p - c:=⟨_,rfl⟩
   have ze:(p:Int) - (c:Int)=(e:Int):=by omega
   rw [<-he] at b6 b7;have HE:=Jh he;have we:IntKind.i64.wrap (e:Int)=(e:Int):=Yc _ (by omega);have cn:c<n:=by omega
   have en:e<n:=by omega
   have c0:a<=c:=by omega
   have c1:c<m:=by omega
   clear he;have bi:((e:Nat):Int)<(n:Int):=by omega
   have bj:((c:Nat):Int)<(n:Int):=by omega
   have ca:=jE V.Z (i:=e) (by omega);have cp:=jE V.Z (i:=c) (by omega);obtain ⟨x,hx⟩: ∃zz,zz=(f) (e):=⟨_,rfl⟩
   obtain ⟨y,hy⟩: ∃zz,zz=(f) (c):=⟨_,rfl⟩
   have xv:=HV.Z (e) (by omega);have yv:=HV.Z (c) (by omega);rw [<-hx] at ca xv;rw [<-hy] at cp yv;have HX:=Jh hx;have HY:=Jh hy;have MK:Hd (∀v,BelowL wr v->v.cell? ⟨blk,e,none⟩=some (.int .i64 x)/\v.cell? ⟨blk,c,none⟩=some (.int .i64 y)/\BelowL wr v):=Jh (fun v h=>⟨(h.Z.cell V.Z.lt).trans ca,(h.Z.cell V.Z.lt).trans cp,h⟩);have CC:Hd (∀v,BelowL wr v->Calls Tryz.prog g (#[.int .i64 x, .int .i64 y]++cb) v fun e v'=> ∃c:Int,e= .returned (.int .i64 c)/\(c<0↔key x<key y)/\Below v.heap.size v v'):=Jh (fun v hv=>U.out v (zU HG.Z (xl hv.Z _)) x y xv.1 xv.2 yv.1 yv.2);clear hx hy xv yv;go_wp2_with fail
   go_region_held3 (fun v=>v.cell? ⟨blk,e,none⟩=some (.int .i64 x)/\v.cell? ⟨blk,c,none⟩=some (.int .i64 y)/\BelowL wr v)
    (first | exact MK.Z _ b1 | exact MK.Z _ (BelowL.start _))
    (first
     | (go_at_fn g;((with_reducible refine (CC.Z _ (uo (by assumption))).mono ?_);rintro e v1 ⟨cc,rfl,e4,b5⟩;have b1:=BelowL.call (uo (by assumption)) b5)))
   have b4:=Jh (V.Z.below b1.Z V.Z.lt);have b3:=Jh (zU HG.Z (xl b1.Z _));clear ca cp b1 b5 MK CC bi bj;have b0:=Jh (b2.Z c e c0 c1 b6 b7);by_cases hk:key x<key y
   . have Y:(!decide (key x<key y))=false:=by simp [hk]
     rw [Y];clear Y;have P3:=Jh (P.Z.down F.Z q1 q2 (show RL key (f (p - c)) (f c) by rw [<-HE.Z,RL.later b0.Z,<-HX.Z,<-HY.Z];exact hk));clear HX HY b0;go_wp2_with fail;go_roundw
     case rel=>exact ⟨s,c,rfl,rfl,P3,b4,b3⟩
     simp [intOf];omega
   have Y:(!decide (key x<key y))=true:=by simp;omega
   rw [Y];clear Y;have P3:=Jh (P.Z.up F.Z q1 q2 (show ¬RL key (f (p - c)) (f c) by rw [<-HE.Z,RL.later b0.Z,<-HX.Z,<-HY.Z];exact hk));clear HX HY b0;go_wp2_with fail;go_roundw
   case rel=>exact ⟨c+1,r,by go_num,rfl,P3,b4,b3⟩
   simp [intOf];omega
 obtain rfl:s=r:=by omega
 obtain ⟨e,he⟩: ∃e:Nat,e=NN - s:=⟨_,rfl⟩
 have ze:(NN:Int) - (s:Int)=(e:Int):=by omega
 have S:Hd (vp key f a s m e b):=Jh (by
  have hp:=HP.Z;have F2:=F.Z;have P2:=P.Z;rw [hp] at F2 P2;have h9:=QS h1 h2 c8 d0 F2 b2.Z (Or.inl rfl) (Or.inl rfl) P2 (by omega)
  rwa [show mid+m - s=e by omega] at h9)
 have t1:=S.Z.h1;have t2:=S.Z.h2;have t3:=S.Z.h3;have t4:=S.Z.h4;obtain ⟨y1,y2,y3,y4,y5,y6,y7⟩:=zDh S.Z b2.Z (show s+(e - m)=mid by omega);have Y1:=Jh y1;have Y2:=Jh y2;have J:=Jh y3;have L:=Jh y4;have Y5:=Jh y5;have Y6:=Jh y6;have C:=Jh y7;have G:=Jh (uI.rot HV.Z t2 t3 (show e<=n by omega));have e1:s+e<=NN:=by omega
 have e2:NN<=s+e:=by omega
 clear y1 y2 y3 y4 y5 y6 y7 he P P0 F zt d8 zu e0 d1 d7 zp;by_cases ca:s<m
 . by_cases d2:m<e
   . go_wp2_with fail
     refine (zIE g cb blk n s m e f _ V.Z hn ca d2 (by omega)).mono ?_;rintro W w1 ⟨rfl,B,hg⟩;have I:=Jh B;have H:=Jh (zU HG.Z hg);clear B hg V HG;by_cases cc:a<s
     . by_cases cd:s<mid
       . go_wp2_with fail
         refine (X.out a s mid _ _ (by omega) (xS.on (g:=g) (cb:=cb) (key:=key) (blk:=blk) (n:=n) U.out H.Z) I.Z cc cd (by omega) G.Z Y1.Z Y2.Z Y5.Z).mono ?_;rintro W w2 ⟨g1,rfl,B,hg,hm⟩;have D:=Jh B;have l:=Jh (zU H.Z hg);have E:=Jh hm;clear B hg hm I H;obtain ⟨g1,j⟩: ∃g1,zT key g1 (za s m e f) a mid/\Own _ blk n n (gen n g1):=⟨_,E.Z,D.Z⟩
         have o:=Jh j.1;have A:=Jh j.2;clear j E D;have q:=Jh (fun k h=>o.Z.same k (Or.inr h));by_cases R:mid<e
         . by_cases T:e<b
           . go_wp2_with fail
             refine (X.out mid e b _ _ (by omega) (xS.on (g:=g) (cb:=cb) (key:=key) (blk:=blk) (n:=n) U.out l.Z) A.Z R T h3 (G.Z.merged o.Z (by omega)) (J.Z.congr (fun k h _=>q.Z k h)) (L.Z.congr (fun k h _=>q.Z k (by omega))) (Y6.Z.congr (fun k h _=>q.Z k h) (by omega) (by omega))).mono ?_;rintro W w3 ⟨g2,rfl,B,hg,hm⟩;have O:=Jh B;have M:=Jh (zU l.Z hg);have Q:=Jh hm;clear B hg hm A l;go_wp2_with fail
             go_end0
             exact ⟨g2,rfl,O.Z,M.Z,C.Z g1 g2 o.Z Q.Z⟩
           go_wp2_with fail
           go_end0
           exact ⟨g1,rfl,A.Z,l.Z,C.Z g1 g1 o.Z (zT.self ((J.Z.congr (fun k h _=>q.Z k h)).sub (Nat.le_refl _) (by omega)))⟩
         go_wp2_with fail
         go_end0
         exact ⟨g1,rfl,A.Z,l.Z,C.Z g1 g1 o.Z (zT.self ((L.Z.congr (fun k h _=>q.Z k (by omega))).sub (by omega) (Nat.le_refl _)))⟩
       have E:Hd (zT key (za s m e f) (za s m e f) a mid):=Jh (zT.self (Y1.Z.sub (Nat.le_refl _) (by omega)));have D:=I;have l:=H;clear I H;obtain ⟨g1,j⟩: ∃g1,zT key g1 (za s m e f) a mid/\Own _ blk n n (gen n g1):=⟨_,E.Z,D.Z⟩
       have o:=Jh j.1;have A:=Jh j.2;clear j E D;have q:=Jh (fun k h=>o.Z.same k (Or.inr h));by_cases R:mid<e
       . by_cases T:e<b
         . go_wp2_with fail
           refine (X.out mid e b _ _ (by omega) (xS.on (g:=g) (cb:=cb) (key:=key) (blk:=blk) (n:=n) U.out l.Z) A.Z R T h3 (G.Z.merged o.Z (by omega)) (J.Z.congr (fun k h _=>q.Z k h)) (L.Z.congr (fun k h _=>q.Z k (by omega))) (Y6.Z.congr (fun k h _=>q.Z k h) (by omega) (by omega))).mono ?_;rintro W w3 ⟨g2,rfl,B,hg,hm⟩;have O:=Jh B;have M:=Jh (zU l.Z hg);have Q:=Jh hm;clear B hg hm A l;go_wp2_with fail
           go_end0
           exact ⟨g2,rfl,O.Z,M.Z,C.Z g1 g2 o.Z Q.Z⟩
         go_wp2_with fail
         go_end0
         exact ⟨g1,rfl,A.Z,l.Z,C.Z g1 g1 o.Z (zT.self ((J.Z.congr (fun k h _=>q.Z k h)).sub (Nat.le_refl _) (by omega)))⟩
       go_wp2_with fail
       go_end0
       exact ⟨g1,rfl,A.Z,l.Z,C.Z g1 g1 o.Z (zT.self ((L.Z.congr (fun k h _=>q.Z k (by omega))).sub (by omega) (Nat.le_refl _)))⟩
     have h9:a=s:=by omega
     have E:Hd (zT key (za s m e f) (za s m e f) a mid):=Jh (zT.self (show Srt key (za s m e f) a mid by rw [h9];exact Y2.Z));clear h9;have D:=I;have l:=H;clear I H;obtain ⟨g1,j⟩: ∃g1,zT key g1 (za s m e f) a mid/\Own _ blk n n (gen n g1):=⟨_,E.Z,D.Z⟩
     have o:=Jh j.1;have A:=Jh j.2;clear j E D;have q:=Jh (fun k h=>o.Z.same k (Or.inr h));by_cases R:mid<e
     . by_cases T:e<b
       . go_wp2_with fail
         refine (X.out mid e b _ _ (by omega) (xS.on (g:=g) (cb:=cb) (key:=key) (blk:=blk) (n:=n) U.out l.Z) A.Z R T h3 (G.Z.merged o.Z (by omega)) (J.Z.congr (fun k h _=>q.Z k h)) (L.Z.congr (fun k h _=>q.Z k (by omega))) (Y6.Z.congr (fun k h _=>q.Z k h) (by omega) (by omega))).mono ?_;rintro W w3 ⟨g2,rfl,B,hg,hm⟩;have O:=Jh B;have M:=Jh (zU l.Z hg);have Q:=Jh hm;clear B hg hm A l;go_wp2_with fail
         go_end0
         exact ⟨g2,rfl,O.Z,M.Z,C.Z g1 g2 o.Z Q.Z⟩
       go_wp2_with fail
       go_end0
       exact ⟨g1,rfl,A.Z,l.Z,C.Z g1 g1 o.Z (zT.self ((J.Z.congr (fun k h _=>q.Z k h)).sub (Nat.le_refl _) (by omega)))⟩
     go_wp2_with fail
     go_end0
     exact ⟨g1,rfl,A.Z,l.Z,C.Z g1 g1 o.Z (zT.self ((L.Z.congr (fun k h _=>q.Z k (by omega))).sub (by omega) (Nat.le_refl _)))⟩
   have I:Hd (Own wr blk n n (gen n (za s m e f))):=Jh (by rw [ZC f (Or.inr (by omega)) t2 t3];exact V.Z);have H:=HG;clear V HG;by_cases cc:a<s
   . by_cases cd:s<mid
     . go_wp2_with fail
       refine (X.out a s mid _ _ (by omega) (xS.on (g:=g) (cb:=cb) (key:=key) (blk:=blk) (n:=n) U.out H.Z) I.Z cc cd (by omega) G.Z Y1.Z Y2.Z Y5.Z).mono ?_;rintro W w2 ⟨g1,rfl,B,hg,hm⟩;have D:=Jh B;have l:=Jh (zU H.Z hg);have E:=Jh hm;clear B hg hm I H;obtain ⟨g1,j⟩: ∃g1,zT key g1 (za s m e f) a mid/\Own _ blk n n (gen n g1):=⟨_,E.Z,D.Z⟩
       have o:=Jh j.1;have A:=Jh j.2;clear j E D;have q:=Jh (fun k h=>o.Z.same k (Or.inr h));by_cases R:mid<e
       . by_cases T:e<b
         . go_wp2_with fail
           refine (X.out mid e b _ _ (by omega) (xS.on (g:=g) (cb:=cb) (key:=key) (blk:=blk) (n:=n) U.out l.Z) A.Z R T h3 (G.Z.merged o.Z (by omega)) (J.Z.congr (fun k h _=>q.Z k h)) (L.Z.congr (fun k h _=>q.Z k (by omega))) (Y6.Z.congr (fun k h _=>q.Z k h) (by omega) (by omega))).mono ?_;rintro W w3 ⟨g2,rfl,B,hg,hm⟩;have O:=Jh B;have M:=Jh (zU l.Z hg);have Q:=Jh hm;clear B hg hm A l;go_wp2_with fail
           go_end0
           exact ⟨g2,rfl,O.Z,M.Z,C.Z g1 g2 o.Z Q.Z⟩
         go_wp2_with fail
         go_end0
         exact ⟨g1,rfl,A.Z,l.Z,C.Z g1 g1 o.Z (zT.self ((J.Z.congr (fun k h _=>q.Z k h)).sub (Nat.le_refl _) (by omega)))⟩
       go_wp2_with fail
       go_end0
       exact ⟨g1,rfl,A.Z,l.Z,C.Z g1 g1 o.Z (zT.self ((L.Z.congr (fun k h _=>q.Z k (by omega))).sub (by omega) (Nat.le_refl _)))⟩
     have E:Hd (zT key (za s m e f) (za s m e f) a mid):=Jh (zT.self (Y1.Z.sub (Nat.le_refl _) (by omega)));have D:=I;have l:=H;clear I H;obtain ⟨g1,j⟩: ∃g1,zT key g1 (za s m e f) a mid/\Own _ blk n n (gen n g1):=⟨_,E.Z,D.Z⟩
     have o:=Jh j.1;have A:=Jh j.2;clear j E D;have q:=Jh (fun k h=>o.Z.same k (Or.inr h));by_cases R:mid<e
     . by_cases T:e<b
       . go_wp2_with fail
         refine (X.out mid e b _ _ (by omega) (xS.on (g:=g) (cb:=cb) (key:=key) (blk:=blk) (n:=n) U.out l.Z) A.Z R T h3 (G.Z.merged o.Z (by omega)) (J.Z.congr (fun k h _=>q.Z k h)) (L.Z.congr (fun k h _=>q.Z k (by omega))) (Y6.Z.congr (fun k h _=>q.Z k h) (by omega) (by omega))).mono ?_;rintro W w3 ⟨g2,rfl,B,hg,hm⟩;have O:=Jh B;have M:=Jh (zU l.Z hg);have Q:=Jh hm;clear B hg hm A l;go_wp2_with fail
         go_end0
         exact ⟨g2,rfl,O.Z,M.Z,C.Z g1 g2 o.Z Q.Z⟩
       go_wp2_with fail
       go_end0
       exact ⟨g1,rfl,A.Z,l.Z,C.Z g1 g1 o.Z (zT.self ((J.Z.congr (fun k h _=>q.Z k h)).sub (Nat.le_refl _) (by omega)))⟩
     go_wp2_with fail
     go_end0
     exact ⟨g1,rfl,A.Z,l.Z,C.Z g1 g1 o.Z (zT.self ((L.Z.congr (fun k h _=>q.Z k (by omega))).sub (by omega) (Nat.le_refl _)))⟩
   have h9:a=s:=by omega
   have E:Hd (zT key (za s m e f) (za s m e f) a mid):=Jh (zT.self (show Srt key (za s m e f) a mid by rw [h9];exact Y2.Z));clear h9;have D:=I;have l:=H;clear I H;obtain ⟨g1,j⟩: ∃g1,zT key g1 (za s m e f) a mid/\Own _ blk n n (gen n g1):=⟨_,E.Z,D.Z⟩
   have o:=Jh j.1;have A:=Jh j.2;clear j E D;have q:=Jh (fun k h=>o.Z.same k (Or.inr h));by_cases R:mid<e
   . by_cases T:e<b
     . go_wp2_with fail
       refine (X.out mid e b _ _ (by omega) (xS.on (g:=g) (cb:=cb) (key:=key) (blk:=blk) (n:=n) U.out l.Z) A.Z R T h3 (G.Z.merged o.Z (by omega)) (J.Z.congr (fun k h _=>q.Z k h)) (L.Z.congr (fun k h _=>q.Z k (by omega))) (Y6.Z.congr (fun k h _=>q.Z k h) (by omega) (by omega))).mono ?_;rintro W w3 ⟨g2,rfl,B,hg,hm⟩;have O:=Jh B;have M:=Jh (zU l.Z hg);have Q:=Jh hm;clear B hg hm A l;go_wp2_with fail
       go_end0
       exact ⟨g2,rfl,O.Z,M.Z,C.Z g1 g2 o.Z Q.Z⟩
     go_wp2_with fail
     go_end0
     exact ⟨g1,rfl,A.Z,l.Z,C.Z g1 g1 o.Z (zT.self ((J.Z.congr (fun k h _=>q.Z k h)).sub (Nat.le_refl _) (by omega)))⟩
   go_wp2_with fail
   go_end0
   exact ⟨g1,rfl,A.Z,l.Z,C.Z g1 g1 o.Z (zT.self ((L.Z.congr (fun k h _=>q.Z k (by omega))).sub (by omega) (Nat.le_refl _)))⟩
 have I:Hd (Own wr blk n n (gen n (za s m e f))):=Jh (by rw [ZC f (Or.inl (by omega)) t2 t3];exact V.Z);have H:=HG;clear V HG;by_cases cc:a<s
 . by_cases cd:s<mid
   . go_wp2_with fail
     refine (X.out a s mid _ _ (by omega) (xS.on (g:=g) (cb:=cb) (key:=key) (blk:=blk) (n:=n) U.out H.Z) I.Z cc cd (by omega) G.Z Y1.Z Y2.Z Y5.Z).mono ?_;rintro W w2 ⟨g1,rfl,B,hg,hm⟩;have D:=Jh B;have l:=Jh (zU H.Z hg);have E:=Jh hm;clear B hg hm I H;obtain ⟨g1,j⟩: ∃g1,zT key g1 (za s m e f) a mid/\Own _ blk n n (gen n g1):=⟨_,E.Z,D.Z⟩
     have o:=Jh j.1;have A:=Jh j.2;clear j E D;have q:=Jh (fun k h=>o.Z.same k (Or.inr h));by_cases R:mid<e
     . by_cases T:e<b
       . go_wp2_with fail
         refine (X.out mid e b _ _ (by omega) (xS.on (g:=g) (cb:=cb) (key:=key) (blk:=blk) (n:=n) U.out l.Z) A.Z R T h3 (G.Z.merged o.Z (by omega)) (J.Z.congr (fun k h _=>q.Z k h)) (L.Z.congr (fun k h _=>q.Z k (by omega))) (Y6.Z.congr (fun k h _=>q.Z k h) (by omega) (by omega))).mono ?_;rintro W w3 ⟨g2,rfl,B,hg,hm⟩;have O:=Jh B;have M:=Jh (zU l.Z hg);have Q:=Jh hm;clear B hg hm A l;go_wp2_with fail
         go_end0
         exact ⟨g2,rfl,O.Z,M.Z,C.Z g1 g2 o.Z Q.Z⟩
       go_wp2_with fail
       go_end0
       exact ⟨g1,rfl,A.Z,l.Z,C.Z g1 g1 o.Z (zT.self ((J.Z.congr (fun k h _=>q.Z k h)).sub (Nat.le_refl _) (by omega)))⟩
     go_wp2_with fail
     go_end0
     exact ⟨g1,rfl,A.Z,l.Z,C.Z g1 g1 o.Z (zT.self ((L.Z.congr (fun k h _=>q.Z k (by omega))).sub (by omega) (Nat.le_refl _)))⟩
   have E:Hd (zT key (za s m e f) (za s m e f) a mid):=Jh (zT.self (Y1.Z.sub (Nat.le_refl _) (by omega)));have D:=I;have l:=H;clear I H;obtain ⟨g1,j⟩: ∃g1,zT key g1 (za s m e f) a mid/\Own _ blk n n (gen n g1):=⟨_,E.Z,D.Z⟩
   have o:=Jh j.1;have A:=Jh j.2;clear j E D;have q:=Jh (fun k h=>o.Z.same k (Or.inr h));by_cases R:mid<e
   . by_cases T:e<b
     . go_wp2_with fail
       refine (X.out mid e b _ _ (by omega) (xS.on (g:=g) (cb:=cb) (key:=key) (blk:=blk) (n:=n) U.out l.Z) A.Z R T h3 (G.Z.merged o.Z (by omega)) (J.Z.congr (fun k h _=>q.Z k h)) (L.Z.congr (fun k h _=>q.Z k (by omega))) (Y6.Z.congr (fun k h _=>q.Z k h) (by omega) (by omega))).mono ?_;rintro W w3 ⟨g2,rfl,B,hg,hm⟩;have O:=Jh B;have M:=Jh (zU l.Z hg);have Q:=Jh hm;clear B hg hm A l;go_wp2_with fail
       go_end0
       exact ⟨g2,rfl,O.Z,M.Z,C.Z g1 g2 o.Z Q.Z⟩
     go_wp2_with fail
     go_end0
     exact ⟨g1,rfl,A.Z,l.Z,C.Z g1 g1 o.Z (zT.self ((J.Z.congr (fun k h _=>q.Z k h)).sub (Nat.le_refl _) (by omega)))⟩
   go_wp2_with fail
   go_end0
   exact ⟨g1,rfl,A.Z,l.Z,C.Z g1 g1 o.Z (zT.self ((L.Z.congr (fun k h _=>q.Z k (by omega))).sub (by omega) (Nat.le_refl _)))⟩
 have h9:a=s:=by omega
 have E:Hd (zT key (za s m e f) (za s m e f) a mid):=Jh (zT.self (show Srt key (za s m e f) a mid by rw [h9];exact Y2.Z));clear h9;have D:=I;have l:=H;clear I H;obtain ⟨g1,j⟩: ∃g1,zT key g1 (za s m e f) a mid/\Own _ blk n n (gen n g1):=⟨_,E.Z,D.Z⟩
 have o:=Jh j.1;have A:=Jh j.2;clear j E D;have q:=Jh (fun k h=>o.Z.same k (Or.inr h));by_cases R:mid<e
 . by_cases T:e<b
   . go_wp2_with fail
     refine (X.out mid e b _ _ (by omega) (xS.on (g:=g) (cb:=cb) (key:=key) (blk:=blk) (n:=n) U.out l.Z) A.Z R T h3 (G.Z.merged o.Z (by omega)) (J.Z.congr (fun k h _=>q.Z k h)) (L.Z.congr (fun k h _=>q.Z k (by omega))) (Y6.Z.congr (fun k h _=>q.Z k h) (by omega) (by omega))).mono ?_;rintro W w3 ⟨g2,rfl,B,hg,hm⟩;have O:=Jh B;have M:=Jh (zU l.Z hg);have Q:=Jh hm;clear B hg hm A l;go_wp2_with fail
     go_end0
     exact ⟨g2,rfl,O.Z,M.Z,C.Z g1 g2 o.Z Q.Z⟩
   go_wp2_with fail
   go_end0
   exact ⟨g1,rfl,A.Z,l.Z,C.Z g1 g1 o.Z (zT.self ((J.Z.congr (fun k h _=>q.Z k h)).sub (Nat.le_refl _) (by omega)))⟩
 go_wp2_with fail
 go_end0
 exact ⟨g1,rfl,A.Z,l.Z,C.Z g1 g1 o.Z (zT.self ((L.Z.congr (fun k h _=>q.Z k (by omega))).sub (by omega) (Nat.le_refl _)))⟩
end Go.Proofs.YtlenfgdjdianiaaGreatDoor
