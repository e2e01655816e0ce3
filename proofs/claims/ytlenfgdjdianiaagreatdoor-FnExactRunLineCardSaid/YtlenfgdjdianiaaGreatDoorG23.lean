/- Facts on which this claim rests, 23. -/
import Derived.Test.YtlenfgdjdianiaaGreatDoorG22
set_option linter.all false
set_option maxHeartbeats 6400000
namespace Go.Proofs.YtlenfgdjdianiaaGreatDoor
open Go.RowKit Tq Go.Proofs.Tryz
variable {a b e m n s x y z : Nat} {f g : Nat → Int} {key : Int → Int}
theorem Srt.congr (h:Srt key f x y) (e: ∀k,x<=k->k<y->g k=f k):Srt key g x y:=fun i j p q r=>by
 rw [e i p om,e j om r];exact h i j p q r
theorem uJ.congr (h:uJ f x z y) (e: ∀k,x<=k->k<y->g k=f k) (h1:x<=z) (h2:z<=y):uJ g x z y:=fun i j p q r t=>by
 rw [e i p om,e j om t];exact h i j p q r t
theorem ZH.merged (h:ZH f n) (m:zX key g f x y) (j:y<=n):ZH g n:=fun k hk=>by
 by_cases c:k<x\/y<=k
 rw [m.same k c];exact h k hk;obtain ⟨i,a0,a1,a2⟩:=m.frm k om om;rw [a2];exact h i om
theorem ZH.rot (h:ZH f n) (h1:s<=m) (h2:m<=e) (h3:e<=n):ZH (zw s m e f) n:=fun k hk=>by
 obtain ⟨c,a0,a1,a2⟩:=FI (a:=0) (b:=n) f nZ h1 h2 h3 k nZ hk;rw [a2];exact h c a1
theorem NT {mid:Nat} (S:wL key f a s m e b) (hl:uJ f a m b) (c:s+(e - m)=mid):
 Srt key (zw s m e f) a s/\Srt key (zw s m e f) s mid/\Srt key (zw s m e f) mid e/\Srt key (zw s m e f) e b/\uJ (zw s m e f) a s mid/\uJ (zw s m e f) mid e b/\
 (∀g1 g2,zX key g1 (zw s m e f) a mid->zX key g2 g1 mid b->zX key g2 f a b):=by
 subst c;exact ⟨S.lo.1,S.lo.2,S.hi.1,S.hi.2,(S.lless hl).1,(S.lless hl).2,fun g1 g2=>S.done⟩
theorem TH {mid lo hi:Nat} (h1:a<m) (h2:m<b) (hm:(a+b)/2=mid) (h:(lo=a/\hi=m/\m<=mid)\/(lo+b=mid+m/\hi=mid/\mid<m)) (sl:Srt key f a m) (sr:Srt key f m b):FZ key f a m b (mid+m - 1) lo hi:=by
 rcases h with ⟨rfl,rfl,h3⟩ | ⟨h3,rfl,h4⟩
 exact ⟨nI,nI,om,fun c p q=>om,sl,sr⟩;exact ⟨om,om,om,fun c p q=>om,sl,sr⟩
set_option maxRecDepth 100000 in
theorem zAv (g:Nat) (cb:Array Value) (key:Int->Int) (blk n N:Nat) (eg: ∀args w,(callFunc g args).run prog w= .ok (.enter g args) w) (hn:n<=100000)
 (ih: ∀(a m b:Nat) (f:Nat->Int) (w:World),b - a<=N->ko g cb key blk n w->Own w blk n n (gen n f)->a<m->m<b->b<=n->ZH f n->Srt key f a m->Srt key f m b->uJ f a m b->
  Calls prog 291 #[.slice ↑blk n n,a,m,b, .func (.func g) #[] cb] w fun e w'=> ∃f',e= .returned (.tuple #[])/\Own w' blk n n (gen n f')/\w.grownBy w' (some blk)/\zX key f' f a b)
 (a m b:Nat) (f:Nat->Int) (w:World) (hN:b - a<=N+1) (c4:ko g cb key blk n w) (B:Own w blk n n (gen n f)) (ha:m≠a+1) (hb:b≠m+1) (h1:a<m) (h2:m<b) (h3:b<=n) (hv:ZH f n) (sl:Srt key f a m) (sr:Srt key f m b) (hl:uJ f a m b):
 Calls prog 291 #[.slice ↑blk n n,a,m,b, .func (.func g) #[] cb] w fun e w'=> ∃f',e= .returned (.tuple #[])/\Own w' blk n n (gen n f')/\w.grownBy w' (some blk)/\zX key f' f a b:=by
 have X:Aside _:=ih;have HO:=Jh B;have U:Aside _:=c4;have HV:=Jh hv;have b2:=Jh hl;obtain ⟨t,ht⟩:=zN (m - a:Nat);have zt:(m:Int) - (a:Int)=(t:Int):=om;have d8:((t:Int)==1)=false:=sO;obtain ⟨u,hu⟩:=zN (b - m:Nat);have zu:(b:Int) - (m:Int)=(u:Int):=om;have e0:((u:Int)==1)=false:=sO;obtain ⟨mid,c5⟩: ∃mid:Nat,(a+b)/2=mid:=⟨_,rfl⟩
 have d1:((a:Int)+(b:Int))/2=(mid:Int):=om;have c8:a<mid:=om;have d0:mid<b:=om;obtain ⟨NN,e3⟩:=zN (mid+m:Nat);have d7:(mid:Int)+(m:Int)=(NN:Int):=om;obtain ⟨p,hp⟩:=zN (NN - 1:Nat);have zp:(NN:Int) - 1=(p:Int):=om;have f4:p+1<=NN:=om;have f5:NN<=p+1:=om;have f6:mid+m<=NN:=om;have f8:NN<=mid+m:=om;have d5:=Jh c5;have HP:Hd (p=mid+m - 1):=Jh om;have d6: ∀lo hi:Nat,((lo=a/\hi=m/\m<=mid)\/(lo+b=mid+m/\hi=mid/\mid<m))->FZ key f a m b p lo hi:=fun lo hi h=>by rw [HP.Z];exact TH h1 h2 d5.Z h sl sr
 have b8:Aside _:=d6;clear ih B c4 ha hb hv sl sr hl ht hu c5 e3 hp d6;go_in;by_cases e8:mid<m
 . obtain ⟨lo,e5⟩:=zN (NN - b:Nat)
   have g0:(NN:Int) - (b:Int)=(lo:Int):=om;have F:=Jh (b8.out lo mid (Or.inr om));have f0:lo+b<=NN:=om;have f1:NN<=lo+b:=om;have f2:a<=lo:=om;have d4:lo<=mid:=om;have e7:mid<=m:=om;clear e5 b8;have P0:=Jh (show Xi key f p lo mid lo mid from ⟨nI,d4,nI,fun c h1 h2=>om,fun c h1 h2=>om⟩)
   go_wp2
   go_loopw [20,21] (fun vs vr wr=> ∃s r:Nat,vs=↑s/\vr=↑r/\Hd (Xi key f p lo mid s r)/\Hd (Own wr blk n n (gen n f))/\Hd (w.grownBy wr (some blk))) (fun vs vr _=>(intOf vr).toNat - (intOf vs).toNat)
   exact ⟨lo,mid,rfl,rfl,P0,HO,Jh (yU _ _)⟩;obtain ⟨s,r,rfl,rfl,P,V,HG⟩:=hrel;have s1:=P.Z.h1;have s2:=P.Z.h2;have s3:=P.Z.h3;by_cases d3:s<r
   . obtain ⟨c,hc,q1,q2⟩:=Cw s r d3
     obtain ⟨b6,b7,e6⟩:=F.Z.pl c om om;obtain ⟨e,he⟩:=zN (p - c:Nat);have ze:(p:Int) - (c:Int)=(e:Int):=om;rw [<-he] at b6 b7;have HE:=Jh he;have we:IntKind.i64.wrap (e:Int)=(e:Int):=Yc _ om;have cn:c<n:=om;have en:e<n:=om;have c0:a<=c:=om;have c1:c<m:=om;clear he;have bi:((e:Nat):Int)<(n:Int):=om;have bj:((c:Nat):Int)<(n:Int):=om;have ca:=vg V.Z (i:=e) om;have cp:=vg V.Z (i:=c) om;obtain ⟨x,hx⟩:=zN ((f) (e));obtain ⟨y,hy⟩:=zN ((f) (c));have xv:=HV.Z (e) om;have yv:=HV.Z (c) om;rw [<-hx] at ca xv;rw [<-hy] at cp yv;have HX:=Jh hx;have HY:=Jh hy;have MK:Hd (∀v,BelowL wr v->Jc v (blk,e) x/\Jc v (blk,c) y/\BelowL wr v):=Jh (fun v h=>⟨(h.Z.cell V.Z.lt).trans ca,(h.Z.cell V.Z.lt).trans cp,h⟩);have CC:Hd (∀v,BelowL wr v->Calls prog g (#[.int .i64 x, .int .i64 y]++cb) v fun e v'=> ∃c:Int,e= .returned ↑c/\(c<0↔key x<key y)/\Below v.heap.size v v'):=Jh (fun v hv=>U.out v (zY HG.Z (jQ hv.Z _)) x y xv.1 xv.2 yv.1 yv.2);clear hx hy xv yv
     go_wp2
     go_region_held3 MK
      (first | exact MK.Z _ b1 | exact MK.Z _ lS)
      (first
       | (go_at_fn g;((with_reducible refine (CC.Z _ (Zw aS)).mono ?_);rintro e v1 ⟨cc,rfl,e4,b5⟩;have b1:=BelowL.call (Zw aS) b5)))
     have b4:=Jh (V.Z.below b1.Z V.Z.lt);have b3:=Jh (zY HG.Z (jQ b1.Z _));clear ca cp b1 b5 MK CC bi bj;have b0:=Jh (b2.Z c e c0 c1 b6 b7);by_cases hk:key x<key y
     . have Y:(!decide (key x<key y))=false:=by simp [hk]
       rw [Y];clear Y;have P3:=Jh (P.Z.down F.Z q1 q2 (show RL key (f (p - c)) (f c) by rw [<-HE.Z,RL.later b0.Z,<-HX.Z,<-HY.Z];exact hk));clear HX HY b0
       go_wp2
       go_roundw;exact ⟨s,c,rfl,rfl,P3,b4,b3⟩;exact Jm
     have Y:(!decide (key x<key y))=true:=sO;rw [Y];clear Y;have P3:=Jh (P.Z.up F.Z q1 q2 (show ¬RL key (f (p - c)) (f c) by rw [<-HE.Z,RL.later b0.Z,<-HX.Z,<-HY.Z];exact hk));clear HX HY b0
     go_wp2
     go_roundw
     . exact ⟨c+1,r,by go_num,rfl,P3,b4,b3⟩
     exact Jm
   obtain rfl:s=r:=om;obtain ⟨e,he⟩:=zN (NN - s:Nat);have ze:(NN:Int) - (s:Int)=(e:Int):=om
   have S:Hd (wL key f a s m e b):=Jh (by
    have hp:=HP.Z;have F2:=F.Z;have P2:=P.Z;rw [hp] at F2 P2;have h9:=Dr h1 h2 c8 d0 F2 b2.Z (Or.inr om) (Or.inr rfl) P2 om
    rwa [show mid+m - s=e by omega] at h9)
   have t1:=S.Z.h1;have t2:=S.Z.h2;have t3:=S.Z.h3;have t4:=S.Z.h4;obtain ⟨y1,y2,y3,y4,y5,y6,y7⟩:=NT S.Z b2.Z (show s+(e - m)=mid by omega);obtain ⟨Y1,Y2,J,L,Y5⟩:=JI y1 y2 y3 y4 y5;obtain ⟨Y6,C,G⟩:=JF y6 y7 (ZH.rot HV.Z t2 t3 (show e<=n by omega));have e1:s+e<=NN:=om;have e2:NN<=s+e:=om;clear y1 y2 y3 y4 y5 y6 y7 he P P0 F zt d8 zu e0 d1 d7 zp;by_cases ca:s<m
   . by_cases d2:m<e
     . go_wp2_with fail
       refine (aA g cb blk n s m e f _ V.Z hn ca d2 om).mono ?_;rintro W w1 ⟨rfl,B,hg⟩;have I:=Jh B;have H:=Jh (zY HG.Z hg);clear B hg V HG;by_cases cc:a<s
       . by_cases cd:s<mid
         . go_wp2_with fail
           refine (X.out a s mid _ _ om (ko.on (g:=g) (cb:=cb) (key:=key) (blk:=blk) (n:=n) U.out H.Z) I.Z cc cd om G.Z Y1.Z Y2.Z Y5.Z).mono ?_;rintro W w2 ⟨g1,rfl,B,hg,hm⟩;obtain ⟨D,l,E⟩:=JF B (zY H.Z hg) hm;clear B hg hm I H;obtain ⟨g1,j⟩: ∃g1,zX key g1 (zw s m e f) a mid/\Own _ blk n n (gen n g1):=⟨_,E.Z,D.Z⟩
           have o:=Jh j.1;have A:=Jh j.2;clear j E D;have q:=Jh (fun k h=>o.Z.same k (Or.inr h));by_cases R:mid<e
           . by_cases T:e<b
             . go_wp2_with fail
               refine (X.out mid e b _ _ om (ko.on (g:=g) (cb:=cb) (key:=key) (blk:=blk) (n:=n) U.out l.Z) A.Z R T h3 (G.Z.merged o.Z om) (J.Z.congr (fun k h _=>q.Z k h)) (L.Z.congr (fun k h _=>q.Z k om)) (Y6.Z.congr (fun k h _=>q.Z k h) om om)).mono ?_;rintro W w3 ⟨g2,rfl,B,hg,hm⟩;obtain ⟨O,M,Q⟩:=JF B (zY l.Z hg) hm;clear B hg hm A l
               go_wp2
               go_end0
               exact ⟨g2,rfl,O.Z,M.Z,C.Z g1 g2 o.Z Q.Z⟩
             go_wp2
             go_end0
             exact ⟨g1,rfl,A.Z,l.Z,C.Z g1 g1 o.Z (zX.self ((J.Z.congr (fun k h _=>q.Z k h)).sub nI om))⟩
           go_wp2
           go_end0
           exact ⟨g1,rfl,A.Z,l.Z,C.Z g1 g1 o.Z (zX.self ((L.Z.congr (fun k h _=>q.Z k om)).sub om nI))⟩
         have E:Hd (zX key (zw s m e f) (zw s m e f) a mid):=Jh (zX.self (Y1.Z.sub nI om));have D:=I;have l:=H;clear I H;obtain ⟨g1,j⟩: ∃g1,zX key g1 (zw s m e f) a mid/\Own _ blk n n (gen n g1):=⟨_,E.Z,D.Z⟩
         have o:=Jh j.1;have A:=Jh j.2;clear j E D;have q:=Jh (fun k h=>o.Z.same k (Or.inr h));by_cases R:mid<e
         . by_cases T:e<b
           . go_wp2_with fail
             refine (X.out mid e b _ _ om (ko.on (g:=g) (cb:=cb) (key:=key) (blk:=blk) (n:=n) U.out l.Z) A.Z R T h3 (G.Z.merged o.Z om) (J.Z.congr (fun k h _=>q.Z k h)) (L.Z.congr (fun k h _=>q.Z k om)) (Y6.Z.congr (fun k h _=>q.Z k h) om om)).mono ?_;rintro W w3 ⟨g2,rfl,B,hg,hm⟩;obtain ⟨O,M,Q⟩:=JF B (zY l.Z hg) hm;clear B hg hm A l
             go_wp2
             go_end0
             exact ⟨g2,rfl,O.Z,M.Z,C.Z g1 g2 o.Z Q.Z⟩
           go_wp2
           go_end0
           exact ⟨g1,rfl,A.Z,l.Z,C.Z g1 g1 o.Z (zX.self ((J.Z.congr (fun k h _=>q.Z k h)).sub nI om))⟩
         go_wp2
         go_end0
         exact ⟨g1,rfl,A.Z,l.Z,C.Z g1 g1 o.Z (zX.self ((L.Z.congr (fun k h _=>q.Z k om)).sub om nI))⟩
       have h9:a=s:=om;have E:Hd (zX key (zw s m e f) (zw s m e f) a mid):=Jh (zX.self (show Srt key (zw s m e f) a mid by rw [h9];exact Y2.Z));clear h9;have D:=I;have l:=H;clear I H;obtain ⟨g1,j⟩: ∃g1,zX key g1 (zw s m e f) a mid/\Own _ blk n n (gen n g1):=⟨_,E.Z,D.Z⟩
       have o:=Jh j.1;have A:=Jh j.2;clear j E D;have q:=Jh (fun k h=>o.Z.same k (Or.inr h));by_cases R:mid<e
       . by_cases T:e<b
         . go_wp2_with fail
           refine (X.out mid e b _ _ om (ko.on (g:=g) (cb:=cb) (key:=key) (blk:=blk) (n:=n) U.out l.Z) A.Z R T h3 (G.Z.merged o.Z om) (J.Z.congr (fun k h _=>q.Z k h)) (L.Z.congr (fun k h _=>q.Z k om)) (Y6.Z.congr (fun k h _=>q.Z k h) om om)).mono ?_;rintro W w3 ⟨g2,rfl,B,hg,hm⟩;obtain ⟨O,M,Q⟩:=JF B (zY l.Z hg) hm;clear B hg hm A l
           go_wp2
           go_end0
           exact ⟨g2,rfl,O.Z,M.Z,C.Z g1 g2 o.Z Q.Z⟩
         go_wp2
         go_end0
         exact ⟨g1,rfl,A.Z,l.Z,C.Z g1 g1 o.Z (zX.self ((J.Z.congr (fun k h _=>q.Z k h)).sub nI om))⟩
       go_wp2
       go_end0
       exact ⟨g1,rfl,A.Z,l.Z,C.Z g1 g1 o.Z (zX.self ((L.Z.congr (fun k h _=>q.Z k om)).sub om nI))⟩
     have I:Hd (Own wr blk n n (gen n (zw s m e f))):=Jh (by rw [Ka f (Or.inr om) t2 t3];exact V.Z);have H:=HG;clear V HG;by_cases cc:a<s
     . by_cases cd:s<mid
       . go_wp2_with fail
         refine (X.out a s mid _ _ om (ko.on (g:=g) (cb:=cb) (key:=key) (blk:=blk) (n:=n) U.out H.Z) I.Z cc cd om G.Z Y1.Z Y2.Z Y5.Z).mono ?_;rintro W w2 ⟨g1,rfl,B,hg,hm⟩;obtain ⟨D,l,E⟩:=JF B (zY H.Z hg) hm;clear B hg hm I H;obtain ⟨g1,j⟩: ∃g1,zX key g1 (zw s m e f) a mid/\Own _ blk n n (gen n g1):=⟨_,E.Z,D.Z⟩
         have o:=Jh j.1;have A:=Jh j.2;clear j E D;have q:=Jh (fun k h=>o.Z.same k (Or.inr h));by_cases R:mid<e
         . by_cases T:e<b
           . go_wp2_with fail
             refine (X.out mid e b _ _ om (ko.on (g:=g) (cb:=cb) (key:=key) (blk:=blk) (n:=n) U.out l.Z) A.Z R T h3 (G.Z.merged o.Z om) (J.Z.congr (fun k h _=>q.Z k h)) (L.Z.congr (fun k h _=>q.Z k om)) (Y6.Z.congr (fun k h _=>q.Z k h) om om)).mono ?_;rintro W w3 ⟨g2,rfl,B,hg,hm⟩;obtain ⟨O,M,Q⟩:=JF B (zY l.Z hg) hm;clear B hg hm A l
             go_wp2
             go_end0
             exact ⟨g2,rfl,O.Z,M.Z,C.Z g1 g2 o.Z Q.Z⟩
           go_wp2
           go_end0
           exact ⟨g1,rfl,A.Z,l.Z,C.Z g1 g1 o.Z (zX.self ((J.Z.congr (fun k h _=>q.Z k h)).sub nI om))⟩
         go_wp2
         go_end0
         exact ⟨g1,rfl,A.Z,l.Z,C.Z g1 g1 o.Z (zX.self ((L.Z.congr (fun k h _=>q.Z k om)).sub om nI))⟩
       have E:Hd (zX key (zw s m e f) (zw s m e f) a mid):=Jh (zX.self (Y1.Z.sub nI om));have D:=I;have l:=H;clear I H;obtain ⟨g1,j⟩: ∃g1,zX key g1 (zw s m e f) a mid/\Own _ blk n n (gen n g1):=⟨_,E.Z,D.Z⟩
       have o:=Jh j.1;have A:=Jh j.2;clear j E D;have q:=Jh (fun k h=>o.Z.same k (Or.inr h));by_cases R:mid<e
       . by_cases T:e<b
         . go_wp2_with fail
           refine (X.out mid e b _ _ om (ko.on (g:=g) (cb:=cb) (key:=key) (blk:=blk) (n:=n) U.out l.Z) A.Z R T h3 (G.Z.merged o.Z om) (J.Z.congr (fun k h _=>q.Z k h)) (L.Z.congr (fun k h _=>q.Z k om)) (Y6.Z.congr (fun k h _=>q.Z k h) om om)).mono ?_;rintro W w3 ⟨g2,rfl,B,hg,hm⟩;obtain ⟨O,M,Q⟩:=JF B (zY l.Z hg) hm;clear B hg hm A l
           go_wp2
           go_end0
           exact ⟨g2,rfl,O.Z,M.Z,C.Z g1 g2 o.Z Q.Z⟩
         go_wp2
         go_end0
         exact ⟨g1,rfl,A.Z,l.Z,C.Z g1 g1 o.Z (zX.self ((J.Z.congr (fun k h _=>q.Z k h)).sub nI om))⟩
       go_wp2
       go_end0
       exact ⟨g1,rfl,A.Z,l.Z,C.Z g1 g1 o.Z (zX.self ((L.Z.congr (fun k h _=>q.Z k om)).sub om nI))⟩
     have h9:a=s:=om;have E:Hd (zX key (zw s m e f) (zw s m e f) a mid):=Jh (zX.self (show Srt key (zw s m e f) a mid by rw [h9];exact Y2.Z));clear h9;have D:=I;have l:=H;clear I H;obtain ⟨g1,j⟩: ∃g1,zX key g1 (zw s m e f) a mid/\Own _ blk n n (gen n g1):=⟨_,E.Z,D.Z⟩
     have o:=Jh j.1;have A:=Jh j.2;clear j E D;have q:=Jh (fun k h=>o.Z.same k (Or.inr h));by_cases R:mid<e
     . by_cases T:e<b
       . go_wp2_with fail
         refine (X.out mid e b _ _ om (ko.on (g:=g) (cb:=cb) (key:=key) (blk:=blk) (n:=n) U.out l.Z) A.Z R T h3 (G.Z.merged o.Z om) (J.Z.congr (fun k h _=>q.Z k h)) (L.Z.congr (fun k h _=>q.Z k om)) (Y6.Z.congr (fun k h _=>q.Z k h) om om)).mono ?_;rintro W w3 ⟨g2,rfl,B,hg,hm⟩;obtain ⟨O,M,Q⟩:=JF B (zY l.Z hg) hm;clear B hg hm A l
         go_wp2
         go_end0
         exact ⟨g2,rfl,O.Z,M.Z,C.Z g1 g2 o.Z Q.Z⟩
       go_wp2
       go_end0
       exact ⟨g1,rfl,A.Z,l.Z,C.Z g1 g1 o.Z (zX.self ((J.Z.congr (fun k h _=>q.Z k h)).sub nI om))⟩
     go_wp2
     go_end0
     exact ⟨g1,rfl,A.Z,l.Z,C.Z g1 g1 o.Z (zX.self ((L.Z.congr (fun k h _=>q.Z k om)).sub om nI))⟩
   have I:Hd (Own wr blk n n (gen n (zw s m e f))):=Jh (by rw [Ka f (Or.inl om) t2 t3];exact V.Z);have H:=HG;clear V HG;by_cases cc:a<s
   . by_cases cd:s<mid
     . go_wp2_with fail
       refine (X.out a s mid _ _ om (ko.on (g:=g) (cb:=cb) (key:=key) (blk:=blk) (n:=n) U.out H.Z) I.Z cc cd om G.Z Y1.Z Y2.Z Y5.Z).mono ?_;rintro W w2 ⟨g1,rfl,B,hg,hm⟩;obtain ⟨D,l,E⟩:=JF B (zY H.Z hg) hm;clear B hg hm I H;obtain ⟨g1,j⟩: ∃g1,zX key g1 (zw s m e f) a mid/\Own _ blk n n (gen n g1):=⟨_,E.Z,D.Z⟩
       have o:=Jh j.1;have A:=Jh j.2;clear j E D;have q:=Jh (fun k h=>o.Z.same k (Or.inr h));by_cases R:mid<e
       . by_cases T:e<b
         . go_wp2_with fail
           refine (X.out mid e b _ _ om (ko.on (g:=g) (cb:=cb) (key:=key) (blk:=blk) (n:=n) U.out l.Z) A.Z R T h3 (G.Z.merged o.Z om) (J.Z.congr (fun k h _=>q.Z k h)) (L.Z.congr (fun k h _=>q.Z k om)) (Y6.Z.congr (fun k h _=>q.Z k h) om om)).mono ?_;rintro W w3 ⟨g2,rfl,B,hg,hm⟩;obtain ⟨O,M,Q⟩:=JF B (zY l.Z hg) hm;clear B hg hm A l
           go_wp2
           go_end0
           exact ⟨g2,rfl,O.Z,M.Z,C.Z g1 g2 o.Z Q.Z⟩
         go_wp2
         go_end0
         exact ⟨g1,rfl,A.Z,l.Z,C.Z g1 g1 o.Z (zX.self ((J.Z.congr (fun k h _=>q.Z k h)).sub nI om))⟩
       go_wp2
       go_end0
       exact ⟨g1,rfl,A.Z,l.Z,C.Z g1 g1 o.Z (zX.self ((L.Z.congr (fun k h _=>q.Z k om)).sub om nI))⟩
     have E:Hd (zX key (zw s m e f) (zw s m e f) a mid):=Jh (zX.self (Y1.Z.sub nI om));have D:=I;have l:=H;clear I H;obtain ⟨g1,j⟩: ∃g1,zX key g1 (zw s m e f) a mid/\Own _ blk n n (gen n g1):=⟨_,E.Z,D.Z⟩
     have o:=Jh j.1;have A:=Jh j.2;clear j E D;have q:=Jh (fun k h=>o.Z.same k (Or.inr h));by_cases R:mid<e
     . by_cases T:e<b
       . go_wp2_with fail
         refine (X.out mid e b _ _ om (ko.on (g:=g) (cb:=cb) (key:=key) (blk:=blk) (n:=n) U.out l.Z) A.Z R T h3 (G.Z.merged o.Z om) (J.Z.congr (fun k h _=>q.Z k h)) (L.Z.congr (fun k h _=>q.Z k om)) (Y6.Z.congr (fun k h _=>q.Z k h) om om)).mono ?_;rintro W w3 ⟨g2,rfl,B,hg,hm⟩;obtain ⟨O,M,Q⟩:=JF B (zY l.Z hg) hm;clear B hg hm A l
         go_wp2
         go_end0
         exact ⟨g2,rfl,O.Z,M.Z,C.Z g1 g2 o.Z Q.Z⟩
       go_wp2
       go_end0
       exact ⟨g1,rfl,A.Z,l.Z,C.Z g1 g1 o.Z (zX.self ((J.Z.congr (fun k h _=>q.Z k h)).sub nI om))⟩
     go_wp2
     go_end0
     exact ⟨g1,rfl,A.Z,l.Z,C.Z g1 g1 o.Z (zX.self ((L.Z.congr (fun k h _=>q.Z k om)).sub om nI))⟩
   have h9:a=s:=om;have E:Hd (zX key (zw s m e f) (zw s m e f) a mid):=Jh (zX.self (show Srt key (zw s m e f) a mid by rw [h9];exact Y2.Z));clear h9;have D:=I;have l:=H;clear I H;obtain ⟨g1,j⟩: ∃g1,zX key g1 (zw s m e f) a mid/\Own _ blk n n (gen n g1):=⟨_,E.Z,D.Z⟩
   have o:=Jh j.1;have A:=Jh j.2;clear j E D;have q:=Jh (fun k h=>o.Z.same k (Or.inr h));by_cases R:mid<e
   . by_cases T:e<b
     . go_wp2_with fail
       refine (X.out mid e b _ _ om (ko.on (g:=g) (cb:=cb) (key:=key) (blk:=blk) (n:=n) U.out l.Z) A.Z R T h3 (G.Z.merged o.Z om) (J.Z.congr (fun k h _=>q.Z k h)) (L.Z.congr (fun k h _=>q.Z k om)) (Y6.Z.congr (fun k h _=>q.Z k h) om om)).mono ?_;rintro W w3 ⟨g2,rfl,B,hg,hm⟩;obtain ⟨O,M,Q⟩:=JF B (zY l.Z hg) hm;clear B hg hm A l
       go_wp2
       go_end0
       exact ⟨g2,rfl,O.Z,M.Z,C.Z g1 g2 o.Z Q.Z⟩
     go_wp2
     go_end0
     exact ⟨g1,rfl,A.Z,l.Z,C.Z g1 g1 o.Z (zX.self ((J.Z.congr (fun k h _=>q.Z k h)).sub nI om))⟩
   go_wp2
   go_end0
   exact ⟨g1,rfl,A.Z,l.Z,C.Z g1 g1 o.Z (zX.self ((L.Z.congr (fun k h _=>q.Z k om)).sub om nI))⟩
 have F:=Jh (b8.out a m (Or.inl om));have d4:a<=m:=om;clear b8;have P0:=Jh (show Xi key f p a m a m from ⟨nI,d4,nI,fun c h1 h2=>om,fun c h1 h2=>om⟩)
 go_wp2
 go_loopw [20,21] (fun vs vr wr=> ∃s r:Nat,vs=↑s/\vr=↑r/\Hd (Xi key f p a m s r)/\Hd (Own wr blk n n (gen n f))/\Hd (w.grownBy wr (some blk))) (fun vs vr _=>(intOf vr).toNat - (intOf vs).toNat)
 exact ⟨a,m,rfl,rfl,P0,HO,Jh (yU _ _)⟩;obtain ⟨s,r,rfl,rfl,P,V,HG⟩:=hrel;have s1:=P.Z.h1;have s2:=P.Z.h2;have s3:=P.Z.h3;by_cases d3:s<r
 . obtain ⟨c,hc,q1,q2⟩:=Cw s r d3
   obtain ⟨b6,b7,e6⟩:=F.Z.pl c om om;obtain ⟨e,he⟩:=zN (p - c:Nat);have ze:(p:Int) - (c:Int)=(e:Int):=om;rw [<-he] at b6 b7;have HE:=Jh he;have we:IntKind.i64.wrap (e:Int)=(e:Int):=Yc _ om;have cn:c<n:=om;have en:e<n:=om;have c0:a<=c:=om;have c1:c<m:=om;clear he;have bi:((e:Nat):Int)<(n:Int):=om;have bj:((c:Nat):Int)<(n:Int):=om;have ca:=vg V.Z (i:=e) om;have cp:=vg V.Z (i:=c) om;obtain ⟨x,hx⟩:=zN ((f) (e));obtain ⟨y,hy⟩:=zN ((f) (c));have xv:=HV.Z (e) om;have yv:=HV.Z (c) om;rw [<-hx] at ca xv;rw [<-hy] at cp yv;have HX:=Jh hx;have HY:=Jh hy;have MK:Hd (∀v,BelowL wr v->Jc v (blk,e) x/\Jc v (blk,c) y/\BelowL wr v):=Jh (fun v h=>⟨(h.Z.cell V.Z.lt).trans ca,(h.Z.cell V.Z.lt).trans cp,h⟩);have CC:Hd (∀v,BelowL wr v->Calls prog g (#[.int .i64 x, .int .i64 y]++cb) v fun e v'=> ∃c:Int,e= .returned ↑c/\(c<0↔key x<key y)/\Below v.heap.size v v'):=Jh (fun v hv=>U.out v (zY HG.Z (jQ hv.Z _)) x y xv.1 xv.2 yv.1 yv.2);clear hx hy xv yv
   go_wp2
   go_region_held3 MK
    (first | exact MK.Z _ b1 | exact MK.Z _ lS)
    (first
     | (go_at_fn g;((with_reducible refine (CC.Z _ (Zw aS)).mono ?_);rintro e v1 ⟨cc,rfl,e4,b5⟩;have b1:=BelowL.call (Zw aS) b5)))
   have b4:=Jh (V.Z.below b1.Z V.Z.lt);have b3:=Jh (zY HG.Z (jQ b1.Z _));clear ca cp b1 b5 MK CC bi bj;have b0:=Jh (b2.Z c e c0 c1 b6 b7);by_cases hk:key x<key y
   . have Y:(!decide (key x<key y))=false:=by simp [hk]
     rw [Y];clear Y;have P3:=Jh (P.Z.down F.Z q1 q2 (show RL key (f (p - c)) (f c) by rw [<-HE.Z,RL.later b0.Z,<-HX.Z,<-HY.Z];exact hk));clear HX HY b0
     go_wp2
     go_roundw;exact ⟨s,c,rfl,rfl,P3,b4,b3⟩;exact Jm
   have Y:(!decide (key x<key y))=true:=sO;rw [Y];clear Y;have P3:=Jh (P.Z.up F.Z q1 q2 (show ¬RL key (f (p - c)) (f c) by rw [<-HE.Z,RL.later b0.Z,<-HX.Z,<-HY.Z];exact hk));clear HX HY b0
   go_wp2
   go_roundw
   . exact ⟨c+1,r,by go_num,rfl,P3,b4,b3⟩
   exact Jm
 obtain rfl:s=r:=om;obtain ⟨e,he⟩:=zN (NN - s:Nat);have ze:(NN:Int) - (s:Int)=(e:Int):=om
 have S:Hd (wL key f a s m e b):=Jh (by
  have hp:=HP.Z;have F2:=F.Z;have P2:=P.Z;rw [hp] at F2 P2;have h9:=Dr h1 h2 c8 d0 F2 b2.Z (Or.inl rfl) (Or.inl rfl) P2 om
  rwa [show mid+m - s=e by omega] at h9)
 have t1:=S.Z.h1;have t2:=S.Z.h2;have t3:=S.Z.h3;have t4:=S.Z.h4;obtain ⟨y1,y2,y3,y4,y5,y6,y7⟩:=NT S.Z b2.Z (show s+(e - m)=mid by omega);obtain ⟨Y1,Y2,J,L,Y5⟩:=JI y1 y2 y3 y4 y5;obtain ⟨Y6,C,G⟩:=JF y6 y7 (ZH.rot HV.Z t2 t3 (show e<=n by omega));have e1:s+e<=NN:=om;have e2:NN<=s+e:=om;clear y1 y2 y3 y4 y5 y6 y7 he P P0 F zt d8 zu e0 d1 d7 zp;by_cases ca:s<m
 . by_cases d2:m<e
   . go_wp2_with fail
     refine (aA g cb blk n s m e f _ V.Z hn ca d2 om).mono ?_;rintro W w1 ⟨rfl,B,hg⟩;have I:=Jh B;have H:=Jh (zY HG.Z hg);clear B hg V HG;by_cases cc:a<s
     . by_cases cd:s<mid
       . go_wp2_with fail
         refine (X.out a s mid _ _ om (ko.on (g:=g) (cb:=cb) (key:=key) (blk:=blk) (n:=n) U.out H.Z) I.Z cc cd om G.Z Y1.Z Y2.Z Y5.Z).mono ?_;rintro W w2 ⟨g1,rfl,B,hg,hm⟩;obtain ⟨D,l,E⟩:=JF B (zY H.Z hg) hm;clear B hg hm I H;obtain ⟨g1,j⟩: ∃g1,zX key g1 (zw s m e f) a mid/\Own _ blk n n (gen n g1):=⟨_,E.Z,D.Z⟩
         have o:=Jh j.1;have A:=Jh j.2;clear j E D;have q:=Jh (fun k h=>o.Z.same k (Or.inr h));by_cases R:mid<e
         . by_cases T:e<b
           . go_wp2_with fail
             refine (X.out mid e b _ _ om (ko.on (g:=g) (cb:=cb) (key:=key) (blk:=blk) (n:=n) U.out l.Z) A.Z R T h3 (G.Z.merged o.Z om) (J.Z.congr (fun k h _=>q.Z k h)) (L.Z.congr (fun k h _=>q.Z k om)) (Y6.Z.congr (fun k h _=>q.Z k h) om om)).mono ?_;rintro W w3 ⟨g2,rfl,B,hg,hm⟩;obtain ⟨O,M,Q⟩:=JF B (zY l.Z hg) hm;clear B hg hm A l
             go_wp2
             go_end0
             exact ⟨g2,rfl,O.Z,M.Z,C.Z g1 g2 o.Z Q.Z⟩
           go_wp2
           go_end0
           exact ⟨g1,rfl,A.Z,l.Z,C.Z g1 g1 o.Z (zX.self ((J.Z.congr (fun k h _=>q.Z k h)).sub nI om))⟩
         go_wp2
         go_end0
         exact ⟨g1,rfl,A.Z,l.Z,C.Z g1 g1 o.Z (zX.self ((L.Z.congr (fun k h _=>q.Z k om)).sub om nI))⟩
       have E:Hd (zX key (zw s m e f) (zw s m e f) a mid):=Jh (zX.self (Y1.Z.sub nI om));have D:=I;have l:=H;clear I H;obtain ⟨g1,j⟩: ∃g1,zX key g1 (zw s m e f) a mid/\Own _ blk n n (gen n g1):=⟨_,E.Z,D.Z⟩
       have o:=Jh j.1;have A:=Jh j.2;clear j E D;have q:=Jh (fun k h=>o.Z.same k (Or.inr h));by_cases R:mid<e
       . by_cases T:e<b
         . go_wp2_with fail
           refine (X.out mid e b _ _ om (ko.on (g:=g) (cb:=cb) (key:=key) (blk:=blk) (n:=n) U.out l.Z) A.Z R T h3 (G.Z.merged o.Z om) (J.Z.congr (fun k h _=>q.Z k h)) (L.Z.congr (fun k h _=>q.Z k om)) (Y6.Z.congr (fun k h _=>q.Z k h) om om)).mono ?_;rintro W w3 ⟨g2,rfl,B,hg,hm⟩;obtain ⟨O,M,Q⟩:=JF B (zY l.Z hg) hm;clear B hg hm A l
           go_wp2
           go_end0
           exact ⟨g2,rfl,O.Z,M.Z,C.Z g1 g2 o.Z Q.Z⟩
         go_wp2
         go_end0
         exact ⟨g1,rfl,A.Z,l.Z,C.Z g1 g1 o.Z (zX.self ((J.Z.congr (fun k h _=>q.Z k h)).sub nI om))⟩
       go_wp2
       go_end0
       exact ⟨g1,rfl,A.Z,l.Z,C.Z g1 g1 o.Z (zX.self ((L.Z.congr (fun k h _=>q.Z k om)).sub om nI))⟩
     have h9:a=s:=om;have E:Hd (zX key (zw s m e f) (zw s m e f) a mid):=Jh (zX.self (show Srt key (zw s m e f) a mid by rw [h9];exact Y2.Z));clear h9;have D:=I;have l:=H;clear I H;obtain ⟨g1,j⟩: ∃g1,zX key g1 (zw s m e f) a mid/\Own _ blk n n (gen n g1):=⟨_,E.Z,D.Z⟩
     have o:=Jh j.1;have A:=Jh j.2;clear j E D;have q:=Jh (fun k h=>o.Z.same k (Or.inr h));by_cases R:mid<e
     . by_cases T:e<b
       . go_wp2_with fail
         refine (X.out mid e b _ _ om (ko.on (g:=g) (cb:=cb) (key:=key) (blk:=blk) (n:=n) U.out l.Z) A.Z R T h3 (G.Z.merged o.Z om) (J.Z.congr (fun k h _=>q.Z k h)) (L.Z.congr (fun k h _=>q.Z k om)) (Y6.Z.congr (fun k h _=>q.Z k h) om om)).mono ?_;rintro W w3 ⟨g2,rfl,B,hg,hm⟩;obtain ⟨O,M,Q⟩:=JF B (zY l.Z hg) hm;clear B hg hm A l
         go_wp2
         go_end0
         exact ⟨g2,rfl,O.Z,M.Z,C.Z g1 g2 o.Z Q.Z⟩
       go_wp2
       go_end0
       exact ⟨g1,rfl,A.Z,l.Z,C.Z g1 g1 o.Z (zX.self ((J.Z.congr (fun k h _=>q.Z k h)).sub nI om))⟩
     go_wp2
     go_end0
     exact ⟨g1,rfl,A.Z,l.Z,C.Z g1 g1 o.Z (zX.self ((L.Z.congr (fun k h _=>q.Z k om)).sub om nI))⟩
   have I:Hd (Own wr blk n n (gen n (zw s m e f))):=Jh (by rw [Ka f (Or.inr om) t2 t3];exact V.Z);have H:=HG;clear V HG;by_cases cc:a<s
   . by_cases cd:s<mid
     . go_wp2_with fail
       refine (X.out a s mid _ _ om (ko.on (g:=g) (cb:=cb) (key:=key) (blk:=blk) (n:=n) U.out H.Z) I.Z cc cd om G.Z Y1.Z Y2.Z Y5.Z).mono ?_;rintro W w2 ⟨g1,rfl,B,hg,hm⟩;obtain ⟨D,l,E⟩:=JF B (zY H.Z hg) hm;clear B hg hm I H;obtain ⟨g1,j⟩: ∃g1,zX key g1 (zw s m e f) a mid/\Own _ blk n n (gen n g1):=⟨_,E.Z,D.Z⟩
       have o:=Jh j.1;have A:=Jh j.2;clear j E D;have q:=Jh (fun k h=>o.Z.same k (Or.inr h));by_cases R:mid<e
       . by_cases T:e<b
         . go_wp2_with fail
           refine (X.out mid e b _ _ om (ko.on (g:=g) (cb:=cb) (key:=key) (blk:=blk) (n:=n) U.out l.Z) A.Z R T h3 (G.Z.merged o.Z om) (J.Z.congr (fun k h _=>q.Z k h)) (L.Z.congr (fun k h _=>q.Z k om)) (Y6.Z.congr (fun k h _=>q.Z k h) om om)).mono ?_;rintro W w3 ⟨g2,rfl,B,hg,hm⟩;obtain ⟨O,M,Q⟩:=JF B (zY l.Z hg) hm;clear B hg hm A l
           go_wp2
           go_end0
           exact ⟨g2,rfl,O.Z,M.Z,C.Z g1 g2 o.Z Q.Z⟩
         go_wp2
         go_end0
         exact ⟨g1,rfl,A.Z,l.Z,C.Z g1 g1 o.Z (zX.self ((J.Z.congr (fun k h _=>q.Z k h)).sub nI om))⟩
       go_wp2
       go_end0
       exact ⟨g1,rfl,A.Z,l.Z,C.Z g1 g1 o.Z (zX.self ((L.Z.congr (fun k h _=>q.Z k om)).sub om nI))⟩
     have E:Hd (zX key (zw s m e f) (zw s m e f) a mid):=Jh (zX.self (Y1.Z.sub nI om));have D:=I;have l:=H;clear I H;obtain ⟨g1,j⟩: ∃g1,zX key g1 (zw s m e f) a mid/\Own _ blk n n (gen n g1):=⟨_,E.Z,D.Z⟩
     have o:=Jh j.1;have A:=Jh j.2;clear j E D;have q:=Jh (fun k h=>o.Z.same k (Or.inr h));by_cases R:mid<e
     . by_cases T:e<b
       . go_wp2_with fail
         refine (X.out mid e b _ _ om (ko.on (g:=g) (cb:=cb) (key:=key) (blk:=blk) (n:=n) U.out l.Z) A.Z R T h3 (G.Z.merged o.Z om) (J.Z.congr (fun k h _=>q.Z k h)) (L.Z.congr (fun k h _=>q.Z k om)) (Y6.Z.congr (fun k h _=>q.Z k h) om om)).mono ?_;rintro W w3 ⟨g2,rfl,B,hg,hm⟩;obtain ⟨O,M,Q⟩:=JF B (zY l.Z hg) hm;clear B hg hm A l
         go_wp2
         go_end0
         exact ⟨g2,rfl,O.Z,M.Z,C.Z g1 g2 o.Z Q.Z⟩
       go_wp2
       go_end0
       exact ⟨g1,rfl,A.Z,l.Z,C.Z g1 g1 o.Z (zX.self ((J.Z.congr (fun k h _=>q.Z k h)).sub nI om))⟩
     go_wp2
     go_end0
     exact ⟨g1,rfl,A.Z,l.Z,C.Z g1 g1 o.Z (zX.self ((L.Z.congr (fun k h _=>q.Z k om)).sub om nI))⟩
   have h9:a=s:=om;have E:Hd (zX key (zw s m e f) (zw s m e f) a mid):=Jh (zX.self (show Srt key (zw s m e f) a mid by rw [h9];exact Y2.Z));clear h9;have D:=I;have l:=H;clear I H;obtain ⟨g1,j⟩: ∃g1,zX key g1 (zw s m e f) a mid/\Own _ blk n n (gen n g1):=⟨_,E.Z,D.Z⟩
   have o:=Jh j.1;have A:=Jh j.2;clear j E D;have q:=Jh (fun k h=>o.Z.same k (Or.inr h));by_cases R:mid<e
   . by_cases T:e<b
     . go_wp2_with fail
       refine (X.out mid e b _ _ om (ko.on (g:=g) (cb:=cb) (key:=key) (blk:=blk) (n:=n) U.out l.Z) A.Z R T h3 (G.Z.merged o.Z om) (J.Z.congr (fun k h _=>q.Z k h)) (L.Z.congr (fun k h _=>q.Z k om)) (Y6.Z.congr (fun k h _=>q.Z k h) om om)).mono ?_;rintro W w3 ⟨g2,rfl,B,hg,hm⟩;obtain ⟨O,M,Q⟩:=JF B (zY l.Z hg) hm;clear B hg hm A l
       go_wp2
       go_end0
       exact ⟨g2,rfl,O.Z,M.Z,C.Z g1 g2 o.Z Q.Z⟩
     go_wp2
     go_end0
     exact ⟨g1,rfl,A.Z,l.Z,C.Z g1 g1 o.Z (zX.self ((J.Z.congr (fun k h _=>q.Z k h)).sub nI om))⟩
   go_wp2
   go_end0
   exact ⟨g1,rfl,A.Z,l.Z,C.Z g1 g1 o.Z (zX.self ((L.Z.congr (fun k h _=>q.Z k om)).sub om nI))⟩
 have I:Hd (Own wr blk n n (gen n (zw s m e f))):=Jh (by rw [Ka f (Or.inl om) t2 t3];exact V.Z);have H:=HG;clear V HG;by_cases cc:a<s
 . by_cases cd:s<mid
   . go_wp2_with fail
     refine (X.out a s mid _ _ om (ko.on (g:=g) (cb:=cb) (key:=key) (blk:=blk) (n:=n) U.out H.Z) I.Z cc cd om G.Z Y1.Z Y2.Z Y5.Z).mono ?_;rintro W w2 ⟨g1,rfl,B,hg,hm⟩;obtain ⟨D,l,E⟩:=JF B (zY H.Z hg) hm;clear B hg hm I H;obtain ⟨g1,j⟩: ∃g1,zX key g1 (zw s m e f) a mid/\Own _ blk n n (gen n g1):=⟨_,E.Z,D.Z⟩
     have o:=Jh j.1;have A:=Jh j.2;clear j E D;have q:=Jh (fun k h=>o.Z.same k (Or.inr h));by_cases R:mid<e
     . by_cases T:e<b
       . go_wp2_with fail
         refine (X.out mid e b _ _ om (ko.on (g:=g) (cb:=cb) (key:=key) (blk:=blk) (n:=n) U.out l.Z) A.Z R T h3 (G.Z.merged o.Z om) (J.Z.congr (fun k h _=>q.Z k h)) (L.Z.congr (fun k h _=>q.Z k om)) (Y6.Z.congr (fun k h _=>q.Z k h) om om)).mono ?_;rintro W w3 ⟨g2,rfl,B,hg,hm⟩;obtain ⟨O,M,Q⟩:=JF B (zY l.Z hg) hm;clear B hg hm A l
         go_wp2
         go_end0
         exact ⟨g2,rfl,O.Z,M.Z,C.Z g1 g2 o.Z Q.Z⟩
       go_wp2
       go_end0
       exact ⟨g1,rfl,A.Z,l.Z,C.Z g1 g1 o.Z (zX.self ((J.Z.congr (fun k h _=>q.Z k h)).sub nI om))⟩
     go_wp2
     go_end0
     exact ⟨g1,rfl,A.Z,l.Z,C.Z g1 g1 o.Z (zX.self ((L.Z.congr (fun k h _=>q.Z k om)).sub om nI))⟩
   have E:Hd (zX key (zw s m e f) (zw s m e f) a mid):=Jh (zX.self (Y1.Z.sub nI om));have D:=I;have l:=H;clear I H;obtain ⟨g1,j⟩: ∃g1,zX key g1 (zw s m e f) a mid/\Own _ blk n n (gen n g1):=⟨_,E.Z,D.Z⟩
   have o:=Jh j.1;have A:=Jh j.2;clear j E D;have q:=Jh (fun k h=>o.Z.same k (Or.inr h));by_cases R:mid<e
   . by_cases T:e<b
     . go_wp2_with fail
       refine (X.out mid e b _ _ om (ko.on (g:=g) (cb:=cb) (key:=key) (blk:=blk) (n:=n) U.out l.Z) A.Z R T h3 (G.Z.merged o.Z om) (J.Z.congr (fun k h _=>q.Z k h)) (L.Z.congr (fun k h _=>q.Z k om)) (Y6.Z.congr (fun k h _=>q.Z k h) om om)).mono ?_;rintro W w3 ⟨g2,rfl,B,hg,hm⟩;obtain ⟨O,M,Q⟩:=JF B (zY l.Z hg) hm;clear B hg hm A l
       go_wp2
       go_end0
       exact ⟨g2,rfl,O.Z,M.Z,C.Z g1 g2 o.Z Q.Z⟩
     go_wp2
     go_end0
     exact ⟨g1,rfl,A.Z,l.Z,C.Z g1 g1 o.Z (zX.self ((J.Z.congr (fun k h _=>q.Z k h)).sub nI om))⟩
   go_wp2
   go_end0
   exact ⟨g1,rfl,A.Z,l.Z,C.Z g1 g1 o.Z (zX.self ((L.Z.congr (fun k h _=>q.Z k om)).sub om nI))⟩
 have h9:a=s:=om;have E:Hd (zX key (zw s m e f) (zw s m e f) a mid):=Jh (zX.self (show Srt key (zw s m e f) a mid by rw [h9];exact Y2.Z));clear h9;have D:=I;have l:=H;clear I H;obtain ⟨g1,j⟩: ∃g1,zX key g1 (zw s m e f) a mid/\Own _ blk n n (gen n g1):=⟨_,E.Z,D.Z⟩
 have o:=Jh j.1;have A:=Jh j.2;clear j E D;have q:=Jh (fun k h=>o.Z.same k (Or.inr h));by_cases R:mid<e
 . by_cases T:e<b
   . go_wp2_with fail
     refine (X.out mid e b _ _ om (ko.on (g:=g) (cb:=cb) (key:=key) (blk:=blk) (n:=n) U.out l.Z) A.Z R T h3 (G.Z.merged o.Z om) (J.Z.congr (fun k h _=>q.Z k h)) (L.Z.congr (fun k h _=>q.Z k om)) (Y6.Z.congr (fun k h _=>q.Z k h) om om)).mono ?_;rintro W w3 ⟨g2,rfl,B,hg,hm⟩;obtain ⟨O,M,Q⟩:=JF B (zY l.Z hg) hm;clear B hg hm A l
     go_wp2
     go_end0
     exact ⟨g2,rfl,O.Z,M.Z,C.Z g1 g2 o.Z Q.Z⟩
   go_wp2
   go_end0
   exact ⟨g1,rfl,A.Z,l.Z,C.Z g1 g1 o.Z (zX.self ((J.Z.congr (fun k h _=>q.Z k h)).sub nI om))⟩
 go_wp2
 go_end0
 exact ⟨g1,rfl,A.Z,l.Z,C.Z g1 g1 o.Z (zX.self ((L.Z.congr (fun k h _=>q.Z k om)).sub om nI))⟩
end Go.Proofs.YtlenfgdjdianiaaGreatDoor
