/-
  Contracts and plain facts on which the theorem of this claim rests, text 26.
-/
import Derived.Test.YtanccoopbgamdaaGreatDoorKC25
namespace Go.Proofs.YtanccoopbgamdaaGreatDoor
open Go.RowKit
set_option linter.unusedVariables false
set_option linter.unusedSimpArgs false
theorem Srt.congr {key:Int→Int} {f g:Nat→Int} {x y:Nat} (h:Srt key f x y) (e: ∀k,x≤k→k<y→g k=f k):Srt key g x y:=fun i j p q r=>by
 rw [e i p (by omega),e j (by omega) r];exact h i j p q r
theorem LLess.congr {f g:Nat→Int} {x z y:Nat} (h:LLess f x z y) (e: ∀k,x≤k→k<y→g k=f k) (h1:x≤z) (h2:z≤y):LLess g x z y:=fun i j p q r t=>by
 rw [e i p (by omega),e j (by omega) t];exact h i j p q r t
theorem InRow.merged {key:Int→Int} {f g:Nat→Int} {x y n:Nat} (h:InRow f n) (m:Merged key g f x y) (hy:y≤n):InRow g n:=fun k hk=>by
 by_cases c:k<x∨y≤k
 · rw [m.same k c];exact h k hk
 · obtain ⟨k0,a0,a1,a2⟩:=m.frm k (by omega) (by omega)
   rw [a2];exact h k0 (by omega)
theorem InRow.rot {f:Nat→Int} {s m e n:Nat} (h:InRow f n) (h1:s≤m) (h2:m≤e) (h3:e≤n):InRow (rotF s m e f) n:=fun k hk=>by
 obtain ⟨k0,a0,a1,a2⟩:=rot_from (a:=0) (b:=n) f (Nat.zero_le _) h1 h2 h3 k (Nat.zero_le _) hk
 rw [a2];exact h k0 a1
theorem sym_facts {key:Int→Int} {f:Nat→Int} {a s m e b mid:Nat} (S:Split key f a s m e b) (hl:LLess f a m b) (em:s+(e - m)=mid):
   Srt key (rotF s m e f) a s∧Srt key (rotF s m e f) s mid∧Srt key (rotF s m e f) mid e∧Srt key (rotF s m e f) e b∧LLess (rotF s m e f) a s mid∧LLess (rotF s m e f) mid e b∧
   (∀g1 g2,Merged key g1 (rotF s m e f) a mid→Merged key g2 g1 mid b→Merged key g2 f a b):=by
 subst em
 exact ⟨S.lo.1,S.lo.2,S.hi.1,S.hi.2,(S.lless hl).1,(S.lless hl).2,fun g1 g2=>S.done⟩
theorem probe_field {key:Int→Int} {f:Nat→Int} {a m b mid lo hi:Nat} (h1:a<m) (h2:m<b) (hm:(a+b)/2=mid) (h:(lo=a∧hi=m∧m≤mid)∨(lo+b=mid+m∧hi=mid∧mid<m)) (sl:Srt key f a m) (sr:Srt key f m b):Field key f a m b (mid+m - 1) lo hi:=by
 rcases h with ⟨rfl,rfl,h3⟩ | ⟨h3,rfl,h4⟩
 · exact ⟨Nat.le_refl _,Nat.le_refl _,by omega,fun c p q=>by omega,sl,sr⟩
 · exact ⟨by omega,by omega,by omega,fun c p q=>by omega,sl,sr⟩
set_option maxRecDepth 100000 in
set_option maxHeartbeats 3000000 in
theorem sym_step (g :Nat) (cb:Array Value) (key:Int→Int) (blk n N:Nat) (eg: ∀args w,(callFunc g args).run Tryz.prog w= .ok (.enter g args) w) (hn:n≤100000)
   (ih: ∀(a m b:Nat) (f:Nat→Int) (w:World),b - a≤N→CmpN g cb key blk n w→Own w blk n n (gen n f)→a<m→m<b→b≤n→InRow f n→Srt key f a m→Srt key f m b→LLess f a m b→
     Calls Tryz.prog 217 #[.slice (some ⟨blk,0,none⟩) n n, .int .i64 a, .int .i64 m, .int .i64 b, .func (.func g) #[] cb] w fun e w'=> ∃f',e= .returned (.tuple #[])∧Own w' blk n n (gen n f')∧w.grownBy w' (some blk)∧Merged key f' f a b)
   (a m b:Nat) (f:Nat→Int) (w:World) (hN:b - a≤N+1) (hcmp:CmpN g cb key blk n w) (ho:Own w blk n n (gen n f)) (ha:m≠a+1) (hb:b≠m+1) (h1:a<m) (h2:m<b) (h3:b≤n) (hv:InRow f n) (sl:Srt key f a m) (sr:Srt key f m b) (hl:LLess f a m b):
   Calls Tryz.prog 217 #[.slice (some ⟨blk,0,none⟩) n n, .int .i64 a, .int .i64 m, .int .i64 b, .func (.func g) #[] cb] w fun e w'=> ∃f',e= .returned (.tuple #[])∧Own w' blk n n (gen n f')∧w.grownBy w' (some blk)∧Merged key f' f a b:=by
 have IH:Aside _:=ih
 have HO:=Lib.hid ho
 have HC:Aside _:=hcmp
 have HV:=Lib.hid hv
 have HLL:=Lib.hid hl
 obtain ⟨t,ht⟩: ∃t:Nat,t=m - a:=⟨_,rfl⟩
 have zt:(m:Int) - (a:Int)=(t:Int):=by omega
 have zt1:((t:Int)==1)=false:=by simp;omega
 obtain ⟨u,hu⟩: ∃u:Nat,u=b - m:=⟨_,rfl⟩
 have zu:(b:Int) - (m:Int)=(u:Int):=by omega
 have zu1:((u:Int)==1)=false:=by simp;omega
 obtain ⟨mid,hmid⟩: ∃mid:Nat,(a+b)/2=mid:=⟨_,rfl⟩
 have zmid:((a:Int)+(b:Int))/2=(mid:Int):=by omega
 have mid1:a<mid:=by omega
 have mid2:mid<b:=by omega
 obtain ⟨NN,hNN⟩: ∃NN:Nat,NN=mid+m:=⟨_,rfl⟩
 have zNN:(mid:Int)+(m:Int)=(NN:Int):=by omega
 obtain ⟨p,hp⟩: ∃p:Nat,p=NN - 1:=⟨_,rfl⟩
 have zp:(NN:Int) - 1=(p:Int):=by omega
 have nn1:p+1≤NN:=by omega
 have nn2:NN≤p+1:=by omega
 have nn3:mid+m≤NN:=by omega
 have nn4:NN≤mid+m:=by omega
 have HMID:=Lib.hid hmid
 have HP:Hid (p=mid+m - 1):=Lib.hid (by omega)
 have fld: ∀lo hi:Nat,((lo=a∧hi=m∧m≤mid)∨(lo+b=mid+m∧hi=mid∧mid<m))→Field key f a m b p lo hi:=fun lo hi h=>by rw [HP.out];exact probe_field h1 h2 HMID.out h sl sr
 have FLD:Aside _:=fld
 clear ih ho hcmp ha hb hv sl sr hl ht hu hmid hNN hp fld
 go_enter Tryz.func217,Tryz.ntmps217
 by_cases hmm:mid<m
 · obtain ⟨lo, hlo⟩: ∃lo:Nat,lo=NN - b:=⟨_,rfl⟩
   have zlo:(NN:Int) - (b:Int)=(lo:Int):=by omega
   have F:=Lib.hid (FLD.out lo mid (Or.inr (by omega)))
   have lo1:lo+b≤NN:=by omega
   have lo2:NN≤lo+b:=by omega
   have lo3:a≤lo:=by omega
   have lo4:lo≤mid:=by omega
   have hi1:mid≤m:=by omega
   clear hlo FLD
   have P0:=Lib.hid (show Probe key f p lo mid lo mid from ⟨Nat.le_refl _,lo4,Nat.le_refl _,fun c h1 h2=>by omega,fun c h1 h2=>by omega⟩)
   go_wp2_with fail
   go_loopw [20,21] (fun vs vr wr=> ∃s r:Nat,vs= .int .i64 s∧vr= .int .i64 r∧Hid (Probe key f p lo mid s r)∧Hid (Own wr blk n n (gen n f))∧Hid (w.grownBy wr (some blk))) (fun vs vr _=>(intOf vr).toNat - (intOf vs).toNat)
   case atStart=>exact ⟨lo,mid,rfl,rfl,P0,HO,Lib.hid (grown_refl _ _)⟩
   case round=>
     obtain ⟨s,r,rfl,rfl,P,HR,HG⟩:=hrel
     have s1:=P.out.h1
     have s2:=P.out.h2
     have s3:=P.out.h3
     by_cases hlt:s<r
     · obtain ⟨c,hc,q1,q2⟩:=half_le s r hlt
       obtain ⟨pl1,pl2,pl3⟩:=F.out.pl c (by omega) (by omega)
       obtain ⟨e,he⟩: ∃e:Nat,e=p - c:=⟨_,rfl⟩
       have ze:(p:Int) - (c:Int)=(e:Int):=by omega
       rw [←he] at pl1 pl2
       have HE:=Lib.hid he
       have we:IntKind.i64.wrap (e:Int)=(e:Int):=IntWalk.i64_in _ (by omega)
       have cn:c<n:=by omega
       have en:e<n:=by omega
       have c0:a≤c:=by omega
       have c1:c<m:=by omega
       clear he
       have bi:((e:Nat):Int)<(n:Int):=by omega
       have bj:((c:Nat):Int)<(n:Int):=by omega
       have ca:=own_c HR.out (i:=e) (by omega)
       have cp:=own_c HR.out (i:=c) (by omega)
       obtain ⟨x,hx⟩: ∃zz,zz=(f) (e):=⟨_,rfl⟩
       obtain ⟨y,hy⟩: ∃zz,zz=(f) (c):=⟨_,rfl⟩
       have xv:=HV.out (e) (by omega)
       have yv:=HV.out (c) (by omega)
       rw [←hx] at ca xv
       rw [←hy] at cp yv
       have HX:=Lib.hid hx
       have HY:=Lib.hid hy
       have MK:Hid (∀v,BelowL wr v→v.cell? ⟨blk,e,none⟩=some (.int .i64 x)∧v.cell? ⟨blk,c,none⟩=some (.int .i64 y)∧BelowL wr v):=Lib.hid (fun v h=>⟨(h.out.cell HR.out.lt).trans ca,(h.out.cell HR.out.lt).trans cp,h⟩)
       have CC:Hid (∀v,BelowL wr v→Calls Tryz.prog g (#[.int .i64 x, .int .i64 y]++cb) v fun e v'=> ∃c:Int,e= .returned (.int .i64 c)∧(c<0↔key x<key y)∧Below v.heap.size v v'):=Lib.hid (fun v hv=>HC.out v (grown_trans HG.out (grown_of_belowS hv.out _)) x y xv.1 xv.2 yv.1 yv.2)
       clear hx hy xv yv
       go_wp2_with fail
       go_region_held3 (fun v=>v.cell? ⟨blk,e,none⟩=some (.int .i64 x)∧v.cell? ⟨blk,c,none⟩=some (.int .i64 y)∧BelowL wr v)
         (first | exact MK.out _ hb1 | exact MK.out _ (BelowL.start _))
         (first
           | (go_at_fn g;((with_reducible refine (CC.out _ (limb3 (by assumption))).mono ?_);rintro e v1 ⟨cc,rfl,hcc,hq1⟩;have hb1:=BelowL.call (limb3 (by assumption)) hq1)))
       have HR1:=Lib.hid (HR.out.below hb1.out HR.out.lt)
       have HG1:=Lib.hid (grown_trans HG.out (grown_of_belowS hb1.out _))
       clear ca cp hb1 hq1 MK CC bi bj
       have HLT:=Lib.hid (HLL.out c e c0 c1 pl1 pl2)
       by_cases hk:key x<key y
       · have hk2:(!decide (key x<key y))=false:=by simp [hk]
         rw [hk2]
         clear hk2
         have P3:=Lib.hid (P.out.down F.out q1 q2 (show RL key (f (p - c)) (f c) by rw [←HE.out,RL.later HLT.out,←HX.out,←HY.out];exact hk))
         clear HX HY HLT
         go_wp2_with fail
         go_roundw
         case rel=>exact ⟨s,c,rfl,rfl,P3,HR1,HG1⟩
         case measure=>simp [intOf];omega
       · have hk2:(!decide (key x<key y))=true:=by simp;omega
         rw [hk2]
         clear hk2
         have P3:=Lib.hid (P.out.up F.out q1 q2 (show ¬RL key (f (p - c)) (f c) by rw [←HE.out,RL.later HLT.out,←HX.out,←HY.out];exact hk))
         clear HX HY HLT
         go_wp2_with fail
         go_roundw
         case rel=>exact ⟨c+1,r,by go_num,rfl,P3,HR1,HG1⟩
         case measure=>simp [intOf];omega
     · obtain rfl:s=r:=by omega
       obtain ⟨e,he⟩: ∃e:Nat,e=NN - s:=⟨_,rfl⟩
       have ze:(NN:Int) - (s:Int)=(e:Int):=by omega
       have S:Hid (Split key f a s m e b):=Lib.hid (by
         have hp:=HP.out
         have F2:=F.out
         have P2:=P.out
         rw [hp] at F2 P2
         have h9:=probe_split h1 h2 mid1 mid2 F2 HLL.out (Or.inr (by omega)) (Or.inr rfl) P2 (by omega)
         rwa [show mid+m - s=e by omega] at h9)
       have t1:=S.out.h1
       have t2:=S.out.h2
       have t3:=S.out.h3
       have t4:=S.out.h4
       obtain ⟨y1,y2,y3,y4,y5,y6,y7⟩:=sym_facts S.out HLL.out (show s+(e - m)=mid by omega)
       have Y1:=Lib.hid y1
       have Y2:=Lib.hid y2
       have Y3:=Lib.hid y3
       have Y4:=Lib.hid y4
       have Y5:=Lib.hid y5
       have Y6:=Lib.hid y6
       have Y7:=Lib.hid y7
       have HVG:=Lib.hid (InRow.rot HV.out t2 t3 (show e≤n by omega))
       have ee1:s+e≤NN:=by omega
       have ee2:NN≤s+e:=by omega
       clear y1 y2 y3 y4 y5 y6 y7 he P P0 F zt zt1 zu zu1 zmid zNN zp
       by_cases ca:s<m
       · by_cases cbb:m<e
         · go_wp2_with fail
           refine (rotate5 g cb blk n s m e f _ HR.out hn ca cbb (by omega)).mono ?_
           rintro ex w1 ⟨rfl,ho,hg⟩
           have HA:=Lib.hid ho
           have GA:=Lib.hid (grown_trans HG.out hg)
           clear ho hg HR HG
           by_cases cc:a<s
           · by_cases cd:s<mid
             · go_wp2_with fail
               refine (IH.out a s mid _ _ (by omega) (CmpN.on (g:=g) (cb:=cb) (key:=key) (blk:=blk) (n:=n) HC.out GA.out) HA.out cc cd (by omega) HVG.out Y1.out Y2.out Y5.out).mono ?_
               rintro ex w2 ⟨g1,rfl,ho,hg,hm⟩
               have HB:=Lib.hid ho
               have GB:=Lib.hid (grown_trans GA.out hg)
               have M1:=Lib.hid hm
               clear ho hg hm HA GA
               obtain ⟨g1,hg1⟩: ∃g1,Merged key g1 (rotF s m e f) a mid∧Own _ blk n n (gen n g1):=⟨_,M1.out,HB.out⟩
               have M2:=Lib.hid hg1.1
               have HD:=Lib.hid hg1.2
               clear hg1 M1 HB
               have UP:=Lib.hid (fun k h=>M2.out.same k (Or.inr h))
               by_cases ce:mid<e
               · by_cases cf:e<b
                 · go_wp2_with fail
                   refine (IH.out mid e b _ _ (by omega) (CmpN.on (g:=g) (cb:=cb) (key:=key) (blk:=blk) (n:=n) HC.out GB.out) HD.out ce cf h3 (HVG.out.merged M2.out (by omega)) (Y3.out.congr (fun k h _=>UP.out k h)) (Y4.out.congr (fun k h _=>UP.out k (by omega))) (Y6.out.congr (fun k h _=>UP.out k h) (by omega) (by omega))).mono ?_
                   rintro ex w3 ⟨g2,rfl,ho,hg,hm⟩
                   have HF:=Lib.hid ho
                   have GF:=Lib.hid (grown_trans GB.out hg)
                   have M3:=Lib.hid hm
                   clear ho hg hm HD GB
                   go_wp2_with fail
                   go_end0
                   exact ⟨g2,rfl,HF.out,GF.out,Y7.out g1 g2 M2.out M3.out⟩
                 · go_wp2_with fail
                   go_end0
                   exact ⟨g1,rfl,HD.out,GB.out,Y7.out g1 g1 M2.out (Merged.self ((Y3.out.congr (fun k h _=>UP.out k h)).sub (Nat.le_refl _) (by omega)))⟩
               · go_wp2_with fail
                 go_end0
                 exact ⟨g1,rfl,HD.out,GB.out,Y7.out g1 g1 M2.out (Merged.self ((Y4.out.congr (fun k h _=>UP.out k (by omega))).sub (by omega) (Nat.le_refl _)))⟩
             · have M1:Hid (Merged key (rotF s m e f) (rotF s m e f) a mid):=Lib.hid (Merged.self (Y1.out.sub (Nat.le_refl _) (by omega)))
               have HB:=HA
               have GB:=GA
               clear HA GA
               obtain ⟨g1,hg1⟩: ∃g1,Merged key g1 (rotF s m e f) a mid∧Own _ blk n n (gen n g1):=⟨_,M1.out,HB.out⟩
               have M2:=Lib.hid hg1.1
               have HD:=Lib.hid hg1.2
               clear hg1 M1 HB
               have UP:=Lib.hid (fun k h=>M2.out.same k (Or.inr h))
               by_cases ce:mid<e
               · by_cases cf:e<b
                 · go_wp2_with fail
                   refine (IH.out mid e b _ _ (by omega) (CmpN.on (g:=g) (cb:=cb) (key:=key) (blk:=blk) (n:=n) HC.out GB.out) HD.out ce cf h3 (HVG.out.merged M2.out (by omega)) (Y3.out.congr (fun k h _=>UP.out k h)) (Y4.out.congr (fun k h _=>UP.out k (by omega))) (Y6.out.congr (fun k h _=>UP.out k h) (by omega) (by omega))).mono ?_
                   rintro ex w3 ⟨g2,rfl,ho,hg,hm⟩
                   have HF:=Lib.hid ho
                   have GF:=Lib.hid (grown_trans GB.out hg)
                   have M3:=Lib.hid hm
                   clear ho hg hm HD GB
                   go_wp2_with fail
                   go_end0
                   exact ⟨g2,rfl,HF.out,GF.out,Y7.out g1 g2 M2.out M3.out⟩
                 · go_wp2_with fail
                   go_end0
                   exact ⟨g1,rfl,HD.out,GB.out,Y7.out g1 g1 M2.out (Merged.self ((Y3.out.congr (fun k h _=>UP.out k h)).sub (Nat.le_refl _) (by omega)))⟩
               · go_wp2_with fail
                 go_end0
                 exact ⟨g1,rfl,HD.out,GB.out,Y7.out g1 g1 M2.out (Merged.self ((Y4.out.congr (fun k h _=>UP.out k (by omega))).sub (by omega) (Nat.le_refl _)))⟩
           · have h9:a=s:=by omega
             have M1:Hid (Merged key (rotF s m e f) (rotF s m e f) a mid):=Lib.hid (Merged.self (show Srt key (rotF s m e f) a mid by rw [h9];exact Y2.out))
             clear h9
             have HB:=HA
             have GB:=GA
             clear HA GA
             obtain ⟨g1,hg1⟩: ∃g1,Merged key g1 (rotF s m e f) a mid∧Own _ blk n n (gen n g1):=⟨_,M1.out,HB.out⟩
             have M2:=Lib.hid hg1.1
             have HD:=Lib.hid hg1.2
             clear hg1 M1 HB
             have UP:=Lib.hid (fun k h=>M2.out.same k (Or.inr h))
             by_cases ce:mid<e
             · by_cases cf:e<b
               · go_wp2_with fail
                 refine (IH.out mid e b _ _ (by omega) (CmpN.on (g:=g) (cb:=cb) (key:=key) (blk:=blk) (n:=n) HC.out GB.out) HD.out ce cf h3 (HVG.out.merged M2.out (by omega)) (Y3.out.congr (fun k h _=>UP.out k h)) (Y4.out.congr (fun k h _=>UP.out k (by omega))) (Y6.out.congr (fun k h _=>UP.out k h) (by omega) (by omega))).mono ?_
                 rintro ex w3 ⟨g2,rfl,ho,hg,hm⟩
                 have HF:=Lib.hid ho
                 have GF:=Lib.hid (grown_trans GB.out hg)
                 have M3:=Lib.hid hm
                 clear ho hg hm HD GB
                 go_wp2_with fail
                 go_end0
                 exact ⟨g2,rfl,HF.out,GF.out,Y7.out g1 g2 M2.out M3.out⟩
               · go_wp2_with fail
                 go_end0
                 exact ⟨g1,rfl,HD.out,GB.out,Y7.out g1 g1 M2.out (Merged.self ((Y3.out.congr (fun k h _=>UP.out k h)).sub (Nat.le_refl _) (by omega)))⟩
             · go_wp2_with fail
               go_end0
               exact ⟨g1,rfl,HD.out,GB.out,Y7.out g1 g1 M2.out (Merged.self ((Y4.out.congr (fun k h _=>UP.out k (by omega))).sub (by omega) (Nat.le_refl _)))⟩
         · have HA :Hid (Own wr blk n n (gen n (rotF s m e f))):=Lib.hid (by rw [rot_triv f (Or.inr (by omega)) t2 t3];exact HR.out)
           have GA:=HG
           clear HR HG
           by_cases cc:a<s
           · by_cases cd:s<mid
             · go_wp2_with fail
               refine (IH.out a s mid _ _ (by omega) (CmpN.on (g:=g) (cb:=cb) (key:=key) (blk:=blk) (n:=n) HC.out GA.out) HA.out cc cd (by omega) HVG.out Y1.out Y2.out Y5.out).mono ?_
               rintro ex w2 ⟨g1,rfl,ho,hg,hm⟩
               have HB:=Lib.hid ho
               have GB:=Lib.hid (grown_trans GA.out hg)
               have M1:=Lib.hid hm
               clear ho hg hm HA GA
               obtain ⟨g1,hg1⟩: ∃g1,Merged key g1 (rotF s m e f) a mid∧Own _ blk n n (gen n g1):=⟨_,M1.out,HB.out⟩
               have M2:=Lib.hid hg1.1
               have HD:=Lib.hid hg1.2
               clear hg1 M1 HB
               have UP:=Lib.hid (fun k h=>M2.out.same k (Or.inr h))
               by_cases ce:mid<e
               · by_cases cf:e<b
                 · go_wp2_with fail
                   refine (IH.out mid e b _ _ (by omega) (CmpN.on (g:=g) (cb:=cb) (key:=key) (blk:=blk) (n:=n) HC.out GB.out) HD.out ce cf h3 (HVG.out.merged M2.out (by omega)) (Y3.out.congr (fun k h _=>UP.out k h)) (Y4.out.congr (fun k h _=>UP.out k (by omega))) (Y6.out.congr (fun k h _=>UP.out k h) (by omega) (by omega))).mono ?_
                   rintro ex w3 ⟨g2,rfl,ho,hg,hm⟩
                   have HF:=Lib.hid ho
                   have GF:=Lib.hid (grown_trans GB.out hg)
                   have M3:=Lib.hid hm
                   clear ho hg hm HD GB
                   go_wp2_with fail
                   go_end0
                   exact ⟨g2,rfl,HF.out,GF.out,Y7.out g1 g2 M2.out M3.out⟩
                 · go_wp2_with fail
                   go_end0
                   exact ⟨g1,rfl,HD.out,GB.out,Y7.out g1 g1 M2.out (Merged.self ((Y3.out.congr (fun k h _=>UP.out k h)).sub (Nat.le_refl _) (by omega)))⟩
               · go_wp2_with fail
                 go_end0
                 exact ⟨g1,rfl,HD.out,GB.out,Y7.out g1 g1 M2.out (Merged.self ((Y4.out.congr (fun k h _=>UP.out k (by omega))).sub (by omega) (Nat.le_refl _)))⟩
             · have M1:Hid (Merged key (rotF s m e f) (rotF s m e f) a mid):=Lib.hid (Merged.self (Y1.out.sub (Nat.le_refl _) (by omega)))
               have HB:=HA
               have GB:=GA
               clear HA GA
               obtain ⟨g1,hg1⟩: ∃g1,Merged key g1 (rotF s m e f) a mid∧Own _ blk n n (gen n g1):=⟨_,M1.out,HB.out⟩
               have M2:=Lib.hid hg1.1
               have HD:=Lib.hid hg1.2
               clear hg1 M1 HB
               have UP:=Lib.hid (fun k h=>M2.out.same k (Or.inr h))
               by_cases ce:mid<e
               · by_cases cf:e<b
                 · go_wp2_with fail
                   refine (IH.out mid e b _ _ (by omega) (CmpN.on (g:=g) (cb:=cb) (key:=key) (blk:=blk) (n:=n) HC.out GB.out) HD.out ce cf h3 (HVG.out.merged M2.out (by omega)) (Y3.out.congr (fun k h _=>UP.out k h)) (Y4.out.congr (fun k h _=>UP.out k (by omega))) (Y6.out.congr (fun k h _=>UP.out k h) (by omega) (by omega))).mono ?_
                   rintro ex w3 ⟨g2,rfl,ho,hg,hm⟩
                   have HF:=Lib.hid ho
                   have GF:=Lib.hid (grown_trans GB.out hg)
                   have M3:=Lib.hid hm
                   clear ho hg hm HD GB
                   go_wp2_with fail
                   go_end0
                   exact ⟨g2,rfl,HF.out,GF.out,Y7.out g1 g2 M2.out M3.out⟩
                 · go_wp2_with fail
                   go_end0
                   exact ⟨g1,rfl,HD.out,GB.out,Y7.out g1 g1 M2.out (Merged.self ((Y3.out.congr (fun k h _=>UP.out k h)).sub (Nat.le_refl _) (by omega)))⟩
               · go_wp2_with fail
                 go_end0
                 exact ⟨g1,rfl,HD.out,GB.out,Y7.out g1 g1 M2.out (Merged.self ((Y4.out.congr (fun k h _=>UP.out k (by omega))).sub (by omega) (Nat.le_refl _)))⟩
           · have h9:a=s:=by omega
             have M1:Hid (Merged key (rotF s m e f) (rotF s m e f) a mid):=Lib.hid (Merged.self (show Srt key (rotF s m e f) a mid by rw [h9];exact Y2.out))
             clear h9
             have HB:=HA
             have GB:=GA
             clear HA GA
             obtain ⟨g1,hg1⟩: ∃g1,Merged key g1 (rotF s m e f) a mid∧Own _ blk n n (gen n g1):=⟨_,M1.out,HB.out⟩
             have M2:=Lib.hid hg1.1
             have HD:=Lib.hid hg1.2
             clear hg1 M1 HB
             have UP:=Lib.hid (fun k h=>M2.out.same k (Or.inr h))
             by_cases ce:mid<e
             · by_cases cf:e<b
               · go_wp2_with fail
                 refine (IH.out mid e b _ _ (by omega) (CmpN.on (g:=g) (cb:=cb) (key:=key) (blk:=blk) (n:=n) HC.out GB.out) HD.out ce cf h3 (HVG.out.merged M2.out (by omega)) (Y3.out.congr (fun k h _=>UP.out k h)) (Y4.out.congr (fun k h _=>UP.out k (by omega))) (Y6.out.congr (fun k h _=>UP.out k h) (by omega) (by omega))).mono ?_
                 rintro ex w3 ⟨g2,rfl,ho,hg,hm⟩
                 have HF:=Lib.hid ho
                 have GF:=Lib.hid (grown_trans GB.out hg)
                 have M3:=Lib.hid hm
                 clear ho hg hm HD GB
                 go_wp2_with fail
                 go_end0
                 exact ⟨g2,rfl,HF.out,GF.out,Y7.out g1 g2 M2.out M3.out⟩
               · go_wp2_with fail
                 go_end0
                 exact ⟨g1,rfl,HD.out,GB.out,Y7.out g1 g1 M2.out (Merged.self ((Y3.out.congr (fun k h _=>UP.out k h)).sub (Nat.le_refl _) (by omega)))⟩
             · go_wp2_with fail
               go_end0
               exact ⟨g1,rfl,HD.out,GB.out,Y7.out g1 g1 M2.out (Merged.self ((Y4.out.congr (fun k h _=>UP.out k (by omega))).sub (by omega) (Nat.le_refl _)))⟩
       · have HA :Hid (Own wr blk n n (gen n (rotF s m e f))):=Lib.hid (by rw [rot_triv f (Or.inl (by omega)) t2 t3];exact HR.out)
         have GA:=HG
         clear HR HG
         by_cases cc:a<s
         · by_cases cd:s<mid
           · go_wp2_with fail
             refine (IH.out a s mid _ _ (by omega) (CmpN.on (g:=g) (cb:=cb) (key:=key) (blk:=blk) (n:=n) HC.out GA.out) HA.out cc cd (by omega) HVG.out Y1.out Y2.out Y5.out).mono ?_
             rintro ex w2 ⟨g1,rfl,ho,hg,hm⟩
             have HB:=Lib.hid ho
             have GB:=Lib.hid (grown_trans GA.out hg)
             have M1:=Lib.hid hm
             clear ho hg hm HA GA
             obtain ⟨g1,hg1⟩: ∃g1,Merged key g1 (rotF s m e f) a mid∧Own _ blk n n (gen n g1):=⟨_,M1.out,HB.out⟩
             have M2:=Lib.hid hg1.1
             have HD:=Lib.hid hg1.2
             clear hg1 M1 HB
             have UP:=Lib.hid (fun k h=>M2.out.same k (Or.inr h))
             by_cases ce:mid<e
             · by_cases cf:e<b
               · go_wp2_with fail
                 refine (IH.out mid e b _ _ (by omega) (CmpN.on (g:=g) (cb:=cb) (key:=key) (blk:=blk) (n:=n) HC.out GB.out) HD.out ce cf h3 (HVG.out.merged M2.out (by omega)) (Y3.out.congr (fun k h _=>UP.out k h)) (Y4.out.congr (fun k h _=>UP.out k (by omega))) (Y6.out.congr (fun k h _=>UP.out k h) (by omega) (by omega))).mono ?_
                 rintro ex w3 ⟨g2,rfl,ho,hg,hm⟩
                 have HF:=Lib.hid ho
                 have GF:=Lib.hid (grown_trans GB.out hg)
                 have M3:=Lib.hid hm
                 clear ho hg hm HD GB
                 go_wp2_with fail
                 go_end0
                 exact ⟨g2,rfl,HF.out,GF.out,Y7.out g1 g2 M2.out M3.out⟩
               · go_wp2_with fail
                 go_end0
                 exact ⟨g1,rfl,HD.out,GB.out,Y7.out g1 g1 M2.out (Merged.self ((Y3.out.congr (fun k h _=>UP.out k h)).sub (Nat.le_refl _) (by omega)))⟩
             · go_wp2_with fail
               go_end0
               exact ⟨g1,rfl,HD.out,GB.out,Y7.out g1 g1 M2.out (Merged.self ((Y4.out.congr (fun k h _=>UP.out k (by omega))).sub (by omega) (Nat.le_refl _)))⟩
           · have M1:Hid (Merged key (rotF s m e f) (rotF s m e f) a mid):=Lib.hid (Merged.self (Y1.out.sub (Nat.le_refl _) (by omega)))
             have HB:=HA
             have GB:=GA
             clear HA GA
             obtain ⟨g1,hg1⟩: ∃g1,Merged key g1 (rotF s m e f) a mid∧Own _ blk n n (gen n g1):=⟨_,M1.out,HB.out⟩
             have M2:=Lib.hid hg1.1
             have HD:=Lib.hid hg1.2
             clear hg1 M1 HB
             have UP:=Lib.hid (fun k h=>M2.out.same k (Or.inr h))
             by_cases ce:mid<e
             · by_cases cf:e<b
               · go_wp2_with fail
                 refine (IH.out mid e b _ _ (by omega) (CmpN.on (g:=g) (cb:=cb) (key:=key) (blk:=blk) (n:=n) HC.out GB.out) HD.out ce cf h3 (HVG.out.merged M2.out (by omega)) (Y3.out.congr (fun k h _=>UP.out k h)) (Y4.out.congr (fun k h _=>UP.out k (by omega))) (Y6.out.congr (fun k h _=>UP.out k h) (by omega) (by omega))).mono ?_
                 rintro ex w3 ⟨g2,rfl,ho,hg,hm⟩
                 have HF:=Lib.hid ho
                 have GF:=Lib.hid (grown_trans GB.out hg)
                 have M3:=Lib.hid hm
                 clear ho hg hm HD GB
                 go_wp2_with fail
                 go_end0
                 exact ⟨g2,rfl,HF.out,GF.out,Y7.out g1 g2 M2.out M3.out⟩
               · go_wp2_with fail
                 go_end0
                 exact ⟨g1,rfl,HD.out,GB.out,Y7.out g1 g1 M2.out (Merged.self ((Y3.out.congr (fun k h _=>UP.out k h)).sub (Nat.le_refl _) (by omega)))⟩
             · go_wp2_with fail
               go_end0
               exact ⟨g1,rfl,HD.out,GB.out,Y7.out g1 g1 M2.out (Merged.self ((Y4.out.congr (fun k h _=>UP.out k (by omega))).sub (by omega) (Nat.le_refl _)))⟩
         · have h9:a=s:=by omega
           have M1:Hid (Merged key (rotF s m e f) (rotF s m e f) a mid):=Lib.hid (Merged.self (show Srt key (rotF s m e f) a mid by rw [h9];exact Y2.out))
           clear h9
           have HB:=HA
           have GB:=GA
           clear HA GA
           obtain ⟨g1,hg1⟩: ∃g1,Merged key g1 (rotF s m e f) a mid∧Own _ blk n n (gen n g1):=⟨_,M1.out,HB.out⟩
           have M2:=Lib.hid hg1.1
           have HD:=Lib.hid hg1.2
           clear hg1 M1 HB
           have UP:=Lib.hid (fun k h=>M2.out.same k (Or.inr h))
           by_cases ce:mid<e
           · by_cases cf:e<b
             · go_wp2_with fail
               refine (IH.out mid e b _ _ (by omega) (CmpN.on (g:=g) (cb:=cb) (key:=key) (blk:=blk) (n:=n) HC.out GB.out) HD.out ce cf h3 (HVG.out.merged M2.out (by omega)) (Y3.out.congr (fun k h _=>UP.out k h)) (Y4.out.congr (fun k h _=>UP.out k (by omega))) (Y6.out.congr (fun k h _=>UP.out k h) (by omega) (by omega))).mono ?_
               rintro ex w3 ⟨g2,rfl,ho,hg,hm⟩
               have HF:=Lib.hid ho
               have GF:=Lib.hid (grown_trans GB.out hg)
               have M3:=Lib.hid hm
               clear ho hg hm HD GB
               go_wp2_with fail
               go_end0
               exact ⟨g2,rfl,HF.out,GF.out,Y7.out g1 g2 M2.out M3.out⟩
             · go_wp2_with fail
               go_end0
               exact ⟨g1,rfl,HD.out,GB.out,Y7.out g1 g1 M2.out (Merged.self ((Y3.out.congr (fun k h _=>UP.out k h)).sub (Nat.le_refl _) (by omega)))⟩
           · go_wp2_with fail
             go_end0
             exact ⟨g1,rfl,HD.out,GB.out,Y7.out g1 g1 M2.out (Merged.self ((Y4.out.congr (fun k h _=>UP.out k (by omega))).sub (by omega) (Nat.le_refl _)))⟩
 · have F := Lib.hid (FLD.out a m (Or.inl (by omega)))
   have lo4:a≤m:=by omega
   clear FLD
   have P0:=Lib.hid (show Probe key f p a m a m from ⟨Nat.le_refl _,lo4,Nat.le_refl _,fun c h1 h2=>by omega,fun c h1 h2=>by omega⟩)
   go_wp2_with fail
   go_loopw [20,21] (fun vs vr wr=> ∃s r:Nat,vs= .int .i64 s∧vr= .int .i64 r∧Hid (Probe key f p a m s r)∧Hid (Own wr blk n n (gen n f))∧Hid (w.grownBy wr (some blk))) (fun vs vr _=>(intOf vr).toNat - (intOf vs).toNat)
   case atStart=>exact ⟨a,m,rfl,rfl,P0,HO,Lib.hid (grown_refl _ _)⟩
   case round=>
     obtain ⟨s,r,rfl,rfl,P,HR,HG⟩:=hrel
     have s1:=P.out.h1
     have s2:=P.out.h2
     have s3:=P.out.h3
     by_cases hlt:s<r
     · obtain ⟨c,hc,q1,q2⟩:=half_le s r hlt
       obtain ⟨pl1,pl2,pl3⟩:=F.out.pl c (by omega) (by omega)
       obtain ⟨e,he⟩: ∃e:Nat,e=p - c:=⟨_,rfl⟩
       have ze:(p:Int) - (c:Int)=(e:Int):=by omega
       rw [←he] at pl1 pl2
       have HE:=Lib.hid he
       have we:IntKind.i64.wrap (e:Int)=(e:Int):=IntWalk.i64_in _ (by omega)
       have cn:c<n:=by omega
       have en:e<n:=by omega
       have c0:a≤c:=by omega
       have c1:c<m:=by omega
       clear he
       have bi:((e:Nat):Int)<(n:Int):=by omega
       have bj:((c:Nat):Int)<(n:Int):=by omega
       have ca:=own_c HR.out (i:=e) (by omega)
       have cp:=own_c HR.out (i:=c) (by omega)
       obtain ⟨x,hx⟩: ∃zz,zz=(f) (e):=⟨_,rfl⟩
       obtain ⟨y,hy⟩: ∃zz,zz=(f) (c):=⟨_,rfl⟩
       have xv:=HV.out (e) (by omega)
       have yv:=HV.out (c) (by omega)
       rw [←hx] at ca xv
       rw [←hy] at cp yv
       have HX:=Lib.hid hx
       have HY:=Lib.hid hy
       have MK:Hid (∀v,BelowL wr v→v.cell? ⟨blk,e,none⟩=some (.int .i64 x)∧v.cell? ⟨blk,c,none⟩=some (.int .i64 y)∧BelowL wr v):=Lib.hid (fun v h=>⟨(h.out.cell HR.out.lt).trans ca,(h.out.cell HR.out.lt).trans cp,h⟩)
       have CC:Hid (∀v,BelowL wr v→Calls Tryz.prog g (#[.int .i64 x, .int .i64 y]++cb) v fun e v'=> ∃c:Int,e= .returned (.int .i64 c)∧(c<0↔key x<key y)∧Below v.heap.size v v'):=Lib.hid (fun v hv=>HC.out v (grown_trans HG.out (grown_of_belowS hv.out _)) x y xv.1 xv.2 yv.1 yv.2)
       clear hx hy xv yv
       go_wp2_with fail
       go_region_held3 (fun v=>v.cell? ⟨blk,e,none⟩=some (.int .i64 x)∧v.cell? ⟨blk,c,none⟩=some (.int .i64 y)∧BelowL wr v)
         (first | exact MK.out _ hb1 | exact MK.out _ (BelowL.start _))
         (first
           | (go_at_fn g;((with_reducible refine (CC.out _ (limb3 (by assumption))).mono ?_);rintro e v1 ⟨cc,rfl,hcc,hq1⟩;have hb1:=BelowL.call (limb3 (by assumption)) hq1)))
       have HR1:=Lib.hid (HR.out.below hb1.out HR.out.lt)
       have HG1:=Lib.hid (grown_trans HG.out (grown_of_belowS hb1.out _))
       clear ca cp hb1 hq1 MK CC bi bj
       have HLT:=Lib.hid (HLL.out c e c0 c1 pl1 pl2)
       by_cases hk:key x<key y
       · have hk2:(!decide (key x<key y))=false:=by simp [hk]
         rw [hk2]
         clear hk2
         have P3:=Lib.hid (P.out.down F.out q1 q2 (show RL key (f (p - c)) (f c) by rw [←HE.out,RL.later HLT.out,←HX.out,←HY.out];exact hk))
         clear HX HY HLT
         go_wp2_with fail
         go_roundw
         case rel=>exact ⟨s,c,rfl,rfl,P3,HR1,HG1⟩
         case measure=>simp [intOf];omega
       · have hk2:(!decide (key x<key y))=true:=by simp;omega
         rw [hk2]
         clear hk2
         have P3:=Lib.hid (P.out.up F.out q1 q2 (show ¬RL key (f (p - c)) (f c) by rw [←HE.out,RL.later HLT.out,←HX.out,←HY.out];exact hk))
         clear HX HY HLT
         go_wp2_with fail
         go_roundw
         case rel=>exact ⟨c+1,r,by go_num,rfl,P3,HR1,HG1⟩
         case measure=>simp [intOf];omega
     · obtain rfl:s=r:=by omega
       obtain ⟨e,he⟩: ∃e:Nat,e=NN - s:=⟨_,rfl⟩
       have ze:(NN:Int) - (s:Int)=(e:Int):=by omega
       have S:Hid (Split key f a s m e b):=Lib.hid (by
         have hp:=HP.out
         have F2:=F.out
         have P2:=P.out
         rw [hp] at F2 P2
         have h9:=probe_split h1 h2 mid1 mid2 F2 HLL.out (Or.inl rfl) (Or.inl rfl) P2 (by omega)
         rwa [show mid+m - s=e by omega] at h9)
       have t1:=S.out.h1
       have t2:=S.out.h2
       have t3:=S.out.h3
       have t4:=S.out.h4
       obtain ⟨y1,y2,y3,y4,y5,y6,y7⟩:=sym_facts S.out HLL.out (show s+(e - m)=mid by omega)
       have Y1:=Lib.hid y1
       have Y2:=Lib.hid y2
       have Y3:=Lib.hid y3
       have Y4:=Lib.hid y4
       have Y5:=Lib.hid y5
       have Y6:=Lib.hid y6
       have Y7:=Lib.hid y7
       have HVG:=Lib.hid (InRow.rot HV.out t2 t3 (show e≤n by omega))
       have ee1:s+e≤NN:=by omega
       have ee2:NN≤s+e:=by omega
       clear y1 y2 y3 y4 y5 y6 y7 he P P0 F zt zt1 zu zu1 zmid zNN zp
       by_cases ca:s<m
       · by_cases cbb:m<e
         · go_wp2_with fail
           refine (rotate5 g cb blk n s m e f _ HR.out hn ca cbb (by omega)).mono ?_
           rintro ex w1 ⟨rfl,ho,hg⟩
           have HA:=Lib.hid ho
           have GA:=Lib.hid (grown_trans HG.out hg)
           clear ho hg HR HG
           by_cases cc:a<s
           · by_cases cd:s<mid
             · go_wp2_with fail
               refine (IH.out a s mid _ _ (by omega) (CmpN.on (g:=g) (cb:=cb) (key:=key) (blk:=blk) (n:=n) HC.out GA.out) HA.out cc cd (by omega) HVG.out Y1.out Y2.out Y5.out).mono ?_
               rintro ex w2 ⟨g1,rfl,ho,hg,hm⟩
               have HB:=Lib.hid ho
               have GB:=Lib.hid (grown_trans GA.out hg)
               have M1:=Lib.hid hm
               clear ho hg hm HA GA
               obtain ⟨g1,hg1⟩: ∃g1,Merged key g1 (rotF s m e f) a mid∧Own _ blk n n (gen n g1):=⟨_,M1.out,HB.out⟩
               have M2:=Lib.hid hg1.1
               have HD:=Lib.hid hg1.2
               clear hg1 M1 HB
               have UP:=Lib.hid (fun k h=>M2.out.same k (Or.inr h))
               by_cases ce:mid<e
               · by_cases cf:e<b
                 · go_wp2_with fail
                   refine (IH.out mid e b _ _ (by omega) (CmpN.on (g:=g) (cb:=cb) (key:=key) (blk:=blk) (n:=n) HC.out GB.out) HD.out ce cf h3 (HVG.out.merged M2.out (by omega)) (Y3.out.congr (fun k h _=>UP.out k h)) (Y4.out.congr (fun k h _=>UP.out k (by omega))) (Y6.out.congr (fun k h _=>UP.out k h) (by omega) (by omega))).mono ?_
                   rintro ex w3 ⟨g2,rfl,ho,hg,hm⟩
                   have HF:=Lib.hid ho
                   have GF:=Lib.hid (grown_trans GB.out hg)
                   have M3:=Lib.hid hm
                   clear ho hg hm HD GB
                   go_wp2_with fail
                   go_end0
                   exact ⟨g2,rfl,HF.out,GF.out,Y7.out g1 g2 M2.out M3.out⟩
                 · go_wp2_with fail
                   go_end0
                   exact ⟨g1,rfl,HD.out,GB.out,Y7.out g1 g1 M2.out (Merged.self ((Y3.out.congr (fun k h _=>UP.out k h)).sub (Nat.le_refl _) (by omega)))⟩
               · go_wp2_with fail
                 go_end0
                 exact ⟨g1,rfl,HD.out,GB.out,Y7.out g1 g1 M2.out (Merged.self ((Y4.out.congr (fun k h _=>UP.out k (by omega))).sub (by omega) (Nat.le_refl _)))⟩
             · have M1:Hid (Merged key (rotF s m e f) (rotF s m e f) a mid):=Lib.hid (Merged.self (Y1.out.sub (Nat.le_refl _) (by omega)))
               have HB:=HA
               have GB:=GA
               clear HA GA
               obtain ⟨g1,hg1⟩: ∃g1,Merged key g1 (rotF s m e f) a mid∧Own _ blk n n (gen n g1):=⟨_,M1.out,HB.out⟩
               have M2:=Lib.hid hg1.1
               have HD:=Lib.hid hg1.2
               clear hg1 M1 HB
               have UP:=Lib.hid (fun k h=>M2.out.same k (Or.inr h))
               by_cases ce:mid<e
               · by_cases cf:e<b
                 · go_wp2_with fail
                   refine (IH.out mid e b _ _ (by omega) (CmpN.on (g:=g) (cb:=cb) (key:=key) (blk:=blk) (n:=n) HC.out GB.out) HD.out ce cf h3 (HVG.out.merged M2.out (by omega)) (Y3.out.congr (fun k h _=>UP.out k h)) (Y4.out.congr (fun k h _=>UP.out k (by omega))) (Y6.out.congr (fun k h _=>UP.out k h) (by omega) (by omega))).mono ?_
                   rintro ex w3 ⟨g2,rfl,ho,hg,hm⟩
                   have HF:=Lib.hid ho
                   have GF:=Lib.hid (grown_trans GB.out hg)
                   have M3:=Lib.hid hm
                   clear ho hg hm HD GB
                   go_wp2_with fail
                   go_end0
                   exact ⟨g2,rfl,HF.out,GF.out,Y7.out g1 g2 M2.out M3.out⟩
                 · go_wp2_with fail
                   go_end0
                   exact ⟨g1,rfl,HD.out,GB.out,Y7.out g1 g1 M2.out (Merged.self ((Y3.out.congr (fun k h _=>UP.out k h)).sub (Nat.le_refl _) (by omega)))⟩
               · go_wp2_with fail
                 go_end0
                 exact ⟨g1,rfl,HD.out,GB.out,Y7.out g1 g1 M2.out (Merged.self ((Y4.out.congr (fun k h _=>UP.out k (by omega))).sub (by omega) (Nat.le_refl _)))⟩
           · have h9:a=s:=by omega
             have M1:Hid (Merged key (rotF s m e f) (rotF s m e f) a mid):=Lib.hid (Merged.self (show Srt key (rotF s m e f) a mid by rw [h9];exact Y2.out))
             clear h9
             have HB:=HA
             have GB:=GA
             clear HA GA
             obtain ⟨g1,hg1⟩: ∃g1,Merged key g1 (rotF s m e f) a mid∧Own _ blk n n (gen n g1):=⟨_,M1.out,HB.out⟩
             have M2:=Lib.hid hg1.1
             have HD:=Lib.hid hg1.2
             clear hg1 M1 HB
             have UP:=Lib.hid (fun k h=>M2.out.same k (Or.inr h))
             by_cases ce:mid<e
             · by_cases cf:e<b
               · go_wp2_with fail
                 refine (IH.out mid e b _ _ (by omega) (CmpN.on (g:=g) (cb:=cb) (key:=key) (blk:=blk) (n:=n) HC.out GB.out) HD.out ce cf h3 (HVG.out.merged M2.out (by omega)) (Y3.out.congr (fun k h _=>UP.out k h)) (Y4.out.congr (fun k h _=>UP.out k (by omega))) (Y6.out.congr (fun k h _=>UP.out k h) (by omega) (by omega))).mono ?_
                 rintro ex w3 ⟨g2,rfl,ho,hg,hm⟩
                 have HF:=Lib.hid ho
                 have GF:=Lib.hid (grown_trans GB.out hg)
                 have M3:=Lib.hid hm
                 clear ho hg hm HD GB
                 go_wp2_with fail
                 go_end0
                 exact ⟨g2,rfl,HF.out,GF.out,Y7.out g1 g2 M2.out M3.out⟩
               · go_wp2_with fail
                 go_end0
                 exact ⟨g1,rfl,HD.out,GB.out,Y7.out g1 g1 M2.out (Merged.self ((Y3.out.congr (fun k h _=>UP.out k h)).sub (Nat.le_refl _) (by omega)))⟩
             · go_wp2_with fail
               go_end0
               exact ⟨g1,rfl,HD.out,GB.out,Y7.out g1 g1 M2.out (Merged.self ((Y4.out.congr (fun k h _=>UP.out k (by omega))).sub (by omega) (Nat.le_refl _)))⟩
         · have HA :Hid (Own wr blk n n (gen n (rotF s m e f))):=Lib.hid (by rw [rot_triv f (Or.inr (by omega)) t2 t3];exact HR.out)
           have GA:=HG
           clear HR HG
           by_cases cc:a<s
           · by_cases cd:s<mid
             · go_wp2_with fail
               refine (IH.out a s mid _ _ (by omega) (CmpN.on (g:=g) (cb:=cb) (key:=key) (blk:=blk) (n:=n) HC.out GA.out) HA.out cc cd (by omega) HVG.out Y1.out Y2.out Y5.out).mono ?_
               rintro ex w2 ⟨g1,rfl,ho,hg,hm⟩
               have HB:=Lib.hid ho
               have GB:=Lib.hid (grown_trans GA.out hg)
               have M1:=Lib.hid hm
               clear ho hg hm HA GA
               obtain ⟨g1,hg1⟩: ∃g1,Merged key g1 (rotF s m e f) a mid∧Own _ blk n n (gen n g1):=⟨_,M1.out,HB.out⟩
               have M2:=Lib.hid hg1.1
               have HD:=Lib.hid hg1.2
               clear hg1 M1 HB
               have UP:=Lib.hid (fun k h=>M2.out.same k (Or.inr h))
               by_cases ce:mid<e
               · by_cases cf:e<b
                 · go_wp2_with fail
                   refine (IH.out mid e b _ _ (by omega) (CmpN.on (g:=g) (cb:=cb) (key:=key) (blk:=blk) (n:=n) HC.out GB.out) HD.out ce cf h3 (HVG.out.merged M2.out (by omega)) (Y3.out.congr (fun k h _=>UP.out k h)) (Y4.out.congr (fun k h _=>UP.out k (by omega))) (Y6.out.congr (fun k h _=>UP.out k h) (by omega) (by omega))).mono ?_
                   rintro ex w3 ⟨g2,rfl,ho,hg,hm⟩
                   have HF:=Lib.hid ho
                   have GF:=Lib.hid (grown_trans GB.out hg)
                   have M3:=Lib.hid hm
                   clear ho hg hm HD GB
                   go_wp2_with fail
                   go_end0
                   exact ⟨g2,rfl,HF.out,GF.out,Y7.out g1 g2 M2.out M3.out⟩
                 · go_wp2_with fail
                   go_end0
                   exact ⟨g1,rfl,HD.out,GB.out,Y7.out g1 g1 M2.out (Merged.self ((Y3.out.congr (fun k h _=>UP.out k h)).sub (Nat.le_refl _) (by omega)))⟩
               · go_wp2_with fail
                 go_end0
                 exact ⟨g1,rfl,HD.out,GB.out,Y7.out g1 g1 M2.out (Merged.self ((Y4.out.congr (fun k h _=>UP.out k (by omega))).sub (by omega) (Nat.le_refl _)))⟩
             · have M1:Hid (Merged key (rotF s m e f) (rotF s m e f) a mid):=Lib.hid (Merged.self (Y1.out.sub (Nat.le_refl _) (by omega)))
               have HB:=HA
               have GB:=GA
               clear HA GA
               obtain ⟨g1,hg1⟩: ∃g1,Merged key g1 (rotF s m e f) a mid∧Own _ blk n n (gen n g1):=⟨_,M1.out,HB.out⟩
               have M2:=Lib.hid hg1.1
               have HD:=Lib.hid hg1.2
               clear hg1 M1 HB
               have UP:=Lib.hid (fun k h=>M2.out.same k (Or.inr h))
               by_cases ce:mid<e
               · by_cases cf:e<b
                 · go_wp2_with fail
                   refine (IH.out mid e b _ _ (by omega) (CmpN.on (g:=g) (cb:=cb) (key:=key) (blk:=blk) (n:=n) HC.out GB.out) HD.out ce cf h3 (HVG.out.merged M2.out (by omega)) (Y3.out.congr (fun k h _=>UP.out k h)) (Y4.out.congr (fun k h _=>UP.out k (by omega))) (Y6.out.congr (fun k h _=>UP.out k h) (by omega) (by omega))).mono ?_
                   rintro ex w3 ⟨g2,rfl,ho,hg,hm⟩
                   have HF:=Lib.hid ho
                   have GF:=Lib.hid (grown_trans GB.out hg)
                   have M3:=Lib.hid hm
                   clear ho hg hm HD GB
                   go_wp2_with fail
                   go_end0
                   exact ⟨g2,rfl,HF.out,GF.out,Y7.out g1 g2 M2.out M3.out⟩
                 · go_wp2_with fail
                   go_end0
                   exact ⟨g1,rfl,HD.out,GB.out,Y7.out g1 g1 M2.out (Merged.self ((Y3.out.congr (fun k h _=>UP.out k h)).sub (Nat.le_refl _) (by omega)))⟩
               · go_wp2_with fail
                 go_end0
                 exact ⟨g1,rfl,HD.out,GB.out,Y7.out g1 g1 M2.out (Merged.self ((Y4.out.congr (fun k h _=>UP.out k (by omega))).sub (by omega) (Nat.le_refl _)))⟩
           · have h9:a=s:=by omega
             have M1:Hid (Merged key (rotF s m e f) (rotF s m e f) a mid):=Lib.hid (Merged.self (show Srt key (rotF s m e f) a mid by rw [h9];exact Y2.out))
             clear h9
             have HB:=HA
             have GB:=GA
             clear HA GA
             obtain ⟨g1,hg1⟩: ∃g1,Merged key g1 (rotF s m e f) a mid∧Own _ blk n n (gen n g1):=⟨_,M1.out,HB.out⟩
             have M2:=Lib.hid hg1.1
             have HD:=Lib.hid hg1.2
             clear hg1 M1 HB
             have UP:=Lib.hid (fun k h=>M2.out.same k (Or.inr h))
             by_cases ce:mid<e
             · by_cases cf:e<b
               · go_wp2_with fail
                 refine (IH.out mid e b _ _ (by omega) (CmpN.on (g:=g) (cb:=cb) (key:=key) (blk:=blk) (n:=n) HC.out GB.out) HD.out ce cf h3 (HVG.out.merged M2.out (by omega)) (Y3.out.congr (fun k h _=>UP.out k h)) (Y4.out.congr (fun k h _=>UP.out k (by omega))) (Y6.out.congr (fun k h _=>UP.out k h) (by omega) (by omega))).mono ?_
                 rintro ex w3 ⟨g2,rfl,ho,hg,hm⟩
                 have HF:=Lib.hid ho
                 have GF:=Lib.hid (grown_trans GB.out hg)
                 have M3:=Lib.hid hm
                 clear ho hg hm HD GB
                 go_wp2_with fail
                 go_end0
                 exact ⟨g2,rfl,HF.out,GF.out,Y7.out g1 g2 M2.out M3.out⟩
               · go_wp2_with fail
                 go_end0
                 exact ⟨g1,rfl,HD.out,GB.out,Y7.out g1 g1 M2.out (Merged.self ((Y3.out.congr (fun k h _=>UP.out k h)).sub (Nat.le_refl _) (by omega)))⟩
             · go_wp2_with fail
               go_end0
               exact ⟨g1,rfl,HD.out,GB.out,Y7.out g1 g1 M2.out (Merged.self ((Y4.out.congr (fun k h _=>UP.out k (by omega))).sub (by omega) (Nat.le_refl _)))⟩
       · have HA :Hid (Own wr blk n n (gen n (rotF s m e f))):=Lib.hid (by rw [rot_triv f (Or.inl (by omega)) t2 t3];exact HR.out)
         have GA:=HG
         clear HR HG
         by_cases cc:a<s
         · by_cases cd:s<mid
           · go_wp2_with fail
             refine (IH.out a s mid _ _ (by omega) (CmpN.on (g:=g) (cb:=cb) (key:=key) (blk:=blk) (n:=n) HC.out GA.out) HA.out cc cd (by omega) HVG.out Y1.out Y2.out Y5.out).mono ?_
             rintro ex w2 ⟨g1,rfl,ho,hg,hm⟩
             have HB:=Lib.hid ho
             have GB:=Lib.hid (grown_trans GA.out hg)
             have M1:=Lib.hid hm
             clear ho hg hm HA GA
             obtain ⟨g1,hg1⟩: ∃g1,Merged key g1 (rotF s m e f) a mid∧Own _ blk n n (gen n g1):=⟨_,M1.out,HB.out⟩
             have M2:=Lib.hid hg1.1
             have HD:=Lib.hid hg1.2
             clear hg1 M1 HB
             have UP:=Lib.hid (fun k h=>M2.out.same k (Or.inr h))
             by_cases ce:mid<e
             · by_cases cf:e<b
               · go_wp2_with fail
                 refine (IH.out mid e b _ _ (by omega) (CmpN.on (g:=g) (cb:=cb) (key:=key) (blk:=blk) (n:=n) HC.out GB.out) HD.out ce cf h3 (HVG.out.merged M2.out (by omega)) (Y3.out.congr (fun k h _=>UP.out k h)) (Y4.out.congr (fun k h _=>UP.out k (by omega))) (Y6.out.congr (fun k h _=>UP.out k h) (by omega) (by omega))).mono ?_
                 rintro ex w3 ⟨g2,rfl,ho,hg,hm⟩
                 have HF:=Lib.hid ho
                 have GF:=Lib.hid (grown_trans GB.out hg)
                 have M3:=Lib.hid hm
                 clear ho hg hm HD GB
                 go_wp2_with fail
                 go_end0
                 exact ⟨g2,rfl,HF.out,GF.out,Y7.out g1 g2 M2.out M3.out⟩
               · go_wp2_with fail
                 go_end0
                 exact ⟨g1,rfl,HD.out,GB.out,Y7.out g1 g1 M2.out (Merged.self ((Y3.out.congr (fun k h _=>UP.out k h)).sub (Nat.le_refl _) (by omega)))⟩
             · go_wp2_with fail
               go_end0
               exact ⟨g1,rfl,HD.out,GB.out,Y7.out g1 g1 M2.out (Merged.self ((Y4.out.congr (fun k h _=>UP.out k (by omega))).sub (by omega) (Nat.le_refl _)))⟩
           · have M1:Hid (Merged key (rotF s m e f) (rotF s m e f) a mid):=Lib.hid (Merged.self (Y1.out.sub (Nat.le_refl _) (by omega)))
             have HB:=HA
             have GB:=GA
             clear HA GA
             obtain ⟨g1,hg1⟩: ∃g1,Merged key g1 (rotF s m e f) a mid∧Own _ blk n n (gen n g1):=⟨_,M1.out,HB.out⟩
             have M2:=Lib.hid hg1.1
             have HD:=Lib.hid hg1.2
             clear hg1 M1 HB
             have UP:=Lib.hid (fun k h=>M2.out.same k (Or.inr h))
             by_cases ce:mid<e
             · by_cases cf:e<b
               · go_wp2_with fail
                 refine (IH.out mid e b _ _ (by omega) (CmpN.on (g:=g) (cb:=cb) (key:=key) (blk:=blk) (n:=n) HC.out GB.out) HD.out ce cf h3 (HVG.out.merged M2.out (by omega)) (Y3.out.congr (fun k h _=>UP.out k h)) (Y4.out.congr (fun k h _=>UP.out k (by omega))) (Y6.out.congr (fun k h _=>UP.out k h) (by omega) (by omega))).mono ?_
                 rintro ex w3 ⟨g2,rfl,ho,hg,hm⟩
                 have HF:=Lib.hid ho
                 have GF:=Lib.hid (grown_trans GB.out hg)
                 have M3:=Lib.hid hm
                 clear ho hg hm HD GB
                 go_wp2_with fail
                 go_end0
                 exact ⟨g2,rfl,HF.out,GF.out,Y7.out g1 g2 M2.out M3.out⟩
               · go_wp2_with fail
                 go_end0
                 exact ⟨g1,rfl,HD.out,GB.out,Y7.out g1 g1 M2.out (Merged.self ((Y3.out.congr (fun k h _=>UP.out k h)).sub (Nat.le_refl _) (by omega)))⟩
             · go_wp2_with fail
               go_end0
               exact ⟨g1,rfl,HD.out,GB.out,Y7.out g1 g1 M2.out (Merged.self ((Y4.out.congr (fun k h _=>UP.out k (by omega))).sub (by omega) (Nat.le_refl _)))⟩
         · have h9:a=s:=by omega
           have M1:Hid (Merged key (rotF s m e f) (rotF s m e f) a mid):=Lib.hid (Merged.self (show Srt key (rotF s m e f) a mid by rw [h9];exact Y2.out))
           clear h9
           have HB:=HA
           have GB:=GA
           clear HA GA
           obtain ⟨g1,hg1⟩: ∃g1,Merged key g1 (rotF s m e f) a mid∧Own _ blk n n (gen n g1):=⟨_,M1.out,HB.out⟩
           have M2:=Lib.hid hg1.1
           have HD:=Lib.hid hg1.2
           clear hg1 M1 HB
           have UP:=Lib.hid (fun k h=>M2.out.same k (Or.inr h))
           by_cases ce:mid<e
           · by_cases cf:e<b
             · go_wp2_with fail
               refine (IH.out mid e b _ _ (by omega) (CmpN.on (g:=g) (cb:=cb) (key:=key) (blk:=blk) (n:=n) HC.out GB.out) HD.out ce cf h3 (HVG.out.merged M2.out (by omega)) (Y3.out.congr (fun k h _=>UP.out k h)) (Y4.out.congr (fun k h _=>UP.out k (by omega))) (Y6.out.congr (fun k h _=>UP.out k h) (by omega) (by omega))).mono ?_
               rintro ex w3 ⟨g2,rfl,ho,hg,hm⟩
               have HF:=Lib.hid ho
               have GF:=Lib.hid (grown_trans GB.out hg)
               have M3:=Lib.hid hm
               clear ho hg hm HD GB
               go_wp2_with fail
               go_end0
               exact ⟨g2,rfl,HF.out,GF.out,Y7.out g1 g2 M2.out M3.out⟩
             · go_wp2_with fail
               go_end0
               exact ⟨g1,rfl,HD.out,GB.out,Y7.out g1 g1 M2.out (Merged.self ((Y3.out.congr (fun k h _=>UP.out k h)).sub (Nat.le_refl _) (by omega)))⟩
           · go_wp2_with fail
             go_end0
             exact ⟨g1,rfl,HD.out,GB.out,Y7.out g1 g1 M2.out (Merged.self ((Y4.out.congr (fun k h _=>UP.out k (by omega))).sub (by omega) (Nat.le_refl _)))⟩
end Go.Proofs.YtanccoopbgamdaaGreatDoor
