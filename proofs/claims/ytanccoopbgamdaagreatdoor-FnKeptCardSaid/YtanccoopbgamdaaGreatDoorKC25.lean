/-
  Contracts and plain facts on which the theorem of this claim rests, text 25.
-/
import Derived.Shelf.Abstract
import Derived.Test.YtanccoopbgamdaaGreatDoorKC24
namespace Go.Proofs.YtanccoopbgamdaaGreatDoor
open Go.RowKit
set_option linter.unusedVariables false
set_option linter.unusedSimpArgs false
def CmpN (g:Nat) (cb:Array Value) (key:Int→Int) (blk n:Nat) (w0:World):Prop:=
 ∀ (W:World),w0.grownBy W (some blk)→ ∀x y:Int,0≤x→x<n→0≤y→y<n→
   Calls Tryz.prog g (#[.int .i64 x, .int .i64 y]++cb) W fun e W'=> ∃c:Int,e= .returned (.int .i64 c)∧(c<0↔key x<key y)∧Below W.heap.size W W'
theorem CmpN.on {g:Nat} {cb:Array Value} {key:Int→Int} {blk n:Nat} {w0 w:World} (h:CmpN g cb key blk n w0) (hg:w0.grownBy w (some blk)):CmpN g cb key blk n w:=
 fun W hW=>h W (grown_trans hg hW)
theorem grown_of_belowS {w w':World} (h:Below w.heap.size w w') (row:Option Nat):w.grownBy w' row:=⟨h.os,h.tape,h.output,h.size,fun i hi _=>h.block i hi⟩
structure InsJ (key:Int→Int) (f f0:Nat→Int) (a i j:Nat):Prop where
 aj:a≤j
 ji:j≤i
 at_:f j=(i:Int)
 srt: ∀p q,a≤p→p<q→q≤i→p≠j→q≠j→RL key (f p) (f q)
 up: ∀q,j<q→q≤i→RL key (i:Int) (f q)
 val: ∀p,a≤p→p≤i→p≠j→(a:Int)≤f p∧f p<i
 out: ∀p,p<a∨i<p→f p=f0 p
structure InsI (key:Int→Int) (f f0:Nat→Int) (a i:Nat):Prop where
 srt:Srt key f a i
 val: ∀p,a≤p→p<i→(a:Int)≤f p∧f p<i
 out: ∀p,p<a∨i≤p→f p=f0 p
theorem InsI.start {key : Int → Int} {f : Nat → Int} {a:Nat} (h:f a=(a:Int)):InsI key f f a (a+1):=
 ⟨fun i j _ _ _ => by omega, fun p h1 h2 => by obtain rfl:p=a:=by omega
                                               omega,fun _ _=>rfl⟩
theorem InsI.open {key:Int→Int} {f f0:Nat→Int} {a i:Nat} (h:InsI key f f0 a i) (hi:f0 i=(i:Int)) (ha:a≤i):InsJ key f f0 a i i:=
 ⟨ha,Nat.le_refl _,by rw [h.out i (by omega)];exact hi,fun p q h1 h2 h3 h4 h5=>h.srt p q h1 h2 (by omega),fun q h1 h2=>by omega,fun p h1 h2 h3=>h.val p h1 (by omega),fun p hp=>h.out p (by omega)⟩
theorem InsJ.close {key:Int→Int} {f f0:Nat→Int} {a i j:Nat} (h:InsJ key f f0 a i j) (hs:j=a∨ ¬key (i:Int)<key (f (j - 1))):InsI key f f0 a (i+1):=by
 have aj:=h.aj;have ji:=h.ji
 have lo: ∀p,a≤p→p<j→RL key (f p) (i:Int):=by
   intro p h1 h2
   rcases hs with e | e
   · omega
   · have v:=h.val (j - 1) (by omega) (by omega) (by omega)
     have r:RL key (f (j - 1)) (i:Int):=RL.of_not (fun c=>e ((RL.later v.2).1 c)) (by omega)
     by_cases e2:p=j - 1
     · rw [e2];exact r
     · exact (h.srt p (j - 1) h1 (by omega) (by omega) (by omega) (by omega)).trans r
 refine ⟨fun p q h1 h2 h3=>?_,fun p h1 h2=>?_,fun p hp=>h.out p (by omega)⟩
 · by_cases c1:p=j
   · subst c1;rw [h.at_];exact h.up q h2 (by omega)
   · by_cases c2:q=j
     · subst c2;rw [h.at_];exact lo p h1 h2
     · exact h.srt p q h1 h2 (by omega) c1 c2
 · by_cases c1:p=j
   · subst c1;rw [h.at_];omega
   · have:=h.val p h1 (by omega) c1;omega
theorem InsJ.step {key:Int→Int} {f f0:Nat→Int} {a i j:Nat} (h:InsJ key f f0 a i (j+1)) (ha:a≤j) (hk:key (i:Int)<key (f j)):InsJ key (sw f (j+1) j) f0 a i j:=by
 have ji:=h.ji
 have v:=h.val j ha (by omega) (by omega)
 have r:RL key (i:Int) (f j):=(RL.later v.2).2 hk
 have s1:sw f (j+1) j (j+1)=f j:=by unfold sw;rw [if_pos rfl]
 have s2:sw f (j+1) j j=(i:Int):=by unfold sw;rw [if_neg (by omega),if_pos rfl];exact h.at_
 have s3: ∀p,p≠j→p≠j+1→sw f (j+1) j p=f p:=fun p h1 h2=>by unfold sw;rw [if_neg h2,if_neg h1]
 refine ⟨ha,by omega,s2,fun p q h1 h2 h3 h4 h5=>?_,fun q h1 h2=>?_,fun p h1 h2 h3=>?_,fun p hp=>?_⟩
 · by_cases c1:p=j+1
   · subst c1;rw [s1,s3 q h5 (by omega)];exact h.srt j q ha (by omega) h3 (by omega) (by omega)
   · by_cases c2:q=j+1
     · subst c2;rw [s1,s3 p h4 c1];exact h.srt p j h1 (by omega) (by omega) c1 (by omega)
     · rw [s3 p h4 c1,s3 q h5 c2];exact h.srt p q h1 h2 h3 c1 c2
 · by_cases c1:q=j+1
   · subst c1;rw [s1];exact r
   · rw [s3 q (by omega) c1];exact h.up q (by omega) h2
 · by_cases c1:p=j+1
   · subst c1;rw [s1];exact v
   · rw [s3 p h3 c1];exact h.val p h1 h2 c1
 · rw [s3 p (by omega) (by omega)];exact h.out p hp
set_option maxRecDepth 100000 in
set_option maxHeartbeats 1600000 in
theorem insertion5 (g:Nat) (cb:Array Value) (key:Int→Int) (blk n a b:Nat) (f:Nat→Int) (w:World) (eg: ∀args w,(callFunc g args).run Tryz.prog w= .ok (.enter g args) w) (hcmp:CmpN g cb key blk n w) (ho:Own w blk n n (gen n f)) (hn:n≤100000) (h1:a<b) (h2:b≤n)
   (hid: ∀k,a≤k→k<b→f k=(k:Int)):
   Calls Tryz.prog 216 #[.slice (some ⟨blk,0,none⟩) n n, .int .i64 a, .int .i64 b, .func (.func g) #[] cb] w fun e w'=> ∃f',e= .returned (.tuple #[])∧Own w' blk n n (gen n f')∧w.grownBy w' (some blk)∧InsI key f' f a b:=by
 have HO:=Lib.hid ho
 have HC:Aside _:=hcmp
 have HI:=Lib.hid hid
 clear ho hcmp hid
 go_enter Tryz.func216,Tryz.ntmps216
 go_wp2_with fail
 go_loopg [8] (b - a) (fun gh vi wr=> ∃(i:Nat) (F:Nat→Int),vi= .int .i64 i∧a<i∧i≤b∧b≤i+gh∧Hid (InsI key F f a i)∧Hid (Own wr blk n n (gen n F))∧Hid (w.grownBy wr (some blk)))
 case atStart=>exact ⟨a+1,f,by go_num,by omega,by omega,by omega,Lib.hid (InsI.start (HI.out a (Nat.le_refl _) h1)),HO,Lib.hid (grown_refl _ _)⟩
 case round=>
   obtain ⟨i,F,rfl,i1,i2,hg1,HF,HR,HG⟩:=hrel
   by_cases hlt:i<b
   · go_wp2_with fail
     go_loopg [9] i (fun gh vj wr2=> ∃(j:Nat) (F2:Nat→Int),vj= .int .i64 j∧a≤j∧j≤i∧j≤gh∧Hid (InsJ key F2 f a i j)∧Hid (Own wr2 blk n n (gen n F2))∧Hid (w.grownBy wr2 (some blk)))
     case atStart=>exact ⟨i,F,rfl,by omega,Nat.le_refl _,Nat.le_refl _,Lib.hid (HF.out.open (HI.out i (by omega) hlt) (by omega)),HR,HG⟩
     case round=>
       clear HR HG HF
       obtain ⟨j,F2,rfl,j1,j2,hg2,HJ,HR,HG⟩:=hrel
       by_cases hja:a<j
       · obtain ⟨q,hq⟩: ∃q:Nat,j=q+1:=⟨j - 1,by omega⟩
         have zj:(j:Int) - 1=(q:Int):=by omega
         have c1:(a:Int)<(j:Int):=by omega
         have p2:(j:Int)<(n:Int):=by omega
         have p4:(q:Int)<(n:Int):=by omega
         have p5:IntKind.i64.wrap (q:Int)=(q:Int):=IntWalk.i64_in _ (by omega)
         have p6:q<n:=by omega
         have HQ:=Lib.hid hq
         clear hq
         have ca:=own_c HR.out (i:=j) (by omega)
         have cp:=own_c HR.out (i:=q) p6
         obtain ⟨x,hx⟩: ∃x,x=F2 j:=⟨_,rfl⟩
         obtain ⟨y,hy⟩: ∃y,y=F2 q:=⟨_,rfl⟩
         rw [←hx] at ca
         rw [←hy] at cp
         have HX:=Lib.hid hx
         have HY:=Lib.hid hy
         clear hx hy
         have MK:Hid (∀v,BelowL wr v→v.cell? ⟨blk,j,none⟩=some (.int .i64 x)∧v.cell? ⟨blk,q,none⟩=some (.int .i64 y)∧BelowL wr v):=Lib.hid (fun v h=>⟨(h.out.cell HR.out.lt).trans ca,(h.out.cell HR.out.lt).trans cp,h⟩)
         go_wp2_with fail
         have q0:=HG.out
         have HV:=Lib.hid (HJ.out.val)
         have xv:0≤x∧x<n:=by
           rw [HX.out,HJ.out.at_];omega
         have yv:0≤y∧y<n:=by
           have:=HJ.out.val q (by have:=HQ.out;omega) (by have:=HQ.out;omega) (by have:=HQ.out;omega)
           rw [HY.out];omega
         have CC:Hid (∀v,BelowL wr v→Calls Tryz.prog g (#[.int .i64 x, .int .i64 y]++cb) v fun e v'=> ∃c:Int,e= .returned (.int .i64 c)∧(c<0↔key x<key y)∧Below v.heap.size v v'):=Lib.hid (fun v hv=>HC.out v (grown_trans HG.out (grown_of_belowS hv.out _)) x y xv.1 xv.2 yv.1 yv.2)
         clear q0 HV xv yv
         go_region_held3 (fun v=>v.cell? ⟨blk,j,none⟩=some (.int .i64 x)∧v.cell? ⟨blk,q,none⟩=some (.int .i64 y)∧BelowL wr v)
           (first | exact MK.out _ hb1 | exact MK.out _ (BelowL.start _))
           (first
             | (go_at_fn g;((with_reducible refine (CC.out _ (limb3 (by assumption))).mono ?_);rintro e v1 ⟨c,rfl,hc,hq1⟩;have hb1:=BelowL.call (limb3 (by assumption)) hq1)))
         have HR1:=Lib.hid (HR.out.below hb1.out HR.out.lt)
         have HG1:=Lib.hid (grown_trans HG.out (grown_of_belowS hb1.out _))
         clear ca cp hb1 hq1 MK CC
         by_cases hk:key x<key y
         · have HK:=Lib.hid hk
           have HJ2:=Lib.hid (show InsJ key (sw F2 j q) f a i q by
             have e:=HQ.out
             subst e
             exact HJ.out.step (by omega) (by have h:=HK.out;rw [HX.out,HJ.out.at_,HY.out] at h;exact h))
           clear HX HY hc
           go_wp2_with fail
           obtain ⟨iN,hiN⟩: ∃zz,zz=j:=⟨_,rfl⟩
           obtain ⟨jN,hjN⟩: ∃zz,zz=q:=⟨_,rfl⟩
           have ea:((j:Int)).toNat=iN:=by omega
           have pa:(0:Int)≤(j:Int):=by omega
           have ba:(j:Int)<(n:Int):=by omega
           have ra:IntKind.i64.wrap ((j:Int))=(j:Int):=by rw [IntKind.wrap_i64];omega
           have ec:((q:Int)).toNat=jN:=by omega
           have pc:(0:Int)≤(q:Int):=by omega
           have bc:(q:Int)<(n:Int):=by omega
           have rc:IntKind.i64.wrap ((q:Int))=(q:Int):=by rw [IntKind.wrap_i64];omega
           have hij:iN≠jN:=by omega
           have hiB:iN<n:=by omega
           have hjB:jN<n:=by omega
           obtain ⟨sx,hx⟩: ∃zz,zz=(F2) iN:=⟨_,rfl⟩
           obtain ⟨sy,hy⟩: ∃zz,zz=(F2) jN:=⟨_,rfl⟩
           have SO:=Lib.hid (sw_row HR1.out hiB hjB hij)
           have ca:=own_c HR1.out hiB
           have cb':=own_c HR1.out hjB
           have fa:=HR1.out.frozen iN
           have fb:=HR1.out.frozen jN
           rw [←hx] at ca SO
           rw [←hy] at cb' SO
           obtain ⟨u,cu⟩:=own_c2 HR1.out hiB hjB hij (.int .i64 sy)
           have SE:sw (F2) iN jN=sw (F2) (j) (q):=by rw [hiN,hjN]
           rw [SE] at SO
           clear hx hy hij hiN hjN SE
           go_wp2_with fail
           go_big_region
           clear ca cb' fa fb cu
           go_wp2_with fail
           go_roundg q
           case measure=>have:=HQ.out;omega
           case rel=>exact ⟨q,sw F2 j q,rfl,by have:=HQ.out;omega,by have:=HQ.out;omega,Nat.le_refl _,HJ2,Lib.hid (SO.out.drewN 1),Lib.hid (grown_drewN (grown_set (grown_set HG1.out _) _) 1)⟩
         · have HK:=Lib.hid hk
           have HI2:=Lib.hid (show InsI key F2 f a (i+1) from HJ.out.close (Or.inr (by
             have e:=HQ.out
             subst e
             have h:=HK.out
             rw [HX.out,HJ.out.at_,HY.out] at h
             exact h)))
           clear HX HY hc
           go_wp2_with fail
           go_roundg (b - (i+1))
           case measure=>omega
           case rel=>exact ⟨i+1,F2,by go_num,by omega,by omega,by omega,HI2,HR1,HG1⟩
       · have c0:decide ((j:Int)>(a:Int))=false:=decide_eq_false (by omega)
         have c1: ¬(a:Int)<(j:Int):=by omega
         have HI2:=Lib.hid (show InsI key F2 f a (i+1) from HJ.out.close (Or.inl (by omega)))
         go_wp2_with fail
         go_big_region
         go_wp2_with fail
         go_roundg (b - (i+1))
         case measure=>omega
         case rel=>exact ⟨i+1,F2,by go_num,by omega,by omega,by omega,HI2,Lib.hid (HR.out.drewN 1),Lib.hid (grown_drewN HG.out 1)⟩
   · obtain rfl:i=b:=by omega
     go_wp2_with fail
     go_end0
     exact ⟨F,rfl,HR.out,HG.out,HF.out⟩
def InRow (f:Nat→Int) (n:Nat):Prop:= ∀k,k<n→0≤f k∧f k<n
theorem half_le (i j:Nat) (h:i<j): ∃c:Nat,((i:Int)+(j:Int))/2=c∧i≤c∧c<j:=⟨(i+j)/2,by omega,by omega,by omega⟩
theorem left_up {key:Int→Int} {f:Nat→Int} {a m b i c:Nat} (sr:Srt key f m b) (h:RL key (f c) (f a)) (hc:c<b) (P: ∀k,m≤k→k<i→RL key (f k) (f a)): ∀k,m≤k→k<c+1→RL key (f k) (f a):=by
 intro k h1 h2
 by_cases e:k=c
 · rw [e];exact h
 · exact (sr k c h1 (by omega) hc).trans h
theorem left_down {key:Int→Int} {f:Nat→Int} {a m b c:Nat} (sr:Srt key f m b) (h: ¬RL key (f c) (f a)) (hc:m≤c): ∀k,c≤k→k<b→ ¬RL key (f k) (f a):=by
 intro k h1 h2 h3
 by_cases e:k=c
 · rw [e] at h3;exact h h3
 · exact h ((sr c k hc (by omega) h2).trans h3)
theorem right_up {key:Int→Int} {f:Nat→Int} {a m c:Nat} (sl:Srt key f a m) (h: ¬RL key (f m) (f c)) (hc:c<m): ∀k,a≤k→k<c+1→ ¬RL key (f m) (f k):=by
 intro k h1 h2 h3
 by_cases e:k=c
 · rw [e] at h3;exact h h3
 · exact h (h3.trans (sl k c h1 (by omega) hc))
theorem right_down {key:Int→Int} {f:Nat→Int} {a m c:Nat} (sl:Srt key f a m) (h:RL key (f m) (f c)) (hc:a≤c): ∀k,c≤k→k<m→RL key (f m) (f k):=by
 intro k h1 h2
 by_cases e:k=c
 · rw [e];exact h
 · exact h.trans (sl c k hc (by omega) h2)
theorem left_done {key:Int→Int} {f:Nat→Int} {a i b:Nat} (h1:a+1≤i) (h2:i≤b) (sr:Srt key f (a+1) b) (hl:LLess f a (a+1) b) (p: ∀k,a+1≤k→k<i→RL key (f k) (f a)) (q: ∀k,i≤k→k<b→ ¬RL key (f k) (f a)):Merged key (rotF a (a+1) i f) f a b:=by
 have S:=split_one_left h1 h2 sr hl p q
 exact S.done (Merged.self S.lo.2) (Merged.self (split_one_left_hi h1 h2 sr hl q))
theorem right_done {key:Int→Int} {f:Nat→Int} {a i m:Nat} (h1:a≤i) (h2:i≤m) (sl:Srt key f a m) (hl:LLess f a m (m+1)) (p: ∀k,a≤k→k<i→ ¬RL key (f m) (f k)) (q: ∀k,i≤k→k<m→RL key (f m) (f k)):Merged key (rotF i m (m+1) f) f a (m+1):=by
 have S:=split_one_right h1 h2 sl hl p q
 exact S.done (Merged.self (split_one_right_lo h1 h2 sl hl p)) (Merged.self S.hi.1)
set_option maxRecDepth 100000 in
set_option maxHeartbeats 1600000 in
theorem sym_left (g:Nat) (cb:Array Value) (key:Int→Int) (blk n a m b:Nat) (f:Nat→Int) (w:World) (eg: ∀args w,(callFunc g args).run Tryz.prog w= .ok (.enter g args) w) (hcmp:CmpN g cb key blk n w) (ho:Own w blk n n (gen n f)) (hn:n≤100000)
   (h1:m=a+1) (h2:m<b) (h3:b≤n) (hv:InRow f n) (sr:Srt key f m b) (hl:LLess f a m b):
   Calls Tryz.prog 217 #[.slice (some ⟨blk,0,none⟩) n n, .int .i64 a, .int .i64 m, .int .i64 b, .func (.func g) #[] cb] w fun e w'=> ∃f',e= .returned (.tuple #[])∧Own w' blk n n (gen n f')∧w.grownBy w' (some blk)∧Merged key f' f a b:=by
 have HO:=Lib.hid ho
 have HC:Aside _:=hcmp
 have zm:(m:Int) - (a:Int)=1:=by omega
 have am:a<m:=by omega
 have HM:=Lib.hid h1
 have HV:=Lib.hid hv
 have HSR:=Lib.hid sr
 have HLL:=Lib.hid hl
 clear ho hcmp h1 hv sr hl
 go_enter Tryz.func217,Tryz.ntmps217
 go_wp2_with fail
 go_loopw [10,11] (fun vi vj wr=> ∃i j:Nat,vi= .int .i64 i∧vj= .int .i64 j∧m≤i∧i≤j∧j≤b∧Hid (∀k,m≤k→k<i→RL key (f k) (f a))∧Hid (∀k,j≤k→k<b→ ¬RL key (f k) (f a))∧Hid (Own wr blk n n (gen n f))∧Hid (w.grownBy wr (some blk))) (fun vi vj _=>(intOf vj).toNat - (intOf vi).toNat)
 case atStart=>exact ⟨m,b,rfl,rfl,Nat.le_refl _,by omega,Nat.le_refl _,Lib.hid (fun k h1 h2=>by omega),Lib.hid (fun k h1 h2=>by omega),HO,Lib.hid (grown_refl _ _)⟩
 case round=>
   obtain ⟨i,j,rfl,rfl,i1,i2,i3,P1,P2,HR,HG⟩:=hrel
   by_cases hlt:i<j
   · obtain ⟨c,hc,q1,q2⟩:=half_le i j hlt
     have q1':m≤c:=by omega
     have am2:a<n:=by omega
     have cn:c<n:=by omega
     have bi:((c:Nat):Int)<(n:Int):=by omega
     have bj:((a:Nat):Int)<(n:Int):=by omega
     have ca:=own_c HR.out (i:=c) (by omega)
     have cp:=own_c HR.out (i:=a) (by omega)
     obtain ⟨x,hx⟩: ∃zz,zz=(f) (c):=⟨_,rfl⟩
     obtain ⟨y,hy⟩: ∃zz,zz=(f) (a):=⟨_,rfl⟩
     have xv:=HV.out (c) (by omega)
     have yv:=HV.out (a) (by omega)
     rw [←hx] at ca xv
     rw [←hy] at cp yv
     have HX:=Lib.hid hx
     have HY:=Lib.hid hy
     have MK:Hid (∀v,BelowL wr v→v.cell? ⟨blk,c,none⟩=some (.int .i64 x)∧v.cell? ⟨blk,a,none⟩=some (.int .i64 y)∧BelowL wr v):=Lib.hid (fun v h=>⟨(h.out.cell HR.out.lt).trans ca,(h.out.cell HR.out.lt).trans cp,h⟩)
     have CC:Hid (∀v,BelowL wr v→Calls Tryz.prog g (#[.int .i64 x, .int .i64 y]++cb) v fun e v'=> ∃c:Int,e= .returned (.int .i64 c)∧(c<0↔key x<key y)∧Below v.heap.size v v'):=Lib.hid (fun v hv=>HC.out v (grown_trans HG.out (grown_of_belowS hv.out _)) x y xv.1 xv.2 yv.1 yv.2)
     clear hx hy xv yv
     go_wp2_with fail
     go_region_held3 (fun v=>v.cell? ⟨blk,c,none⟩=some (.int .i64 x)∧v.cell? ⟨blk,a,none⟩=some (.int .i64 y)∧BelowL wr v)
       (first | exact MK.out _ hb1 | exact MK.out _ (BelowL.start _))
       (first
         | (go_at_fn g;((with_reducible refine (CC.out _ (limb3 (by assumption))).mono ?_);rintro e v1 ⟨cc,rfl,hcc,hq1⟩;have hb1:=BelowL.call (limb3 (by assumption)) hq1)))
     have HR1:=Lib.hid (HR.out.below hb1.out HR.out.lt)
     have HG1:=Lib.hid (grown_trans HG.out (grown_of_belowS hb1.out _))
     clear ca cp hb1 hq1 MK CC bi bj
     have HLT:=Lib.hid (HLL.out a c (Nat.le_refl _) am q1' (by omega))
     by_cases hk:key x<key y
     · have P3:=Lib.hid (left_up HSR.out (show RL key (f c) (f a) by rw [RL.later HLT.out,←HX.out,←HY.out];exact hk) (by omega) P1.out)
       clear HX HY HLT
       go_wp2_with fail
       go_roundw
       case rel=>exact ⟨c+1,j,by go_num,rfl,by omega,by omega,i3,P3,P2,HR1,HG1⟩
       case measure=>simp [intOf];omega
     · have P3:=Lib.hid (left_down HSR.out (show ¬RL key (f c) (f a) by rw [RL.later HLT.out,←HX.out,←HY.out];exact hk) q1')
       clear HX HY HLT
       go_wp2_with fail
       go_roundw
       case rel=>exact ⟨i,c,rfl,rfl,i1,q1,by omega,P1,P3,HR1,HG1⟩
       case measure=>simp [intOf];omega
   · obtain rfl:i=j:=by omega
     obtain ⟨i',hi'⟩: ∃i':Nat,i=i'+1:=⟨i - 1,by omega⟩
     have zi:(i:Int) - 1=(i':Int):=by omega
     have i4:a≤i':=by omega
     have i5:i'+1≤b:=by omega
     have HI':=Lib.hid hi'
     clear hi'
     have HD:Hid (Merged key (rotF a (a+1) i f) f a b):=Lib.hid (by
       have e:=HM.out
       subst e
       exact left_done i1 i3 HSR.out HLL.out P1.out P2.out)
     clear zm P1 P2
     have HS:=Lib.hid (show rotF a (a+1) (a+1) f=f from rot_triv f (Or.inr rfl) (by omega) (Nat.le_refl _))
     go_wp2_with fail
     go_loopw [13] (fun vk wr=> ∃k:Nat,vk= .int .i64 k∧a≤k∧k≤i'∧Hid (Own wr blk n n (gen n (rotF a (a+1) (k+1) f)))∧Hid (w.grownBy wr (some blk))) (fun vk _=>i' - (intOf vk).toNat)
     case atStart=>exact ⟨a,rfl,Nat.le_refl _,i4,Lib.hid (by rw [HS.out];exact HR.out),HG⟩
     case round=>
       clear HR HG
       obtain ⟨k,rfl,k1,k2,HR,HG⟩:=hrel
       by_cases hlt2:k<i'
       · obtain ⟨iN,hiN⟩: ∃zz,zz=k:=⟨_,rfl⟩
         obtain ⟨jN,hjN⟩: ∃zz,zz=k+1:=⟨_,rfl⟩
         have ea:((k:Int)).toNat=iN:=by omega
         have pa:(0:Int)≤(k:Int):=by omega
         have ba:(k:Int)<(n:Int):=by omega
         have ra:IntKind.i64.wrap ((k:Int))=(k:Int):=by rw [IntKind.wrap_i64];omega
         have ec:((k:Int)+1).toNat=jN:=by omega
         have pc:(0:Int)≤(k:Int)+1:=by omega
         have bc:(k:Int)+1<(n:Int):=by omega
         have rc:IntKind.i64.wrap ((k:Int)+1)=(k:Int)+1:=by rw [IntKind.wrap_i64];omega
         have hij:iN≠jN:=by omega
         have hiB:iN<n:=by omega
         have hjB:jN<n:=by omega
         obtain ⟨sx,hx⟩: ∃zz,zz=(rotF a (a+1) (k+1) f) iN:=⟨_,rfl⟩
         obtain ⟨sy,hy⟩: ∃zz,zz=(rotF a (a+1) (k+1) f) jN:=⟨_,rfl⟩
         have SO:=Lib.hid (sw_row HR.out hiB hjB hij)
         have ca:=own_c HR.out hiB
         have cb':=own_c HR.out hjB
         have fa:=HR.out.frozen iN
         have fb:=HR.out.frozen jN
         rw [←hx] at ca SO
         rw [←hy] at cb' SO
         obtain ⟨u,cu⟩:=own_c2 HR.out hiB hjB hij (.int .i64 sy)
         have SE:sw (rotF a (a+1) (k+1) f) iN jN=sw (rotF a (a+1) (k+1) f) (k) (k+1):=by rw [hiN,hjN]
         rw [SE] at SO
         clear hx hy hij hiN hjN SE
         go_wp2_with fail
         go_big_region
         clear ca cb' fa fb cu
         go_wp2_with fail
         go_roundw
         case rel=>exact ⟨k+1,by go_num,by omega,by omega,Lib.hid (by rw [←sw_up a k m f k1];exact SO.out.drewN 1),Lib.hid (grown_drewN (grown_set (grown_set HG.out _) _) 1)⟩
         case measure=>simp [intOf];omega
       · obtain rfl:k=i':=by omega
         go_wp2_with fail
         exact bodyPost_ret (results_none rfl _ _ _) rfl ⟨_,rfl,HR.out,HG.out,by rw [←HI'.out];exact HD.out⟩
set_option maxRecDepth 100000 in
set_option maxHeartbeats 1600000 in
theorem sym_right (g:Nat) (cb:Array Value) (key:Int→Int) (blk n a m b:Nat) (f:Nat→Int) (w:World) (eg: ∀args w,(callFunc g args).run Tryz.prog w= .ok (.enter g args) w) (hcmp:CmpN g cb key blk n w) (ho:Own w blk n n (gen n f)) (hn:n≤100000)
   (h0:m≠a+1) (h1:a<m) (h2:b=m+1) (h3:b≤n) (hv:InRow f n) (sl:Srt key f a m) (hl:LLess f a m b):
   Calls Tryz.prog 217 #[.slice (some ⟨blk,0,none⟩) n n, .int .i64 a, .int .i64 m, .int .i64 b, .func (.func g) #[] cb] w fun e w'=> ∃f',e= .returned (.tuple #[])∧Own w' blk n n (gen n f')∧w.grownBy w' (some blk)∧Merged key f' f a b:=by
 have HO:=Lib.hid ho
 have HC:Aside _:=hcmp
 obtain ⟨t,ht⟩: ∃t:Nat,t=m - a:=⟨_,rfl⟩
 have zt:(m:Int) - (a:Int)=(t:Int):=by omega
 have zt1:((t:Int)==1)=false:=by simp;omega
 have zb:(b:Int) - (m:Int)=1:=by omega
 have mb:m<b:=by omega
 have HM:=Lib.hid h2
 have HV:=Lib.hid hv
 have HSL:=Lib.hid sl
 have HLL:=Lib.hid hl
 clear ho hcmp h0 h2 hv sl hl ht
 go_enter Tryz.func217,Tryz.ntmps217
 go_wp2_with fail
 go_loopw [14,15] (fun vi vj wr=> ∃i j:Nat,vi= .int .i64 i∧vj= .int .i64 j∧a≤i∧i≤j∧j≤m∧Hid (∀k,a≤k→k<i→ ¬RL key (f m) (f k))∧Hid (∀k,j≤k→k<m→RL key (f m) (f k))∧Hid (Own wr blk n n (gen n f))∧Hid (w.grownBy wr (some blk))) (fun vi vj _=>(intOf vj).toNat - (intOf vi).toNat)
 case atStart=>exact ⟨a,m,rfl,rfl,Nat.le_refl _,by omega,Nat.le_refl _,Lib.hid (fun k h1 h2=>by omega),Lib.hid (fun k h1 h2=>by omega),HO,Lib.hid (grown_refl _ _)⟩
 case round=>
   obtain ⟨i,j,rfl,rfl,i1,i2,i3,P1,P2,HR,HG⟩:=hrel
   by_cases hlt:i<j
   · obtain ⟨c,hc,q1,q2⟩:=half_le i j hlt
     have q1':a≤c:=by omega
     have cm:c<m:=by omega
     have cn:c<n:=by omega
     have mn:m<n:=by omega
     have bi:((m:Nat):Int)<(n:Int):=by omega
     have bj:((c:Nat):Int)<(n:Int):=by omega
     have ca:=own_c HR.out (i:=m) (by omega)
     have cp:=own_c HR.out (i:=c) (by omega)
     obtain ⟨x,hx⟩: ∃zz,zz=(f) (m):=⟨_,rfl⟩
     obtain ⟨y,hy⟩: ∃zz,zz=(f) (c):=⟨_,rfl⟩
     have xv:=HV.out (m) (by omega)
     have yv:=HV.out (c) (by omega)
     rw [←hx] at ca xv
     rw [←hy] at cp yv
     have HX:=Lib.hid hx
     have HY:=Lib.hid hy
     have MK:Hid (∀v,BelowL wr v→v.cell? ⟨blk,m,none⟩=some (.int .i64 x)∧v.cell? ⟨blk,c,none⟩=some (.int .i64 y)∧BelowL wr v):=Lib.hid (fun v h=>⟨(h.out.cell HR.out.lt).trans ca,(h.out.cell HR.out.lt).trans cp,h⟩)
     have CC:Hid (∀v,BelowL wr v→Calls Tryz.prog g (#[.int .i64 x, .int .i64 y]++cb) v fun e v'=> ∃c:Int,e= .returned (.int .i64 c)∧(c<0↔key x<key y)∧Below v.heap.size v v'):=Lib.hid (fun v hv=>HC.out v (grown_trans HG.out (grown_of_belowS hv.out _)) x y xv.1 xv.2 yv.1 yv.2)
     clear hx hy xv yv
     go_wp2_with fail
     go_region_held3 (fun v=>v.cell? ⟨blk,m,none⟩=some (.int .i64 x)∧v.cell? ⟨blk,c,none⟩=some (.int .i64 y)∧BelowL wr v)
       (first | exact MK.out _ hb1 | exact MK.out _ (BelowL.start _))
       (first
         | (go_at_fn g;((with_reducible refine (CC.out _ (limb3 (by assumption))).mono ?_);rintro e v1 ⟨cc,rfl,hcc,hq1⟩;have hb1:=BelowL.call (limb3 (by assumption)) hq1)))
     have HR1:=Lib.hid (HR.out.below hb1.out HR.out.lt)
     have HG1:=Lib.hid (grown_trans HG.out (grown_of_belowS hb1.out _))
     clear ca cp hb1 hq1 MK CC bi bj
     have HLT:=Lib.hid (HLL.out c m q1' cm (Nat.le_refl _) mb)
     by_cases hk:key x<key y
     · have hk2:(!decide (key x<key y))=false:=by simp [hk]
       rw [hk2]
       clear hk2
       have P3:=Lib.hid (right_down HSL.out (show RL key (f m) (f c) by rw [RL.later HLT.out,←HX.out,←HY.out];exact hk) q1')
       clear HX HY HLT
       go_wp2_with fail
       go_roundw
       case rel=>exact ⟨i,c,rfl,rfl,i1,q1,by omega,P1,P3,HR1,HG1⟩
       case measure=>simp [intOf];omega
     · have hk2:(!decide (key x<key y))=true:=by simp;omega
       rw [hk2]
       clear hk2
       have P3:=Lib.hid (right_up HSL.out (show ¬RL key (f m) (f c) by rw [RL.later HLT.out,←HX.out,←HY.out];exact hk) cm)
       clear HX HY HLT
       go_wp2_with fail
       go_roundw
       case rel=>exact ⟨c+1,j,by go_num,rfl,by omega,by omega,i3,P3,P2,HR1,HG1⟩
       case measure=>simp [intOf];omega
   · obtain rfl:i=j:=by omega
     have HD:Hid (Merged key (rotF i m (m+1) f) f a b):=Lib.hid (by
       have e:=HM.out
       subst e
       exact right_done i1 i3 HSL.out HLL.out P1.out P2.out)
     clear zt zt1 zb P1 P2
     have HS:=Lib.hid (show rotF m m (m+1) f=f from rot_triv f (Or.inl rfl) (Nat.le_refl _) (by omega))
     go_wp2_with fail
     go_loopw [17] (fun vk wr=> ∃k:Nat,vk= .int .i64 k∧i≤k∧k≤m∧Hid (Own wr blk n n (gen n (rotF k m (m+1) f)))∧Hid (w.grownBy wr (some blk))) (fun vk _=>(intOf vk).toNat)
     case atStart=>exact ⟨m,rfl,i3,Nat.le_refl _,Lib.hid (by rw [HS.out];exact HR.out),HG⟩
     case round=>
       clear HR HG
       obtain ⟨k,rfl,k1,k2,HR,HG⟩:=hrel
       by_cases hlt2:i<k
       · obtain ⟨r,hr⟩: ∃r:Nat,k=r+1:=⟨k - 1,by omega⟩
         have zr:(k:Int) - 1=(r:Int):=by omega
         have r1:i≤r:=by omega
         have r2:r<m:=by omega
         have r3:r<k:=by omega
         have HRr:=Lib.hid hr
         clear hr
         obtain ⟨iN,hiN⟩: ∃zz,zz=k:=⟨_,rfl⟩
         obtain ⟨jN,hjN⟩: ∃zz,zz=r:=⟨_,rfl⟩
         have ea:((k:Int)).toNat=iN:=by omega
         have pa:(0:Int)≤(k:Int):=by omega
         have ba:(k:Int)<(n:Int):=by omega
         have ra:IntKind.i64.wrap ((k:Int))=(k:Int):=by rw [IntKind.wrap_i64];omega
         have ec:((r:Int)).toNat=jN:=by omega
         have pc:(0:Int)≤(r:Int):=by omega
         have bc:(r:Int)<(n:Int):=by omega
         have rc:IntKind.i64.wrap ((r:Int))=(r:Int):=by rw [IntKind.wrap_i64];omega
         have hij:iN≠jN:=by omega
         have hiB:iN<n:=by omega
         have hjB:jN<n:=by omega
         obtain ⟨sx,hx⟩: ∃zz,zz=(rotF k m (m+1) f) iN:=⟨_,rfl⟩
         obtain ⟨sy,hy⟩: ∃zz,zz=(rotF k m (m+1) f) jN:=⟨_,rfl⟩
         have SO:=Lib.hid (sw_row HR.out hiB hjB hij)
         have ca:=own_c HR.out hiB
         have cb':=own_c HR.out hjB
         have fa:=HR.out.frozen iN
         have fb:=HR.out.frozen jN
         rw [←hx] at ca SO
         rw [←hy] at cb' SO
         obtain ⟨u,cu⟩:=own_c2 HR.out hiB hjB hij (.int .i64 sy)
         have SE:sw (rotF k m (m+1) f) iN jN=sw (rotF k m (m+1) f) (k) (r):=by rw [hiN,hjN]
         rw [SE] at SO
         clear hx hy hij hiN hjN SE
         go_wp2_with fail
         go_big_region
         clear ca cb' fa fb cu
         have HE:Hid (sw (rotF k m (m+1) f) k r=rotF r m (m+1) f):=Lib.hid (by have e:=HRr.out;subst e;exact sw_down r m f r2)
         go_wp2_with fail
         go_roundw
         case rel=>exact ⟨r,rfl,r1,by omega,Lib.hid (by rw [←HE.out];exact SO.out.drewN 1),Lib.hid (grown_drewN (grown_set (grown_set HG.out _) _) 1)⟩
         case measure=>simp [intOf];omega
       · obtain rfl:i=k:=by omega
         go_wp2_with fail
         exact bodyPost_ret (results_none rfl _ _ _) rfl ⟨_,rfl,HR.out,HG.out,HD.out⟩
end Go.Proofs.YtanccoopbgamdaaGreatDoor
