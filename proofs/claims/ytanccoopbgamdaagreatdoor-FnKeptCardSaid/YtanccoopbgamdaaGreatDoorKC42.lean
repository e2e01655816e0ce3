/-
  Contracts and plain facts on which the theorem of this claim rests, text 42.
-/
import Derived.Shelf.Abstract
import Derived.Test.YtanccoopbgamdaaGreatDoorKC33
import Derived.Test.YtanccoopbgamdaaGreatDoorKC38
import Derived.Test.YtanccoopbgamdaaGreatDoorKC40
import Derived.Test.YtanccoopbgamdaaGreatDoorKC41
namespace Go.Proofs.YtanccoopbgamdaaGreatDoor
open Go.RowKit
set_option linter.unusedVariables false
set_option linter.unusedSimpArgs false
set_option maxHeartbeats 1600000 in
theorem impl_plateOfCrosses (W H:Int) (ad:Option Addr) (n cap:Nat) (xs:List Int) (least:Int) (w:World) (hn:xs.length=n) (ha:Rd w ad xs) (hl:n≤9223372036854775807) (hcap:n≤cap):
   Calls Tryz.prog 104 #[.agg #[.int .i64 W, .int .i64 H, .slice ad n cap], .int .i64 least] w (PicOut w (growF least W H xs)):=by
 have HN:=Lib.hid hn
 have HA:=Lib.hid ha
 clear hn ha
 by_cases hp:picOk W H xs 1=true
 case neg=>
   have hp2:picOk W H xs 1=false:=by simpa using hp
   rw [growF_no hp]
   clear hp
   go_enter Tryz.func104,Tryz.ntmps104
   go_wp2_with fail
   refine (impl_IsPlate _ _ _ _ _ xs _ HN.out (by exact (HA.out.alloc _).alloc _) hl).mono ?_
   rintro e w1 ⟨rfl,hb⟩
   have HB1:=Lib.hid ((Joins.below_alloc2 _ _ _).trans (hb.mono (by simp;omega)))
   have KP1:=Lib.hid (((Blk.new w 27 #[.int .i64 W, .int .i64 H, .slice ad n cap]).alloc _).below' hb)
   have KR1:Hid (Blk w1 (w.heap.size+1) 27 #[.int .i64 0, .int .i64 0, .slice none 0 0]):=by
     have h:=(Blk.new (w.alloc (.cells #[.int .i64 W, .int .i64 H, .slice ad n cap] 27)) 27 #[.int .i64 0, .int .i64 0, .slice none 0 0]).below' hb
     exact Lib.hid (by simpa using h)
   obtain ⟨l1,c0,c1,c2⟩:=KP1.out.c3
   obtain ⟨m1,d0,d1,d2⟩:=KR1.out.c3
   obtain ⟨f0,f1,f2⟩:=KR1.out.f3
   clear hb
   rw [hp2]
   go_wp2_with fail
   exact bodyPost_ret (v:= .agg #[.int .i64 0, .int .i64 0, .slice none 0 0]) (by simp [results,Tryz.results104,go_sem,d0,d1,d2]) rfl ⟨none,0,0,rfl,OwnA.none _ _,by omega,
     ((HB1.out.setCell (by first | (simp;done) | (simp;omega)) _).setCell (by first | (simp;done) | (simp;omega)) _).setCell (by first | (simp;done) | (simp;omega)) _⟩
 case pos=>
   rw [growF_yes HN.out hp]
   obtain ⟨hs,hq,hi⟩:=picOk_bd HN.out hp
   obtain ⟨b1,b2,b3,b4,b5,b6⟩:=sizeOk_bd hs
   have HQ:=Lib.hid hq
   have HI:=Lib.hid hi
   have HS:=Lib.hid hs
   have hn1:1≤n:=by omega
   have hn2:n≤1024:=by omega
   clear hq hi hs
   have HX:=Lib.hid (dotsN_of HN.out HI.out)
   obtain ⟨Wn,hWn⟩: ∃Wn:Nat,W=Wn:=⟨W.toNat,by omega⟩
   obtain ⟨Hn,hHn⟩: ∃Hn:Nat,H=Hn:=⟨H.toNat,by omega⟩
   subst hWn hHn
   obtain ⟨b,off,hae,_,_⟩:=HA.out.at (by have:=HN.out;omega)
   subst hae
   have hq2:n=Wn*Hn:=by have:((Wn*Hn:Nat):Int)=(Wn:Int)*(Hn:Int):=Int.natCast_mul _ _;have:=HQ.out;omega
   have CC:=Lib.hid (fun (v:World) (hv:Rd v (some ⟨b,off,none⟩) xs)=>impl_crossDots Wn Hn b off n cap xs v HN.out hv (by omega) (by omega) (by omega) (by omega) hq2 hn2 hcap HX.out)
   have E1:Hid ((Wn:Int).toNat=Wn):=Lib.hid (Int.toNat_natCast _)
   have E2:Hid ((Hn:Int).toNat=Hn):=Lib.hid (Int.toNat_natCast _)
   rw [E1.out,E2.out]
   clear hq2
   go_enter Tryz.func104,Tryz.ntmps104
   go_wp2_with fail
   refine (impl_IsPlate _ _ _ _ _ xs _ HN.out (by exact (HA.out.alloc _).alloc _) hl).mono ?_
   rintro e w1 ⟨rfl,hb⟩
   have HB1:=Lib.hid ((Joins.below_alloc2 _ _ _).trans (hb.mono (by simp;omega)))
   have KP1:=Lib.hid (((Blk.new w 27 #[.int .i64 Wn, .int .i64 Hn, .slice (some ⟨b,off,none⟩) n cap]).alloc _).below' hb)
   have KR1:Hid (Blk w1 (w.heap.size+1) 27 #[.int .i64 0, .int .i64 0, .slice none 0 0]):=by
     have h:=(Blk.new (w.alloc (.cells #[.int .i64 Wn, .int .i64 Hn, .slice (some ⟨b,off,none⟩) n cap] 27)) 27 #[.int .i64 0, .int .i64 0, .slice none 0 0]).below' hb
     exact Lib.hid (by simpa using h)
   obtain ⟨l1,c0,c1,c2⟩:=KP1.out.c3
   obtain ⟨m1,d0,d1,d2⟩:=KR1.out.c3
   obtain ⟨f0,f1,f2⟩:=KR1.out.f3
   clear hb
   rw [hp]
   go_wp2_with fail
   refine (impl_blank (Wn:Int) (Hn:Int) n _ HS.out HQ.out).mono ?_
   rintro e w2 ⟨g,rfl,hg,ho,hb⟩
   have HB2:=Lib.hid (HB1.out.trans (hb.mono HB1.out.size))
   have KP2:=Lib.hid (KP1.out.below' hb)
   have KR2:=Lib.hid (KR1.out.below' hb)
   have HO:=Lib.hid ho
   have HG:Hid (w1.heap.size≤g):=Lib.hid hg
   clear hb hg ho c0 c1 c2 d0 d1 d2 f0 f1 f2
   obtain ⟨l2,c0,c1,c2⟩:=KP2.out.c3
   go_wp2_with fail
   have K3:=Lib.hid (Blk.new w2 27 #[.int .i64 Wn, .int .i64 Hn, .slice (some ⟨g,0,none⟩) n n])
   have HO3:=Lib.hid (HO.out.alloc (.cells #[.int .i64 Wn, .int .i64 Hn, .slice (some ⟨g,0,none⟩) n n] 27))
   have KR3:=Lib.hid (KR2.out.alloc (.cells #[.int .i64 Wn, .int .i64 Hn, .slice (some ⟨g,0,none⟩) n n] 27))
   have HB3:=Lib.hid (HB2.out.alloc HB2.out.size (.cells #[.int .i64 Wn, .int .i64 Hn, .slice (some ⟨g,0,none⟩) n n] 27))
   refine (CC.out _ (by exact HA.out.below HB3.out)).mono ?_
   rintro e w4 ⟨ca,cc,rfl,hoc,hb⟩
   have K4:=Lib.hid (K3.out.below' hb)
   have HO4:=Lib.hid (HO3.out.below hb HO3.out.lt)
   have KR4:=Lib.hid (KR3.out.below' hb)
   have HB4:=Lib.hid (bTrans HB3.out hb)
   have HC4:=Lib.hid hoc
   have HCB:Hid (∀x,blockOf ca=some x→w2.heap.size+1≤x):=Lib.hid (fun x hx=>by have:=(hoc.bd x hx).1;simp at this;omega)
   have HGL:Hid (g<w2.heap.size):=Lib.hid HO.out.lt
   have HGW:Hid (w.heap.size+1<g):=Lib.hid (by have:=HG.out;have:=KR1.out.lt;omega)
   clear hb hoc c0 c1 c2 l2 K3 HO3 KR3 HB3
   go_wp2_with fail
   go_loopw [20] (fun i wr=> ∃k:Nat,k≤n∧i= .int .i64 k∧Hid (Own wr g n n (filled (leastG Wn Hn xs n least) (List.replicate n 0) k))∧Hid (w4.grownBy wr (some g))) (fun i _=>n - (intOf i).toNat)
   case atStart=>exact ⟨0,Nat.zero_le _,rfl,Lib.hid (by rw [filled_zero];exact HO4.out),Lib.hid (grown_refl _ _)⟩
   case round=>
     obtain ⟨k,hk,rfl,HF,HGR⟩:=hrel
     have KOr:=Lib.hid (K4.out.grown HGR.out (by have:=HGL.out;intro e;have:=Option.some.inj e;omega))
     obtain ⟨l0,o0,o1,o2⟩:=KOr.out.c3
     by_cases hlt:k<n
     · have HCr:Hid (Rd wr ca (gen n (nearS Wn Hn xs))):=Lib.hid (rd_grownS HC4.out.rd HGR.out (fun x hx e=>by have:=HCB.out x hx;have:=HGL.out;have:=Option.some.inj e;omega))
       obtain ⟨bc,oc,hce,lc,cc0⟩:=HCr.out k (by rw [gen_len];exact hlt)
       subst hce
       rw [gen_get _ _ _ hlt] at cc0
       have EV:=leastG_at (w:=Wn) (h:=Hn) (xs:=xs) (m:=least) hlt
       obtain ⟨V,hV⟩: ∃V,nearS Wn Hn xs k=V:=⟨_,rfl⟩
       rw [hV] at EV cc0
       have HE:=Lib.hid EV
       clear EV hV
       by_cases le:least≤V
       · have g2:=HF.out.cell hlt
         have g3:=HF.out.frozen k
         have hs:=HF.out.set k 1
         rw [filled_succ (leastG Wn Hn xs n least) _ k _ (by rw [leastG_len];exact hlt) (by simp;omega) (by rw [HE.out,if_pos le])] at hs
         have HSt:=Lib.hid hs
         clear hs
         go_wp2_with fail
         go_roundw
         case rel=>exact ⟨k+1,by omega,by go_num,Lib.hid (by simpa using HSt.out),Lib.hid (grown_set HGR.out _)⟩
         case measure=>simp [intOf];omega
       · have hs:=filled_skipW (leastG Wn Hn xs n least) (List.replicate n 0) k (by rw [leastG_len];exact hlt) (by simp;omega) (by rw [HE.out,if_neg le];simp [List.getD,hlt])
         have HSt:Hid (Own wr g n n (filled (leastG Wn Hn xs n least) (List.replicate n 0) (k+1))):=Lib.hid (by rw [←hs];exact HF.out)
         clear hs
         go_wp2_with fail
         go_roundw
         case rel=>exact ⟨k+1,by omega,by go_num,HSt,HGR⟩
         case measure=>simp [intOf];omega
     · obtain rfl:n=k:=by omega
       have HF2:Hid (Own wr g n n (leastG Wn Hn xs n least)):=Lib.hid (by have h:=HF.out;rwa [filled_at _ _ _ (leastG_len _ _ _ _ _) (by simp)] at h)
       have KRr:=Lib.hid (KR4.out.grown HGR.out (by have:=HGW.out;intro e;have:=Option.some.inj e;omega))
       have HBr:=Lib.hid (HB4.out.grown HGR.out HB4.out.size (by intro q hq;cases hq;have:=HGW.out;omega))
       obtain ⟨z0,r0,r1,r2⟩:=KRr.out.c3
       obtain ⟨f0,f1,f2⟩:=KRr.out.f3
       go_wp2_with fail
       exact bodyPost_ret (v:= .agg #[.int .i64 Wn, .int .i64 Hn, .slice (some ⟨g,0,none⟩) n n]) (by simp [results,Tryz.results104,go_sem,r0,r1,r2]) rfl
         ⟨_,_,_,rfl,OwnA.mk (((HF2.out.other (by have:=HGW.out;simp;omega) _).other (by have:=HGW.out;simp;omega) _).other (by have:=HGW.out;simp;omega) _) (by have:=HGW.out;omega),by omega,
           ((HBr.out.setCell (by first | (simp;done) | (simp;omega)) _).setCell (by first | (simp;done) | (simp;omega)) _).setCell (by first | (simp;done) | (simp;omega)) _⟩
set_option maxHeartbeats 400000 in
theorem impl_GrowPlate (W H:Int) (ad:Option Addr) (n cap:Nat) (xs:List Int) (w:World) (hn:xs.length=n) (ha:Rd w ad xs) (hl:n≤9223372036854775807) (hcap:n≤cap):
   Calls Tryz.prog 81 #[.agg #[.int .i64 W, .int .i64 H, .slice ad n cap]] w (PicOut w (growF 1 W H xs)):=by
 have HN:=Lib.hid hn
 have HA:=Lib.hid ha
 clear hn ha
 go_enter Tryz.func81,Tryz.ntmps81
 go_wp2_with fail
 refine (impl_plateOfCrosses W H ad n cap xs 1 _ HN.out (by exact (HA.out.alloc _).alloc _) hl hcap).mono ?_
 rintro e w1 ⟨a,m,c,rfl,ho,hm,hb⟩
 have HB1:=Lib.hid (bTrans (bAlloc (bAlloc (Below.refl w.heap.size w) _) _) hb)
 have KR1:=Lib.hid ((Blk.new' (g:=w.heap.size+1) (w:=w.alloc (.cells #[.int .i64 W, .int .i64 H, .slice ad n cap] 27)) 27 #[.int .i64 0, .int .i64 0, .slice none 0 0] (by simp)).below' hb)
 have HO1:=Lib.hid ho
 obtain ⟨m1,d0,d1,d2⟩:=KR1.out.c3
 obtain ⟨f0,f1,f2⟩:=KR1.out.f3
 clear ho hb
 go_wp2_with fail
 exact bodyPost_ret (v:= .agg #[.int .i64 (growF 1 W H xs).W, .int .i64 (growF 1 W H xs).H, .slice a m c]) (by simp [results,Tryz.results81,go_sem,d0,d1,d2]) rfl
   ⟨a,m,c,rfl,(((HO1.out.other (by simp) _).other (by simp) _).other (by simp) _).mono (by simp;omega),hm,((HB1.out.setCell (by first | (simp;done) | (simp;omega)) _).setCell (by first | (simp;done) | (simp;omega)) _).setCell (by first | (simp;done) | (simp;omega)) _⟩
set_option maxHeartbeats 400000 in
theorem impl_ShrinkPlate (W H:Int) (ad:Option Addr) (n cap:Nat) (xs:List Int) (w:World) (hn:xs.length=n) (ha:Rd w ad xs) (hl:n≤9223372036854775807) (hcap:n≤cap):
   Calls Tryz.prog 82 #[.agg #[.int .i64 W, .int .i64 H, .slice ad n cap]] w (PicOut w (growF 5 W H xs)):=by
 have HN:=Lib.hid hn
 have HA:=Lib.hid ha
 clear hn ha
 go_enter Tryz.func82,Tryz.ntmps82
 go_wp2_with fail
 refine (impl_plateOfCrosses W H ad n cap xs 5 _ HN.out (by exact (HA.out.alloc _).alloc _) hl hcap).mono ?_
 rintro e w1 ⟨a,m,c,rfl,ho,hm,hb⟩
 have HB1:=Lib.hid (bTrans (bAlloc (bAlloc (Below.refl w.heap.size w) _) _) hb)
 have KR1:=Lib.hid ((Blk.new' (g:=w.heap.size+1) (w:=w.alloc (.cells #[.int .i64 W, .int .i64 H, .slice ad n cap] 27)) 27 #[.int .i64 0, .int .i64 0, .slice none 0 0] (by simp)).below' hb)
 have HO1:=Lib.hid ho
 obtain ⟨m1,d0,d1,d2⟩:=KR1.out.c3
 obtain ⟨f0,f1,f2⟩:=KR1.out.f3
 clear ho hb
 go_wp2_with fail
 exact bodyPost_ret (v:= .agg #[.int .i64 (growF 5 W H xs).W, .int .i64 (growF 5 W H xs).H, .slice a m c]) (by simp [results,Tryz.results82,go_sem,d0,d1,d2]) rfl
   ⟨a,m,c,rfl,(((HO1.out.other (by simp) _).other (by simp) _).other (by simp) _).mono (by simp;omega),hm,((HB1.out.setCell (by first | (simp;done) | (simp;omega)) _).setCell (by first | (simp;done) | (simp;omega)) _).setCell (by first | (simp;done) | (simp;omega)) _⟩
def mirK (xs:List Int) (W:Int) (s:Nat):List Int:=gen xs.length (fun p=>if p<s then xs.getD (mirT W (p:Nat)).toNat 0 else xs.getD p 0)
theorem mirK_len (xs:List Int) (W:Int) (s:Nat):(mirK xs W s).length=xs.length:=gen_len _ _
theorem mirK_zero (xs:List Int) (W:Int):mirK xs W 0=xs:=by
 symm
 refine gen_ext _ _ _ rfl (fun p hp=>?_)
 rw [if_neg (by omega)]
theorem mirK_all (xs:List Int) (W:Int) (s:Nat) (h:s=xs.length):mirK xs W s=gen xs.length (fun j=>xs.getD (mirT W (j:Nat)).toNat 0):=by
 refine gen_ext _ _ _ (mirK_len _ _ _) (fun p hp=>?_)
 unfold mirK
 rw [gen_get _ _ _ hp,if_pos (by omega)]
theorem mirT_row {W:Int} {s p:Nat} {w r:Nat} (hw:(w:Int)=W) (h1:1≤w) (hs:s=r*w) (h2:s≤p) (h3:p<s+w):(mirT W (p:Nat)).toNat=2*s+w - 1 - p:=by
 have e:(p:Int)=(r:Int)*W+((p - s:Nat):Int):=by
   rw [←hw,←Int.natCast_mul,←hs];omega
 obtain ⟨j1,j2⟩:=join_dm (q:=(r:Int)) (r:=((p - s:Nat):Int)) (m:=W) (by omega) (by omega)
 unfold mirT
 rw [e,j1,j2,←hw,←Int.natCast_mul,←hs]
 omega
theorem mirK_step (xs:List Int) (W:Int) (s w r k:Nat) (hw:(w:Int)=W) (h1:1≤w) (hs:s=r*w) (h2:s+w≤xs.length) (h3:w≤2*k+1) (h4:k≤w):
   revK (mirK xs W s) s w k=mirK xs W (s+w):=by
 have hl:=mirK_len xs W s
 refine gen_ext _ _ _ (by rw [revK_len,hl]) (fun p hp=>?_)
 rw [revK_get _ _ _ _ _ (by omega)]
 unfold mirK
 by_cases c:s≤p∧p<s+w
 · rw [if_pos (by omega:p<s+w),mirT_row hw h1 hs c.1 c.2]
   by_cases d:p<s+k∨s+w<p+1+k
   · rw [if_pos ⟨c.1,c.2,d⟩,gen_get _ _ _ (by omega),if_neg (by omega)]
   · rw [if_neg (fun h=>d h.2.2),gen_get _ _ _ hp,if_neg (by omega)]
     congr 1;omega
 · rw [if_neg (fun h=>c ⟨h.1,h.2.1⟩),gen_get _ _ _ hp]
   by_cases d:p<s
   · rw [if_pos d,if_pos (by omega)]
   · rw [if_neg d,if_neg (by omega)]
set_option maxHeartbeats 1600000 in
theorem impl_MirrorPicture (W H:Int) (ad:Option Addr) (n cap:Nat) (xs:List Int) (w:World) (hn:xs.length=n) (ha:Rd w ad xs) (hl:n≤9223372036854775807):
   Calls Tryz.prog 83 #[.agg #[.int .i64 W, .int .i64 H, .slice ad n cap]] w (PicOut w (mirrorF W H xs)):=by
 have HN:=Lib.hid hn
 have HA:=Lib.hid ha
 clear hn ha
 by_cases hp:picOk W H xs 255=true
 case neg=>
   have hp2:picOk W H xs 255=false:=by simpa using hp
   rw [mirF_no hp]
   clear hp
   go_enter Tryz.func83,Tryz.ntmps83
   go_wp2_with fail
   refine (impl_IsPicture _ _ _ _ _ xs _ HN.out (by exact (HA.out.alloc _).alloc _) hl).mono ?_
   rintro e w1 ⟨rfl,hb⟩
   have HB1:=Lib.hid ((Joins.below_alloc2 _ _ _).trans (hb.mono (by simp;omega)))
   have KP1:=Lib.hid (((Blk.new w 27 #[.int .i64 W, .int .i64 H, .slice ad n cap]).alloc _).below' hb)
   have KR1:Hid (Blk w1 (w.heap.size+1) 27 #[.int .i64 0, .int .i64 0, .slice none 0 0]):=by
     have h:=(Blk.new (w.alloc (.cells #[.int .i64 W, .int .i64 H, .slice ad n cap] 27)) 27 #[.int .i64 0, .int .i64 0, .slice none 0 0]).below' hb
     exact Lib.hid (by simpa using h)
   obtain ⟨l1,c0,c1,c2⟩:=KP1.out.c3
   obtain ⟨m1,d0,d1,d2⟩:=KR1.out.c3
   obtain ⟨f0,f1,f2⟩:=KR1.out.f3
   clear hb
   rw [hp2]
   go_wp2_with fail
   exact bodyPost_ret (v:= .agg #[.int .i64 0, .int .i64 0, .slice none 0 0]) (by simp [results,Tryz.results83,go_sem,d0,d1,d2]) rfl ⟨none,0,0,rfl,OwnA.none _ _,by omega,
     ((HB1.out.setCell (by first | (simp;done) | (simp;omega)) _).setCell (by first | (simp;done) | (simp;omega)) _).setCell (by first | (simp;done) | (simp;omega)) _⟩
 case pos=>
   obtain ⟨hs,hq,hi⟩:=picOk_bd HN.out hp
   obtain ⟨b1,b2,b3,b4,b5,b6⟩:=sizeOk_bd hs
   have HQ:=Lib.hid hq
   have HI:=Lib.hid hi
   have HS:=Lib.hid hs
   have hn1:1≤n:=by omega
   have hn2:n≤1024:=by omega
   clear hq hi hs
   rw [mirF_yes hp HQ.out]
   obtain ⟨wn,hwn⟩: ∃wn:Nat,(wn:Int)=W:=⟨W.toNat,by omega⟩
   have HWN:=Lib.hid hwn
   have hw1:1≤wn:=by omega
   clear hwn
   go_enter Tryz.func83,Tryz.ntmps83
   go_wp2_with fail
   refine (impl_IsPicture _ _ _ _ _ xs _ HN.out (by exact (HA.out.alloc _).alloc _) hl).mono ?_
   rintro e w1 ⟨rfl,hb⟩
   have HB1:=Lib.hid ((Joins.below_alloc2 _ _ _).trans (hb.mono (by simp;omega)))
   have KP1:=Lib.hid (((Blk.new w 27 #[.int .i64 W, .int .i64 H, .slice ad n cap]).alloc _).below' hb)
   have KR1:Hid (Blk w1 (w.heap.size+1) 27 #[.int .i64 0, .int .i64 0, .slice none 0 0]):=by
     have h:=(Blk.new (w.alloc (.cells #[.int .i64 W, .int .i64 H, .slice ad n cap] 27)) 27 #[.int .i64 0, .int .i64 0, .slice none 0 0]).below' hb
     exact Lib.hid (by simpa using h)
   obtain ⟨l1,c0,c1,c2⟩:=KP1.out.c3
   obtain ⟨m1,d0,d1,d2⟩:=KR1.out.c3
   obtain ⟨f0,f1,f2⟩:=KR1.out.f3
   clear hb
   rw [hp]
   go_wp2_with fail
   refine (impl_copyPicture W H ad n cap xs _ HN.out (by exact HA.out.below HB1.out) HS.out HQ.out).mono ?_
   rintro e w2 ⟨g,rfl,hg,ho,hb⟩
   have HB2:=Lib.hid (HB1.out.trans (hb.mono HB1.out.size))
   have KP2:=Lib.hid (KP1.out.below' hb)
   have KR2:=Lib.hid (KR1.out.below' hb)
   have HO:=Lib.hid ho
   have HG:Hid (w1.heap.size≤g):=Lib.hid hg
   clear hb hg ho c0 c1 c2 d0 d1 d2 f0 f1 f2
   obtain ⟨l2,c0,c1,c2⟩:=KP2.out.c3
   go_wp2_with fail
   go_loopw [4] (fun i wr=> ∃(s r:Nat),s≤n∧i= .int .i64 s∧Hid (s=r*wn)∧Own wr g n n (mirK xs W s)∧(w2.alloc (.cells #[.int .i64 W, .int .i64 H, .slice (some ⟨g,0,none⟩) n n] 27)).grownBy wr (some g)) (fun i _=>n - (intOf i).toNat)
   case atStart=>exact ⟨0,0,Nat.zero_le _,rfl,(by unfold Hid;omega),by rw [mirK_zero];exact HO.out.alloc _,grown_refl _ _⟩
   case round=>
     obtain ⟨k,r,hk,rfl,HR,ho,hg⟩:=hrel
     have HBr:=Lib.hid ((HB2.out.alloc HB2.out.size _).grown hg (by have:=HB2.out.size;simp;omega) (by intro k hk;cases hk;have:=HG.out;omega))
     have KO:=Lib.hid ((Blk.new w2 27 #[.int .i64 W, .int .i64 H, .slice (some ⟨g,0,none⟩) n n]).grown hg (by have:=HO.out.lt;simp;omega))
     obtain ⟨l0,o0,o1,o2⟩:=KO.out.c3
     have KP:=Lib.hid ((KP2.out.alloc _).grown hg (by have:=HG.out;have:=KP1.out.lt;simp;omega))
     obtain ⟨l9,p0,p1,p2⟩:=KP.out.c3
     by_cases hlt:k<n
     · have hfit:(k:Int)+W≤n:=by
         have h1:=HR.out
         have h2:=HQ.out
         have h3:=HWN.out
         have h4:r<H.toNat:=by
           apply Nat.lt_of_mul_lt_mul_right (a:=wn)
           rw [←h1]
           have:((H.toNat*wn:Nat):Int)=n:=by rw [Int.natCast_mul,h3,Int.toNat_of_nonneg (by omega),h2,Int.mul_comm]
           omega
         have h5:(r+1)*wn≤H.toNat*wn:=Nat.mul_le_mul_right _ h4
         have:((H.toNat*wn:Nat):Int)=n:=by rw [Int.natCast_mul,h3,Int.toNat_of_nonneg (by omega),h2,Int.mul_comm]
         rw [Nat.add_mul,Nat.one_mul,←h1] at h5
         omega
       go_wp2_with fail
       rw [show ((k:Int)+W).toNat - k=wn from by have:=HWN.out;omega]
       refine (lib_Reverse g n n k wn (n - k) (mirK xs W k) _ ho (by have:=HWN.out;omega) hw1 (by omega)).mono ?_
       rintro e w3 ⟨rfl,⟨q,q1,q2,ho3⟩,hg3⟩
       rw [mirK_step xs W k wn r q HWN.out hw1 HR.out (by have:=HN.out;have:=HWN.out;omega) q1 q2] at ho3
       have HO3:=Lib.hid ho3
       have HG3:=Lib.hid (grown_trans hg hg3)
       have KP3:=Lib.hid (KP.out.grown hg3 (by have:=HG.out;have:=KP1.out.lt;simp;omega))
       obtain ⟨z9,z0,z1,z2⟩:=KP3.out.c3
       clear ho3 hg3 ho hg o0 o1 o2 p0 p1 p2
       go_wp2_with fail
       go_roundw
       case rel=>exact ⟨k+wn,r+1,by have:=HWN.out;omega,by rw [←HWN.out];go_num,(by have:=HR.out;unfold Hid;rw [Nat.add_mul,Nat.one_mul,this]),HO3.out,HG3.out⟩
       case measure=>have:=HWN.out;simp [intOf];omega
     · obtain rfl:n=k:=by omega
       have KR:=Lib.hid ((KR2.out.alloc _).grown hg (by have:=HG.out;have:=KR2.out.lt;simp;omega))
       obtain ⟨r0,r1,r2,r3⟩:=KR.out.c3
       obtain ⟨q0,q1,q2⟩:=KR.out.f3
       rw [mirK_all _ _ _ HN.out.symm,HN.out] at ho
       have HO3:=Lib.hid ho
       clear ho
       go_wp2_with fail
       exact bodyPost_ret (v:= .agg #[.int .i64 W, .int .i64 H, .slice (some ⟨g,0,none⟩) n n]) (by simp [results,Tryz.results83,go_sem,r1,r2,r3]) rfl
         ⟨_,_,_,rfl,OwnA.mk (((HO3.out.other (by have:=HG.out;simp;omega) _).other (by have:=HG.out;simp;omega) _).other (by have:=HG.out;simp;omega) _) (by have:=HG.out;omega),by omega,
           ((HBr.out.setCell (by first | (simp;done) | (simp;omega)) _).setCell (by first | (simp;done) | (simp;omega)) _).setCell (by first | (simp;done) | (simp;omega)) _⟩
def revT (p:Pic):Pic:=⟨(revF p.W p.H p.ink).W,(revF p.W p.H p.ink).H,(revF p.W p.H p.ink).ranks⟩
def growT (k:Nat) (p:Pic):Pic:=growF k p.W p.H p.ink
def mirT2 (p:Pic):Pic:=mirrorF p.W p.H p.ink
def plainF (l:List UInt8):Option (Dat→Dat × List UInt8):=
 if l=[101,114,114,111,114] then some (actLast errorT) else if l=[99,111,117,110,116,115] then some (actLast countsT) else if l=[109,101,97,110] then some (actLast meanT) else if l=[114,117,110,115] then some (actLast runsT) else if l=[115,104,111,119] then some (actLast showT) else if l=[100,114,111,112] then some (actLast dropT) else if l=[109,105,114,114,111,114] then some (actLast (changeT (mirT2))) else if l=[115,104,114,105,110,107] then some (actLast (changeT (growT 5))) else if l=[103,114,111,119] then some (actLast (changeT (growT 1))) else if l=[100,105,102,102,117,115,101,32,112,108,97,105,110,32,98,111,116,104] then some (actPlate (diffT plainK true)) else if l=[100,105,102,102,117,115,101,32,112,108,97,105,110,32,108,101,102,116] then some (actPlate (diffT plainK false)) else if l=[100,105,102,102,117,115,101,32,115,116,101,105,110,32,98,111,116,104] then some (actPlate (diffT steinK true)) else if l=[100,105,102,102,117,115,101,32,115,116,101,105,110,32,108,101,102,116] then some (actPlate (diffT steinK false)) else if l=[115,99,114,101,101,110] then some (actPlate screenT) else if l=[114,101,118,101,114,115,101] then some (actMat revT) else none
structure BdD (d:Dat):Prop where
 n4:d.2.2.length≤4
 mean: ∀q,q ∈ d.2.2→InI64 (meanF q.W q.H q.ink).1∧InI64 (meanF q.W q.H q.ink).2
 runs: ∀q,q ∈ d.2.2→(runsF q.W q.H q.ink).length≤4096∧ ∀x,x ∈ runsF q.W q.H q.ink→InI64 x
 counts:(markCountsF d.2.2).length≤4096∧ ∀x,x ∈ markCountsF d.2.2→InI64 x
 err: ∀q,q ∈ d.2.2→InI64 (errF d.1.W d.1.H d.1.ink q.W q.H q.ink)
 text: ∀q,q ∈ d.2.2→(textF q.W q.H q.ink).length≤1048576
 stein: ∀alt,InI64 (diffF steinK d.1.W d.1.H d.1.ink alt).2.1
 plain: ∀alt,InI64 (diffF plainK d.1.W d.1.H d.1.ink alt).2.1
theorem pic_mem {L:List PV} {k:Nat} (h:k<L.length):(pv L k).pic ∈ picsV L:=List.mem_of_getElem? (picsV_lt L k h)
def performs:List (Nat × Nat):=[(122,246),(106,243),(108,244),(113,245),(129,247)]
def CmdV (v:Value) (F:Dat→Dat × List UInt8) (w0 w:World):Prop:=
 ∃ T h p,(T,h) ∈ performs∧v= .iface T p∧ ∀B g D,PerfIn w B g D→B≤w0.heap.size→g<w0.heap.size→(∀b,D.blocks b→b<w0.heap.size)→BdD D.dat→
   Calls Tryz.prog h #[p, .pointer (some ⟨g,0,none⟩)] w (PerfOut B g D F w)
theorem DiffBox.below {kb ab g kn:Nat} {ks:List Prt} {alt:Bool} {w v:World} (h:DiffBox kb ab g kn ks alt w) (hb:Below w.heap.size w v):DiffBox kb ab g kn ks alt v:=⟨h.1.below' hb,h.2.1.below' hb,h.2.2.below hb h.2.2.lt⟩
theorem cmd_diffuse {kb ab g kn:Nat} {ks:List Prt} {alt:Bool} {w0 w:World} (h:DiffBox kb ab g kn ks alt w) (hk:ks.length=kn) (hk4:kn≤4) (hb: ∀D:Dsk,BdD D.dat→InI64 (diffF ks D.P.W D.P.H D.P.ink alt).2.1):CmdV (diffV kb ab) (actPlate (diffT ks alt)) w0 w:=by
 refine ⟨_,244,_,by simp [performs],rfl,fun B g2 D hin _ _ _ hbd=>?_⟩
 refine perf_plate _ _ (diffT ks alt) w B g2 D hin (enters5 _ _ _ Tryz.func100 (by kernel_rfl) rfl) (by have:=hbd.n4;rw [show D.dat.2.2.length=D.n by rw [show D.dat.2.2=picsV D.ps from rfl,picsV_len];exact hin.own.s.len] at this;exact this) (fun v hv=>?_)
 have h2:=h.below hv.out
 have q0:v.cell? ⟨kb,0,none⟩=some (.slice (some ⟨g,0,none⟩) kn kn):=h2.1.cell 0
 have q1:v.cell? ⟨ab,0,none⟩=some (.bool alt):=h2.2.1.cell 0
 exact plate_diffuse kb ab kn kn _ ks alt D v (hin.below hv.out).own.rd hin.small (hin.below hv.out).laid q0 q1 h2.1.lt h2.2.1.lt hk h2.2.2.rd (by omega) (Nat.le_refl _) (hb D hbd)
theorem cmd_change {bx f:Nat} {F:Pic→Pic} {w0 w:World} (h:ChgBox bx f w) (eh: ∀args w,(callFunc f args).run Tryz.prog w= .ok (.enter f args) w)
   (hc: ∀(q:PV) (v:World),q.ink.length=q.n→Rd v q.a q.ink→q.n≤1048576→q.n≤q.c→Calls Tryz.prog f #[.agg #[.int .i64 q.W, .int .i64 q.H, .slice q.a q.n q.c]] v (PicOut v (F q.pic))):CmdV (chgV bx) (actLast (changeT F)) w0 w:=by
 refine ⟨_,245,_,by simp [performs],rfl,fun B g2 D hin _ _ _ hbd=>?_⟩
 refine perf_last _ _ (changeT F) w B g2 D hin (enters5 _ _ _ Tryz.func103 (by kernel_rfl) rfl) (fun k r hk hr v hv=>?_)
 have h2:ChgBox bx f v:=Blk.below' h hv.out
 have q0:v.cell? ⟨bx,0,none⟩=some (.func (.func f) #[] #[]):=Blk.cell h2 0
 refine told_change f bx F k r v B g2 D (hin.below hv.out) hk hr eh q0 (Blk.lt h2) (fun u hu=>?_)
 obtain ⟨c0,c1,c2,ln,rd,sm,cp⟩:=((hin.below hv.out).below hu.out).last hk hr
 exact hc _ u ln rd sm cp
theorem cmd_told {h:Nat} {F:Dat→Pic→Dat × List UInt8} {w0 w:World} (eh: ∀args w,(callFunc h args).run Tryz.prog w= .ok (.enter h args) w)
   (hc: ∀(k r:Nat) (v:World) (B g:Nat) (D:Dsk),PerfIn v B g D→BdD D.dat→D.n=k+1→D.a=some ⟨r,0,none⟩→(pv D.ps k).pic ∈ D.dat.2.2→Calls Tryz.prog h #[.pointer (some ⟨g,0,none⟩), .pointer (some ⟨r,k*3,none⟩)] v (PerfOut B g D (fun d=>F d (pv D.ps k).pic) v)):CmdV (fnV 113 h) (actLast F) w0 w:=by
 refine ⟨_,245,_,by simp [performs],rfl,fun B g2 D hin _ _ _ hbd=>?_⟩
 refine perf_last _ _ F w B g2 D hin eh (fun k r hk hr v hv=>?_)
 exact hc k r v B g2 D (hin.below hv.out) hbd hk hr (pic_mem (by rw [hin.own.s.len,hk];omega))
theorem pic_size {W H m:Int} {xs:List Int} (h:picOk W H xs m=true):1≤xs.length∧xs.length≤1024∧within xs m=true∧1≤W∧W≤64∧1≤H∧H≤64:=by
 obtain ⟨hs,hq,hw⟩:=picOk_bd rfl h
 have h1:=hs
 unfold sizeOk at h1
 simp only [Bool.and_eq_true,decide_eq_true_eq] at h1
 have:=mul_bd W H (by omega) (by omega) (by omega) (by omega)
 exact ⟨by omega,by omega,hw,by omega,by omega,by omega,by omega⟩
theorem isum_fits {xs:List Int} (h:within xs 255=true):0≤isum xs∧isum xs≤255*(xs.length:Int):=by
 have:=isum_take_bd h xs.length
 rwa [List.take_length] at this
theorem div_fits {a:Int} {g:Nat} {M:Int} (h0:0≤a) (h1:a≤M):0≤a/(g:Int)∧a/(g:Int)≤M:=
 ⟨Int.ediv_nonneg h0 (by omega),Int.le_trans (Int.ediv_le_self _ h0) h1⟩
theorem mean_fits (W H:Int) (xs:List Int):InI64 (meanF W H xs).1∧InI64 (meanF W H xs).2:=by
 by_cases h:picOk W H xs 255=true
 · obtain ⟨h1,h2,hw,_⟩:=pic_size h
   have hs:=isum_fits hw
   unfold meanF
   rw [if_pos h]
   have a:=div_fits (g:=Nat.gcd (isum xs).toNat xs.length) hs.1 hs.2
   have b:=div_fits (a:=(xs.length:Int)) (g:=Nat.gcd (isum xs).toNat xs.length) (M:=4096) (by omega) (by omega)
   unfold InI64
   constructor <;>(dsimp only;omega)
 · rw [meanF_no h];unfold InI64;constructor <;>(dsimp only;omega)
theorem err_fits (W H:Int) (xs:List Int) (W' H':Int) (ys:List Int) (hx:picOk W H xs 255=true):InI64 (errF W H xs W' H' ys):=by
 by_cases h:pairOk W H xs W' H' ys=true∧picOk W' H' ys 1=true
 · obtain ⟨a1,a2,aw,_⟩:=pic_size hx
   obtain ⟨b1,b2,bw,_⟩:=pic_size h.2
   rw [errF_yes rfl h.1 h.2]
   have hl:ys.length≤xs.length:=by
     have hp:=h.1
     unfold pairOk at hp
     simp only [Bool.and_eq_true,decide_eq_true_eq] at hp
     have e1:=(picOk_bd rfl hx).2.1
     have e2:=(picOk_bd rfl h.2).2.1
     obtain ⟨rfl,rfl⟩:W=W'∧H=H':=by omega
     omega
   have:=errS_bd aw bw hl ys.length (Nat.le_refl _)
   unfold InI64;omega
 · rw [errF_no h];unfold InI64;omega
theorem counts_fits (L:List Pic):(markCountsF L).length≤4096∧ ∀x,x ∈ markCountsF L→InI64 x:=by
 unfold markCountsF
 split
 · rename_i h
   obtain ⟨h1,h2,h3⟩:=stack_bd h
   have hp:=pic_size (h3 0 (by omega)).1
   constructor
   · rw [gen_len]
     have:2^L.length≤2^4:=Nat.pow_le_pow_right (by omega) h2
     omega
   · intro x hx
     unfold gen at hx
     simp only [List.mem_map] at hx
     obtain ⟨r,_,rfl⟩:=hx
     have:=cntI_bd (markG L) r ((L.getD 0 noPic).ink.length)
     unfold InI64;omega
 · simp
theorem runs_sum: ∀(r:List Int),(∀v,v ∈ r→1≤v)→(r.length:Int)≤isum r∧ ∀v,v ∈ r→v≤isum r
 | [],_=>by simp [isum]
 | a::r,h=>by
   obtain ⟨h1,h2⟩:=runs_sum r (fun v hv=>h v (List.mem_cons_of_mem _ hv))
   have ha:=h a (List.mem_cons_self ..)
   have e:isum (a::r)=a+isum r:=by rw [show a::r=[a]++r from rfl,isum_append];simp [isum]
   rw [e]
   refine ⟨by simp only [List.length_cons];omega,fun v hv=>?_⟩
   rcases List.mem_cons.1 hv with rfl | hv
   · omega
   · have:=h2 v hv;omega
theorem runs_fits (W H:Int) (xs:List Int):(runsF W H xs).length≤4096∧ ∀x,x ∈ runsF W H xs→InI64 x:=by
 unfold runsF
 split
 · rename_i h
   obtain ⟨h1,h2,hw,_⟩:=pic_size h
   have hx: ∀k,k<xs.length→xs.getD k 0=0∨xs.getD k 0=1:=by
     intro k hk
     unfold within at hw
     rw [List.all_eq_true] at hw
     have:=hw (xs.getD k 0) (by rw [List.getD_eq_getElem?_getD,List.getElem?_eq_getElem hk];exact List.getElem_mem hk)
     simp only [Bool.and_eq_true,decide_eq_true_eq] at this
     omega
   obtain ⟨ho,hs⟩:=runsG_ok hx
   have hnn: ∀v,v ∈ runsG xs→0≤v:=by
     intro v hv
     cases hr:runsG xs with
     | nil=>rw [hr] at hv;cases hv
     | cons a r=>
       rw [hr] at hv ho
       simp only [runsOk,Bool.and_eq_true,decide_eq_true_eq,List.all_eq_true] at ho
       rcases List.mem_cons.1 hv with rfl | hv
       · exact ho.1
       · have:=ho.2 v hv;omega
   have hl:=spell_len hnn 0
   rw [hs] at hl
   cases hr:runsG xs with
   | nil=>simp
   | cons a r=>
     rw [hr] at ho hl
     simp only [runsOk,Bool.and_eq_true,decide_eq_true_eq,List.all_eq_true] at ho
     obtain ⟨q1,q2⟩:=runs_sum r ho.2
     have e:isum (a::r)=a+isum r:=by rw [show a::r=[a]++r from rfl,isum_append];simp [isum]
     rw [e] at hl
     refine ⟨by simp only [List.length_cons];omega,fun v hv=>?_⟩
     unfold InI64
     rcases List.mem_cons.1 hv with rfl | hv
     · omega
     · have:=q2 v hv;have:=ho.2 v hv;omega
 · simp
theorem diff_fits (ks:List Prt) (W H:Int) (xs:List Int) (alt:Bool):InI64 (diffF ks W H xs alt).2.1:=by
 by_cases h:kernOk ks=true∧picOk W H xs 255=true
 · rw [diffF_yes rfl h.1 h.2]
   have r:RunOk alt ks W H xs xs.length:=RunOk.of rfl h.1 h.2
   obtain ⟨_,_,_,_,h5,h6⟩:=run_val r xs.length (Nat.le_refl _) 0
   unfold InI64;dsimp only;omega
 · rw [diffF_no h];unfold InI64;dsimp only;omega
theorem text_fits (W H:Int) (xs:List Int):(textF W H xs).length≤1048576:=by
 unfold textF
 split
 · rename_i h
   obtain ⟨_,_,_,h1,h2,h3,h4⟩:=pic_size h
   rw [textG_len]
   have:(W.toNat+1)*H.toNat≤65*64:=Nat.mul_le_mul (by omega) (by omega)
   omega
 · simp
theorem bd_of {d:Dat} (h:deskOk d=true):BdD d:=by
 unfold deskOk at h
 simp only [Bool.and_eq_true,Bool.or_eq_true,decide_eq_true_eq] at h
 obtain ⟨⟨hp,hm⟩,hs⟩:=h
 refine ⟨?_,fun q _=>mean_fits _ _ _,fun q _=>runs_fits _ _ _,counts_fits _,fun q _=>err_fits _ _ _ _ _ _ hp,fun q _=>text_fits _ _ _,fun alt=>diff_fits _ _ _ _ _,fun alt=>diff_fits _ _ _ _ _⟩
 rcases hs with hs | ⟨hs,_⟩
 · omega
 · exact (stack_bd hs).2.1
end Go.Proofs.YtanccoopbgamdaaGreatDoor
