/-
  Contracts and plain facts on which the theorem of this claim rests, text 36.
-/
import Derived.Test.YtanccoopbgamdaaGreatDoorKC3
import Derived.Test.YtanccoopbgamdaaGreatDoorKC5
import Derived.Test.YtanccoopbgamdaaGreatDoorKC13
import Derived.Test.YtanccoopbgamdaaGreatDoorKC31
import Derived.Test.YtanccoopbgamdaaGreatDoorKC32
import Derived.Test.YtanccoopbgamdaaGreatDoorKC35
namespace Go.Proofs.YtanccoopbgamdaaGreatDoor
open Go.RowKit
set_option linter.unusedVariables false
set_option linter.unusedSimpArgs false
def Trip (a b c:Nat) (i:Nat):Prop:=i=a∨i=b∨i=c
def KeepL (S:Nat→Prop) (w v:World):Prop:=Hid (Keep6 S w v)
namespace KeepL
variable {S : Nat → Prop} {w v v' : World}
theorem out (h:KeepL S w v):Keep6 S w v:=Hid.out h
theorem mk (h:Keep6 S w v):KeepL S w v:=Lib.hid h
theorem start (S:Nat→Prop) (w:World):KeepL S w w.drew:=mk (Keep6.refl S w).drew
theorem call (h:KeepL S w v) (hq:Below v.heap.size v v'):KeepL S w v':=mk (h.out.call hq)
theorem trans (h:KeepL S w v) (hq:Keep6 S v v'):KeepL S w v':=mk (h.out.trans hq)
end KeepL
theorem FSt.other {w:World} {B f gi gc:Nat} {W H:Int} {n:Nat} {xs cs:List Int} (h:FSt w B f gi gc W H n xs cs) {a:Addr} (h1:a.block≠f) (h2:a.block≠gi) (h3:a.block≠gc) (u:Value):FSt (w.setCell a u) B f gi gc W H n xs cs:=
 ⟨h.hf,h.hi,h.hc,h.n1,h.n2,h.n3,h.box.other h1 u,h.ink.other h2 u,h.crowds.other h3 u⟩
set_option maxRecDepth 100000 in
set_option maxHeartbeats 1600000 in
theorem impl_RankField (W H:Int) (b off n cap:Nat) (xs:List Int) (w:World) (hn:xs.length=n) (ha:Rd w (some ⟨b,off,none⟩) xs) (hl:n≤1048576):
   Calls Tryz.prog 130 #[.agg #[.int .i64 W, .int .i64 H, .slice (some ⟨b,off,none⟩) n cap]] w (MatOut2 w (rankF W H xs)):=by
 have HN:=Lib.hid hn
 have HA:=Lib.hid ha
 clear hn ha
 go_enter Tryz.func130,Tryz.ntmps130
 go_wp2_with fail
 have KP:=Lib.hid ((Blk.new w 27 #[.int .i64 W, .int .i64 H, .slice (some ⟨b,off,none⟩) n cap]).alloc (.cells #[.int .i64 0, .int .i64 0, .slice none 0 0] 31))
 have KZ:=Lib.hid (Blk.new' (g:=w.heap.size+1) (w:=w.alloc (.cells #[.int .i64 W, .int .i64 H, .slice (some ⟨b,off,none⟩) n cap] 27)) 31 #[.int .i64 0, .int .i64 0, .slice none 0 0] (by simp))
 have HB:=Lib.hid (bAlloc (bAlloc (Below.refl w.heap.size w) (.cells #[.int .i64 W, .int .i64 H, .slice (some ⟨b,off,none⟩) n cap] 27)) (.cells #[.int .i64 0, .int .i64 0, .slice none 0 0] 31))
 have RP:=Lib.hid ((HA.out.alloc (.cells #[.int .i64 W, .int .i64 H, .slice (some ⟨b,off,none⟩) n cap] 27)).alloc (.cells #[.int .i64 0, .int .i64 0, .slice none 0 0] 31))
 obtain ⟨wo,hwo⟩: ∃wo:World,wo=(w.alloc (.cells #[.int .i64 W, .int .i64 H, .slice (some ⟨b,off,none⟩) n cap] 27)).alloc (.cells #[.int .i64 0, .int .i64 0, .slice none 0 0] 31):=⟨_,rfl⟩
 have ZO:Hid (wo.heap.size=w.heap.size+1+1):=Lib.hid (by rw [hwo];simp)
 rw [←hwo] at KP KZ HB RP⊢
 clear hwo
 obtain ⟨l0,o0,o1,o2⟩:=KP.out.c3
 refine (impl_IsField W H _ n cap xs _ HN.out (by exact RP.out) (by omega)).mono ?_
 rintro e w4 ⟨rfl,hb⟩
 have KP:=Lib.hid (KP.out.below' hb)
 have KZ:=Lib.hid (KZ.out.below' hb)
 have RP:=Lib.hid (RP.out.below hb)
 have HB:=Lib.hid (bTrans HB.out hb)
 have ZB:Hid (w.heap.size+1<w4.heap.size):=Lib.hid (by have:=hb.size;have:=ZO.out;omega)
 clear hb l0 o0 o1 o2
 by_cases hok:fieldOk W H xs=true
 case neg=>
   have ER:Hid (rankF W H xs=(noMat,false)):=Lib.hid (by unfold rankF;rw [if_neg hok])
   have hok2:fieldOk W H xs=false:=by simpa using hok
   rw [hok2]
   clear hok hok2
   obtain ⟨z0,r0,r1,r2⟩:=KZ.out.c3
   obtain ⟨f0,f1,f2⟩:=KZ.out.f3
   go_wp2_with fail
   exact bodyPost_ret (v:= .tuple #[.agg #[.int .i64 0, .int .i64 0, .slice none 0 0], .bool false]) (by simp [results,Tryz.results130,go_sem,r0,r1,r2]) rfl
     (by rw [ER.out];exact ⟨none,0,0,rfl,OwnA.none _ _,by omega,by first | exact HB.out | exact ((HB.out.setCell (by first | (simp;done) | (simp;omega)) _).setCell (by first | (simp;done) | (simp;omega)) _).setCell (by first | (simp;done) | (simp;omega)) _⟩)
 case pos=>
   have ER:Hid (rankF W H xs=(⟨W,H,ranksG W H xs⟩,true)):=Lib.hid (by unfold rankF;rw [if_pos hok])
   obtain ⟨b1,b2,b3,b4,b5,b6,b7,b8,b9⟩:=field_bd HN.out hok
   have B5:=Lib.hid b5
   have B8:=Lib.hid b8
   have B9:=Lib.hid b9
   clear b5 b8 b9
   have HOK:=Lib.hid hok
   have CC:Hid (sumF W H xs=(icount 1 xs:Int)):=Lib.hid (by
     unfold sumF
     rw [if_pos (picOk_le (by unfold fieldOk at hok;simp only [Bool.and_eq_true] at hok;exact hok.1))]
     exact isum_dots (dots_of B8.out))
   have dn:icount 1 xs≤n:=by rw [←HN.out];exact icount_le _ _
   obtain ⟨u,hu⟩: ∃u,n - icount 1 xs=u:=⟨_,rfl⟩
   have ER2:Hid (ranksG W H xs=(upG W H xs (icount 1 xs) (downG W H xs (icount 1 xs) (List.replicate n 0) (icount 1 xs)).2 u).2):=Lib.hid (by unfold ranksG;rw [HN.out,hu])
   have DI:=Lib.hid (fun k (hk:k≤icount 1 xs)=>down_inv HOK.out (List.replicate n 0) k hk)
   have UI:=Lib.hid (fun k (hk:icount 1 xs+k≤xs.length)=>up_inv HOK.out (icount 1 xs) (downG W H xs (icount 1 xs) (List.replicate n 0) (icount 1 xs)).2 k hk)
   obtain ⟨d,hd⟩: ∃d,icount 1 xs=d:=⟨_,rfl⟩
   rw [hd] at CC dn hu ER2 DI UI
   have HU:Hid (d+u=n):=Lib.hid (by omega)
   have HMS:Hid (matSize W H=true):=Lib.hid (matSize_mk b1 b3 (by rw [←B5.out];omega))
   rw [hok]
   clear hok hd hu
   obtain ⟨l0,o0,o1,o2⟩:=KP.out.c3
   go_wp2_with fail
   refine (impl_blankM W H n _ HMS.out B5.out).mono ?_
   rintro e w5 ⟨mg,rfl,hmg,hom,hb⟩
   have HG0:Hid (w.heap.size+1<mg∧mg<w5.heap.size):=Lib.hid ⟨by have:=ZB.out;omega,hom.lt⟩
   have KP:=Lib.hid ((KP.out.below' hb).alloc (.cells #[.int .i64 W, .int .i64 H, .slice (some ⟨mg,0,none⟩) n n] 31))
   have KZ:=Lib.hid ((KZ.out.below' hb).alloc (.cells #[.int .i64 W, .int .i64 H, .slice (some ⟨mg,0,none⟩) n n] 31))
   have RP:=Lib.hid ((RP.out.below hb).alloc (.cells #[.int .i64 W, .int .i64 H, .slice (some ⟨mg,0,none⟩) n n] 31))
   have HB:=Lib.hid (bAlloc (bTrans HB.out hb) (.cells #[.int .i64 W, .int .i64 H, .slice (some ⟨mg,0,none⟩) n n] 31))
   have KM:=Lib.hid (Blk.new w5 31 #[.int .i64 W, .int .i64 H, .slice (some ⟨mg,0,none⟩) n n])
   have HM:=Lib.hid (hom.alloc (.cells #[.int .i64 W, .int .i64 H, .slice (some ⟨mg,0,none⟩) n n] 31))
   obtain ⟨w6,hw6⟩: ∃w6,w6=w5.alloc (.cells #[.int .i64 W, .int .i64 H, .slice (some ⟨mg,0,none⟩) n n] 31):=⟨_,rfl⟩
   have Z6:Hid (w6.heap.size=w5.heap.size+1):=Lib.hid (by rw [hw6];simp)
   obtain ⟨mb,hmb⟩: ∃mb,mb=w5.heap.size:=⟨_,rfl⟩
   clear hmg hom hb l0 o0 o1 o2
   go_upto_region 4 with fail
   rw [←hw6] at KP KZ RP HB KM HM⊢
   rw [←hmb] at KM HG0 Z6⊢
   clear hw6 hmb
   obtain ⟨l0,o0,o1,o2⟩:=KP.out.c3
   have MK:Hid (∀v,BelowL w6 v→v.cell? ⟨w.heap.size,0,none⟩=some (.int .i64 W)∧v.cell? ⟨w.heap.size,1,none⟩=some (.int .i64 H)∧v.cell? ⟨w.heap.size,2,none⟩=some (.slice (some ⟨b,off,none⟩) n cap)∧BelowL w6 v):=Lib.hid (fun v hB=>⟨(hB.out.cell l0).trans o0,(hB.out.cell l0).trans o1,(hB.out.cell l0).trans o2,hB⟩)
   refine wp_region_held_drew (S:=fun v=>v.cell? ⟨w.heap.size,0,none⟩=some (.int .i64 W)∧v.cell? ⟨w.heap.size,1,none⟩=some (.int .i64 H)∧v.cell? ⟨w.heap.size,2,none⟩=some (.slice (some ⟨b,off,none⟩) n cap)∧BelowL w6 v) (by kernel_rfl) (MK.out _ (BelowL.start _)) ?_
   intro hHeld
   have hb0:=limb4 hHeld
   refine hTake 0 ?_
   refine hTake 2 ?_
   refine hTake 4 ?_
   refine hOne 1 (fun K hK=>?_)
   go_simp
   go_at_call 160
   ((with_reducible refine (impl_crowded W H _ n cap xs _ HN.out (by exact RP.out.below hb0.out) HOK.out).mono ?_);rintro e v1 ⟨f1,i1,c1,rfl,hf1,hq1⟩)
   have hb1:=BelowL.call hb0 hq1
   go_wp2_with fail
   refine hK.out _ _ (by (try dsimp only);exact MK.out _ hb1) (fun hHeld=>?_)
   clear hK K
   refine hOne 3 (fun K hK=>?_)
   go_simp
   go_at_call 160
   ((with_reducible refine (impl_crowded W H _ n cap xs _ HN.out (by exact RP.out.below hb1.out) HOK.out).mono ?_);rintro e v2 ⟨f2,i2,c2,rfl,hf2,hq2⟩)
   have hb2:=BelowL.call hb1 hq2
   go_wp2_with fail
   refine hK.out _ _ (by (try dsimp only);exact MK.out _ hb2) (fun hHeld=>?_)
   clear hK K
   refine hOne 5 (fun K hK=>?_)
   go_simp
   go_at_call 27
   ((with_reducible refine (impl_SumInk W H _ n cap xs _ HN.out (by exact RP.out.below hb2.out) (by omega)).mono ?_);rw [CC.out];rintro e v3 ⟨rfl,hq3⟩)
   have hb3:=BelowL.call hb2 hq3
   go_wp2_with fail
   refine hK.out _ _ (by (try dsimp only);exact MK.out _ hb3) (fun hHeld=>?_)
   clear hK K
   refine hTake 6 ?_
   refine hTake 7 ?_
   refine hTake 8 ?_
   refine wpAnyH_done (by kernel_rfl) ?_ _
   (try go_simp)
   have E1:Hid (FSt v3 w6.heap.size f1 i1 c1 W H n xs (gen n (crowdG W H xs))):=Lib.hid ((hf1.below hq2).below hq3)
   have E2:Hid (FSt v3 v1.heap.size f2 i2 c2 W H n xs (gen n (crowdG W H xs))):=Lib.hid (hf2.below hq3)
   have KP:=Lib.hid (KP.out.below' hb3.out)
   have KZ:=Lib.hid (KZ.out.below' hb3.out)
   have KM:=Lib.hid (KM.out.below' hb3.out)
   have HM:=Lib.hid (HM.out.below hb3.out HM.out.lt)
   have HB:=Lib.hid (bTrans HB.out hb3.out)
   have HG:Hid (w.heap.size+1<mg∧mg<mb∧mb<f1∧mb<i1∧mb<c1∧f1<v1.heap.size∧i1<v1.heap.size∧c1<v1.heap.size∧v1.heap.size≤f2∧v1.heap.size≤i2∧v1.heap.size≤c2):=Lib.hid (by
     have z:=Z6.out
     have g:=HG0.out
     have l:=hf1.lts
     have a1:=E1.out.hf
     have a2:=E1.out.hi
     have a3:=E1.out.hc
     exact ⟨g.1,g.2,by omega,by omega,by omega,l.1,l.2.1,l.2.2,hf2.hf,hf2.hi,hf2.hc⟩)
   clear hf1 hf2 hq1 hq2 hq3 hb0 hb1 hb2 hb3 hHeld MK l0 o0 o1 o2
   obtain ⟨l0,o0,o1,o2⟩:=KP.out.c3
   go_wp2_with fail
   go_loopw [8] (fun s wr=> ∃(k:Nat) (L:Int),k≤d∧s= .int .i64 L∧Hid (L+k+1=d)∧-1≤L∧Hid (FSt wr w6.heap.size f1 i1 c1 W H n (downG W H xs d (List.replicate n 0) k).1 (gen n (crowdG W H (downG W H xs d (List.replicate n 0) k).1)))∧Hid (Own wr mg n n (downG W H xs d (List.replicate n 0) k).2)∧Hid (Keep6 (Trip i1 c1 mg) v3 wr)) (fun s _=>(intOf s+1).toNat)
   case atStart=>exact ⟨0,(d:Int) - 1,Nat.zero_le _,rfl,Lib.hid (by omega),by omega,E1,HM,Lib.hid (Keep6.refl _ _)⟩
   case round=>
     clear E1 HM
     obtain ⟨k,L,hk,rfl,HL,hL1,E1,HM,HK⟩:=hrel
     by_cases hlt:0≤L
     · have hk1:k<d:=by have:=HL.out;omega
       have hLd:L<d:=by have:=HL.out;omega
       obtain ⟨F1,F2,F3,F4⟩:=DI.out k (by omega)
       obtain ⟨i,j1,j2,j3⟩:=tight_some (W:=W) (H:=H) (xs:=(downG W H xs d (List.replicate n 0) k).1) (by omega)
       have DE:Hid (downG W H xs d (List.replicate n 0) (k+1)=((downG W H xs d (List.replicate n 0) k).1.set i (1 - 1),(downG W H xs d (List.replicate n 0) k).2.set i L)):=Lib.hid (by
         rw [downG,flipT,j1,show (d:Int) - 1 - k=L by have:=HL.out;omega]
         rfl)
       have hin:i<n:=by rw [F2,HN.out] at j2;exact j2
       have HF1:=Lib.hid F1
       have HJ:=Lib.hid (And.intro j1 (And.intro j2 j3))
       clear F1 F2 F3 F4 j1 j2 j3
       obtain ⟨cur,hcur⟩: ∃c,(downG W H xs d (List.replicate n 0) k).1=c:=⟨_,rfl⟩
       obtain ⟨rk,hrk⟩: ∃c,(downG W H xs d (List.replicate n 0) k).2=c:=⟨_,rfl⟩
       rw [hcur] at E1 HF1 HJ DE
       rw [hrk] at HM DE
       clear hcur hrk
       have KMr:=Lib.hid (HK.out.blk KM.out (by have:=HG.out;unfold Trip;omega))
       have MK:Hid (∀v,KeepL (Trip i1 c1 mg) wr v→v.cell? ⟨mb,2,none⟩=some (.slice (some ⟨mg,0,none⟩) n n)∧KeepL (Trip i1 c1 mg) wr v):=Lib.hid (fun v hB=>⟨by rw [(hB.out.blk KMr.out (by have:=HG.out;unfold Trip;omega)).cell];rfl,hB⟩)
       go_upto_region 8 with fail
       refine wp_region_T 7 (fun v=>v.cell? ⟨mb,2,none⟩=some (.slice (some ⟨mg,0,none⟩) n n)∧KeepL (Trip i1 c1 mg) wr v) (by kernel_rfl) (MK.out _ (KeepL.start _ _)) ?_
       intro hHeld
       have hb0:=limb2 hHeld
       have HJ1:Hid (bestTo cur 1 (fun j=>keyT (crowdG W H cur j)) cur.length=i):=Lib.hid HJ.out.1
       refine tTake 0 ?_
       refine tTake 1 ?_
       refine tTake 2 ?_
       refine tTake 5 ?_
       refine tOne 3 (fun K hK=>?_)
       go_simp
       go_at_call 163
       ((with_reducible refine (impl_tightest _).mono ?_);rintro e x1 ⟨rfl,hq1⟩)
       have hb1:=KeepL.call hb0 hq1
       go_wp2_with fail
       refine hK.out _ _ (fun _=>by (try dsimp only);exact MK.out _ hb1) (fun hH2=>?_)
       clear hK K hHeld
       have hHeld:=hH2 (by decide)
       have EA:Hid (FSt x1 w6.heap.size f1 i1 c1 W H n cur (gen n (crowdG W H cur))):=Lib.hid (E1.out.below (below_undrew hq1))
       have HMA:=Lib.hid (HM.out.below (below_undrew hq1) HM.out.lt)
       refine tOne 4 (fun K hK=>?_)
       go_simp
       go_at_call 162
       ((with_reducible refine (impl_flip 199 keyT 1 (Or.inr rfl) entT ordT EA.out HF1.out i HJ1.out HJ.out.2.1 HJ.out.2.2).mono ?_);rintro e x2 ⟨rfl,he2,hk2⟩)
       have hb2:=KeepL.trans hb1 (hk2.mono (fun a ha=>by unfold Duo at ha;unfold Trip;omega))
       go_wp2_with fail
       refine hK.out _ _ (fun _=>by (try dsimp only);exact MK.out _ hb2) (fun hH3=>?_)
       clear hK K hHeld
       have hHeld:=hH3 (by decide)
       have HM2:=Lib.hid (hk2.own HMA.out (by have:=HG.out;unfold Duo;omega))
       have EE2:=Lib.hid (he2.other (a:=⟨mg,i,none⟩) (by have:=HG.out;simp;omega) (by have:=HG.out;simp;omega) (by have:=HG.out;simp;omega) (.int .i64 L))
       have HKK:=Lib.hid (HK.out.trans hb2.out)
       have g1:=HM2.out.cell hin
       have g2:=HM2.out.frozen i
       clear he2 hk2
       refine tTake 6 ?_
       refine tOne 7 (fun K hK=>?_)
       go_simp
       refine hK.out _ _ (fun h=>absurd h (by decide)) (fun hH4=>?_)
       clear hK K hH4 hH3 hH2 hHeld
       refine wpAnyT_done (by kernel_rfl) ?_ _
       (try go_simp)
       go_wp2_with fail
       go_roundw
       case rel=>exact ⟨k+1,L - 1,by omega,by go_num,Lib.hid (by have:=HL.out;push_cast;omega),by omega,Lib.hid (by rw [DE.out];exact EE2.out),Lib.hid (by rw [DE.out];exact HM2.out.set i L),Lib.hid (HKK.out.set (Or.inr (Or.inr rfl)) _)⟩
       case measure=>simp [intOf];omega
     · obtain rfl:k=d:=by have:=HL.out;omega
       have hL0:L<0:=by omega
       obtain ⟨RK,hRK⟩: ∃R,(downG W H xs k (List.replicate n 0) k).2=R:=⟨_,rfl⟩
       rw [hRK] at HM ER2 UI
       have KM:=Lib.hid (HK.out.blk KM.out (by have:=HG.out;unfold Trip;omega))
       have KP:=Lib.hid (HK.out.blk KP.out (by have:=HG.out;unfold Trip;omega))
       have KZ:=Lib.hid (HK.out.blk KZ.out (by have:=HG.out;unfold Trip;omega))
       have E2:=Lib.hid (E2.out.keep HK.out (by have:=HG.out;unfold Trip;omega) (by have:=HG.out;unfold Trip;omega) (by have:=HG.out;unfold Trip;omega))
       have HB:=Lib.hid (HB.out.trans (HK.out.below (B:=w.heap.size) (fun i hi=>by have:=HG.out;unfold Trip at hi;omega) HB.out.size))
       clear hRK E1 HK hlt l0 o0 o1 o2
       go_wp2_with fail
       go_loopw [9] (fun s wz=> ∃(q:Nat) (L:Int),q≤u∧s= .int .i64 L∧Hid (L=(k:Int)+q)∧0≤L∧Hid (FSt wz v1.heap.size f2 i2 c2 W H n (upG W H xs k RK q).1 (gen n (crowdG W H (upG W H xs k RK q).1)))∧Hid (Own wz mg n n (upG W H xs k RK q).2)∧Hid (Keep6 (Trip i2 c2 mg) wr wz)) (fun s _=>n - (intOf s).toNat)
       case atStart=>exact ⟨0,(k:Int),Nat.zero_le _,rfl,Lib.hid (by omega),by omega,E2,HM,Lib.hid (Keep6.refl _ _)⟩
       case round=>
         clear E2 HM
         obtain ⟨q,L,hq,rfl,HL,hL1,E2,HM,HK⟩:=hrel
         have KPr:=Lib.hid (HK.out.blk KP.out (by have:=HG.out;unfold Trip;omega))
         obtain ⟨l0,o0,o1,o2⟩:=KPr.out.c3
         by_cases hlt:L<n
         · have hk1:q<u:=by have:=HL.out;have:=HU.out;omega
           obtain ⟨F1,F2,F3,F4⟩:=UI.out q (by have:=HU.out;rw [HN.out];omega)
           obtain ⟨i,j1,j2,j3⟩:=wide_some (W:=W) (H:=H) (xs:=(upG W H xs k RK q).1) (dots_of (field_bd rfl F1).2.2.2.2.2.2.2.1) (by rw [F2,HN.out];have:=HU.out;omega)
           have DE:Hid (upG W H xs k RK (q+1)=((upG W H xs k RK q).1.set i (1 - 0),(upG W H xs k RK q).2.set i L)):=Lib.hid (by
             rw [upG,flipW,j1,show (k:Int)+q=L by have:=HL.out;omega]
             rfl)
           have hin:i<n:=by rw [F2,HN.out] at j2;exact j2
           have HF1:=Lib.hid F1
           have HJ:=Lib.hid (And.intro j1 (And.intro j2 j3))
           clear F1 F2 F3 F4 j1 j2 j3
           obtain ⟨cur,hcur⟩: ∃c,(upG W H xs k RK q).1=c:=⟨_,rfl⟩
           obtain ⟨rk,hrk⟩: ∃c,(upG W H xs k RK q).2=c:=⟨_,rfl⟩
           rw [hcur] at E2 HF1 HJ DE
           rw [hrk] at HM DE
           clear hcur hrk
           have KMr:=Lib.hid (HK.out.blk KM.out (by have:=HG.out;unfold Trip;omega))
           have MK:Hid (∀v,KeepL (Trip i2 c2 mg) wr v→v.cell? ⟨mb,2,none⟩=some (.slice (some ⟨mg,0,none⟩) n n)∧KeepL (Trip i2 c2 mg) wr v):=Lib.hid (fun v hB=>⟨by rw [(hB.out.blk KMr.out (by have:=HG.out;unfold Trip;omega)).cell];rfl,hB⟩)
           go_upto_region 12 with fail
           refine wp_region_T 7 (fun v=>v.cell? ⟨mb,2,none⟩=some (.slice (some ⟨mg,0,none⟩) n n)∧KeepL (Trip i2 c2 mg) wr v) (by kernel_rfl) (MK.out _ (KeepL.start _ _)) ?_
           intro hHeld
           have hb0:=limb2 hHeld
           have HJ1:Hid (bestTo cur 0 (fun j=>keyW (crowdG W H cur j)) cur.length=i):=Lib.hid HJ.out.1
           refine tTake 0 ?_
           refine tTake 1 ?_
           refine tTake 2 ?_
           refine tTake 5 ?_
           refine tOne 3 (fun K hK=>?_)
           go_simp
           go_at_call 164
           ((with_reducible refine (impl_widest _).mono ?_);rintro e x1 ⟨rfl,hq1⟩)
           have hb1:=KeepL.call hb0 hq1
           go_wp2_with fail
           refine hK.out _ _ (fun _=>by (try dsimp only);exact MK.out _ hb1) (fun hH2=>?_)
           clear hK K hHeld
           have hHeld:=hH2 (by decide)
           have EA:Hid (FSt x1 v1.heap.size f2 i2 c2 W H n cur (gen n (crowdG W H cur))):=Lib.hid (E2.out.below (below_undrew hq1))
           have HMA:=Lib.hid (HM.out.below (below_undrew hq1) HM.out.lt)
           refine tOne 4 (fun K hK=>?_)
           go_simp
           go_at_call 162
           ((with_reducible refine (impl_flip 127 keyW 0 (Or.inl rfl) entW ordW EA.out HF1.out i HJ1.out HJ.out.2.1 HJ.out.2.2).mono ?_);rintro e x2 ⟨rfl,he2,hk2⟩)
           have hb2:=KeepL.trans hb1 (hk2.mono (fun a ha=>by unfold Duo at ha;unfold Trip;omega))
           go_wp2_with fail
           refine hK.out _ _ (fun _=>by (try dsimp only);exact MK.out _ hb2) (fun hH3=>?_)
           clear hK K hHeld
           have hHeld:=hH3 (by decide)
           have HM2:=Lib.hid (hk2.own HMA.out (by have:=HG.out;unfold Duo;omega))
           have EE2:=Lib.hid (he2.other (a:=⟨mg,i,none⟩) (by have:=HG.out;simp;omega) (by have:=HG.out;simp;omega) (by have:=HG.out;simp;omega) (.int .i64 L))
           have HKK:=Lib.hid (HK.out.trans hb2.out)
           have g1:=HM2.out.cell hin
           have g2:=HM2.out.frozen i
           clear he2 hk2
           refine tTake 6 ?_
           refine tOne 7 (fun K hK=>?_)
           go_simp
           refine hK.out _ _ (fun h=>absurd h (by decide)) (fun hH4=>?_)
           clear hK K hH4 hH3 hH2 hHeld
           refine wpAnyT_done (by kernel_rfl) ?_ _
           (try go_simp)
           go_wp2_with fail
           go_roundw
           case rel=>exact ⟨q+1,L+1,by omega,by go_num,Lib.hid (by have:=HL.out;push_cast;omega),by omega,Lib.hid (by rw [DE.out];exact EE2.out),Lib.hid (by rw [DE.out];exact HM2.out.set i L),Lib.hid (HKK.out.set (Or.inr (Or.inr rfl)) _)⟩
           case measure=>simp [intOf];omega
         · obtain rfl:q=u:=by have:=HL.out;have:=HU.out;omega
           have hnl:(n:Int)≤L:=by omega
           have KM:=Lib.hid (HK.out.blk KM.out (by have:=HG.out;unfold Trip;omega))
           have KZ:=Lib.hid (HK.out.blk KZ.out (by have:=HG.out;unfold Trip;omega))
           have HB:=Lib.hid (HB.out.trans (HK.out.below (B:=w.heap.size) (fun i hi=>by have:=HG.out;unfold Trip at hi;omega) HB.out.size))
           obtain ⟨z0,r0,r1,r2⟩:=KZ.out.c3
           obtain ⟨f0,f1,f2⟩:=KZ.out.f3
           obtain ⟨lm,m0,m1,m2⟩:=KM.out.c3
           clear hlt
           go_wp2_with fail
           exact bodyPost_ret (v:= .tuple #[.agg #[.int .i64 W, .int .i64 H, .slice (some ⟨mg,0,none⟩) n n], .bool true]) (by simp [results,Tryz.results130,go_sem,r0,r1,r2]) rfl
             (by
               rw [ER.out]
               refine ⟨_,_,_,rfl,OwnA.mk (g:=mg) ?_ (by have:=HG.out;omega),by omega,?_⟩
               · show Own _ mg n n (ranksG W H xs)
                 rw [ER2.out]
                 exact ((HM.out.other (by have:=HG.out;simp;omega) _).other (by have:=HG.out;simp;omega) _).other (by have:=HG.out;simp;omega) _
               · exact ((HB.out.setCell (by first | (simp;done) | (simp;omega)) _).setCell (by first | (simp;done) | (simp;omega)) _).setCell (by first | (simp;done) | (simp;omega)) _)
def rankedF (W H x:Int):Mat × Bool:=if (seedF W H x).2=true then rankF (evenF (seedF W H x).1.W (seedF W H x).1.H (seedF W H x).1.ink 64).1.W (evenF (seedF W H x).1.W (seedF W H x).1.H (seedF W H x).1.ink 64).1.H (evenF (seedF W H x).1.W (seedF W H x).1.H (seedF W H x).1.ink 64).1.ink else (noMat,false)
theorem seed_pos {W H x:Int} (h:(seedF W H x).2=true):0<(seedF W H x).1.ink.length:=by
 unfold seedF at h⊢
 split at h
 · rename_i hs
   rw [if_pos hs]
   have:=(toNat_mul hs.1).1
   have h1:sizeOk W H=true:=hs.1
   have h2:0<(W*H).toNat:=by
     have:=mul_bd W H (by simp [sizeOk] at h1;omega) (by simp [sizeOk] at h1;omega) (by simp [sizeOk] at h1;omega) (by simp [sizeOk] at h1;omega)
     omega
   simpa [gen_len] using h2
 · simp at h
theorem even_pos {W H m:Int} {xs:List Int} (h:0<xs.length):0<(evenF W H xs m).1.ink.length:=by
 unfold evenF
 split
 · show 0<(evenG W H m.toNat xs).1.length
   rw [even_len];exact h
 · exact h
set_option maxRecDepth 100000 in
set_option maxHeartbeats 1600000 in
theorem impl_rankedSeed (W H x:Int) (w:World):Calls Tryz.prog 96 #[.int .i64 W, .int .i64 H, .int .i64 x] w (MatOut2 w (rankedF W H x)):=by
 have HB0:=Lib.hid (bAlloc (Below.refl w.heap.size w) (.cells #[.int .i64 0, .int .i64 0, .slice none 0 0] 31))
 have KM0:=Lib.hid (Blk.new w 31 #[.int .i64 0, .int .i64 0, .slice none 0 0])
 go_enter Tryz.func96,Tryz.ntmps96
 go_wp2_with fail
 refine (impl_SeedField W H x _).mono ?_
 rintro e w1 ⟨a1,n1,k1,rfl,ho,hn1,hb⟩
 have HB1:=Lib.hid (bTrans HB0.out hb)
 have KM1:=Lib.hid (KM0.out.below' hb)
 have HO1:=Lib.hid ho
 have HL:Hid (w.heap.size<w1.heap.size):=Lib.hid (by have:=hb.size;(try simp at this);omega)
 clear hb ho
 by_cases hs:(seedF W H x).2=true
 case neg=>
   have hs2:(seedF W H x).2=false:=by simpa using hs
   have E:Hid (rankedF W H x=(noMat,false)):=Lib.hid (by unfold rankedF;rw [if_neg hs])
   rw [hs2]
   have KM2:=Lib.hid (KM1.out.alloc (.cells #[.int .i64 (seedF W H x).1.W, .int .i64 (seedF W H x).1.H, .slice a1 n1 k1] 27))
   obtain ⟨r0,r1,r2,r3⟩:=KM2.out.c3
   obtain ⟨q0,q1,q2⟩:=KM2.out.f3
   go_wp2_with fail
   rw [E.out]
   exact bodyPost_ret (v:= .tuple #[.agg #[.int .i64 0, .int .i64 0, .slice none 0 0], .bool false]) (by simp [results,Tryz.results96,go_sem,r1,r2,r3]) rfl
     ⟨none,0,0,rfl,OwnA.none _ _,by omega,
       (((bAlloc HB1.out _).setCell (by first | (simp;done) | (simp;omega)) _).setCell (by first | (simp;done) | (simp;omega)) _).setCell (by first | (simp;done) | (simp;omega)) _⟩
 have E:Hid (rankedF W H x=rankF (evenF (seedF W H x).1.W (seedF W H x).1.H (seedF W H x).1.ink 64).1.W (evenF (seedF W H x).1.W (seedF W H x).1.H (seedF W H x).1.ink 64).1.H (evenF (seedF W H x).1.W (seedF W H x).1.H (seedF W H x).1.ink 64).1.ink):=Lib.hid (by unfold rankedF;rw [if_pos hs])
 obtain ⟨b,off,rfl,hbl,hbc⟩:=HO1.out.rd.at (seed_pos hs)
 have P0:=Lib.hid (seed_pos hs)
 clear hbl hbc
 rw [hs]
 obtain ⟨pW,hpW⟩: ∃v,v=(seedF W H x).1.W:=⟨_,rfl⟩
 obtain ⟨pH,hpH⟩: ∃v,v=(seedF W H x).1.H:=⟨_,rfl⟩
 obtain ⟨xs,hxs⟩: ∃v,v=(seedF W H x).1.ink:=⟨_,rfl⟩
 rw [←hpW,←hpH] at E⊢
 rw [←hxs] at E HO1 P0
 clear hpW hpH hxs hs
 have KP1:=Lib.hid (Blk.new w1 27 #[.int .i64 pW, .int .i64 pH, .slice (some ⟨b,off,none⟩) n1 k1])
 have HB2:=Lib.hid (bAlloc HB1.out (.cells #[.int .i64 pW, .int .i64 pH, .slice (some ⟨b,off,none⟩) n1 k1] 27))
 have KM2:=Lib.hid (KM1.out.alloc (.cells #[.int .i64 pW, .int .i64 pH, .slice (some ⟨b,off,none⟩) n1 k1] 27))
 have HO2:=Lib.hid (HO1.out.alloc (.cells #[.int .i64 pW, .int .i64 pH, .slice (some ⟨b,off,none⟩) n1 k1] 27))
 clear HB1 KM1 HO1
 go_wp2_with fail
 refine ((impl_EvenField pW pH b off n1 k1 xs 64 _ HO2.out.len (by exact HO2.out.rd) (by omega)).mono (fun e w' h=>h.out (by omega))).mono ?_
 rintro e w3 ⟨a2,n2,k2,rfl,ho,hn2,hb⟩
 have HB3:=Lib.hid (bTrans HB2.out hb)
 have KM3:=Lib.hid (KM2.out.below' hb)
 have HO3:=Lib.hid ho
 clear hb ho HB2 KM2 HO2 KP1
 obtain ⟨b2,off2,rfl,hbl,hbc⟩:=HO3.out.rd.at (even_pos P0.out)
 clear hbl hbc P0
 obtain ⟨qW,hqW⟩: ∃v,v=(evenF pW pH xs 64).1.W:=⟨_,rfl⟩
 obtain ⟨qH,hqH⟩: ∃v,v=(evenF pW pH xs 64).1.H:=⟨_,rfl⟩
 obtain ⟨qn,hqn⟩: ∃v,v=(evenF pW pH xs 64).2:=⟨_,rfl⟩
 obtain ⟨ys,hys⟩: ∃v,v=(evenF pW pH xs 64).1.ink:=⟨_,rfl⟩
 rw [←hqW,←hqH] at E⊢
 rw [←hqn]
 rw [←hys] at E HO3
 clear hqW hqH hys hqn
 go_wp2_with fail
 refine (impl_RankField qW qH b2 off2 n2 k2 ys _ (by exact HO3.out.len) (by exact (HO3.out.alloc _).rd) (by omega)).mono ?_
 rintro e w4 ⟨a3,n3,k3,rfl,ho,hn3,hb⟩
 have HB4:=Lib.hid (bTrans (bAlloc HB3.out (.cells #[.int .i64 qW, .int .i64 qH, .slice (some ⟨b2,off2,none⟩) n2 k2] 27)) hb)
 have KM4:=Lib.hid ((KM3.out.alloc (.cells #[.int .i64 qW, .int .i64 qH, .slice (some ⟨b2,off2,none⟩) n2 k2] 27)).below' hb)
 have HZ4:Hid (w.heap.size<w4.heap.size):=Lib.hid KM4.out.lt
 have HB5:Hid (w.heap.size+1≤w3.heap.size):=Lib.hid KM3.out.lt
 have HO4:=Lib.hid ho
 clear hb ho KM3 HB3 HO3
 obtain ⟨r0,r1,r2,r3⟩:=KM4.out.c3
 obtain ⟨q0,q1,q2⟩:=KM4.out.f3
 go_wp2_with fail
 rw [E.out]
 have hz:=HB5.out
 exact bodyPost_ret (v:= .tuple #[.agg #[.int .i64 (rankF qW qH ys).1.W, .int .i64 (rankF qW qH ys).1.H, .slice a3 n3 k3], .bool (rankF qW qH ys).2]) (by simp [results,Tryz.results96,go_sem,r1,r2,r3]) rfl
   ⟨a3,n3,k3,rfl,OwnA.mono (((HO4.out.otherT (fun e=>by have:=HO4.out.bd _ e;simp at this;omega) _).otherT (fun e=>by have:=HO4.out.bd _ e;simp at this;omega) _).otherT (fun e=>by have:=HO4.out.bd _ e;simp at this;omega) _) (by simp;omega),hn3,
     ((HB4.out.setCell (by first | (simp;done) | (simp;omega)) _).setCell (by first | (simp;done) | (simp;omega)) _).setCell (by first | (simp;done) | (simp;omega)) _⟩
set_option maxRecDepth 100000 in
set_option maxHeartbeats 1600000 in
theorem num_rank (na:Option Addr) (nc:Nat) (x y z:Int) (w:World) (hr:Rd w na [x,y,z]):
   Calls Tryz.prog 67 #[.string ⟨#[114,97,110,107]⟩, .slice na 3 nc] w (GivenOut w (rankedF x y z).1):=by
 obtain ⟨w0,hw0⟩: ∃v,v=w.alloc (.cells #[.slice na 3 nc] 25):=⟨_,rfl⟩
 have HB0:Hid (Below w.heap.size w w0):=Lib.hid (by rw [hw0];exact bAlloc (Below.refl w.heap.size w) (.cells #[.slice na 3 nc] 25))
 obtain ⟨b,off,hae,hbl,hbc⟩:=(hr.below HB0.out).at (by simp)
 subst hae
 have q0:=hbc 0 (by simp)
 have q1:=hbc 1 (by simp)
 have q2:=hbc 2 (by simp)
 rw [show [x,y,z].getD 0 0=x from rfl,Nat.add_zero] at q0
 rw [show [x,y,z].getD 1 0=y from rfl] at q1
 rw [show [x,y,z].getD 2 0=z from rfl] at q2
 have p0:w0.cell? ⟨w.heap.size,0,none⟩=some (.slice (some ⟨b,off,none⟩) 3 nc):=by rw [hw0];exact (Blk.new w 25 #[.slice (some ⟨b,off,none⟩) 3 nc]).cell 0
 have l0:w.heap.size<w0.heap.size:=by rw [hw0];simp
 clear hr hbc
 go_enter Tryz.func67,Tryz.ntmps67
 go_wp2_with fail
 rw [←hw0]
 clear hw0
 have MK:Hid (∀v,BelowL w0 v→v.cell? ⟨w.heap.size,0,none⟩=some (.slice (some ⟨b,off,none⟩) 3 nc)∧v.cell? ⟨b,off,none⟩=some (.int .i64 x)∧v.cell? ⟨b,off+1,none⟩=some (.int .i64 y)∧v.cell? ⟨b,off+2,none⟩=some (.int .i64 z)∧BelowL w0 v):=Lib.hid (fun v h=>⟨(h.out.cell l0).trans p0,(h.out.cell hbl).trans q0,(h.out.cell hbl).trans q1,(h.out.cell hbl).trans q2,h⟩)
 go_region_held3 (fun v=>v.cell? ⟨w.heap.size,0,none⟩=some (.slice (some ⟨b,off,none⟩) 3 nc)∧v.cell? ⟨b,off,none⟩=some (.int .i64 x)∧v.cell? ⟨b,off+1,none⟩=some (.int .i64 y)∧v.cell? ⟨b,off+2,none⟩=some (.int .i64 z)∧BelowL w0 v)
   (first | exact MK.out _ hb2 | exact MK.out _ hb1 | exact MK.out _ (BelowL.start _))
   (first
     | (go_at_call 96;((with_reducible refine (impl_rankedSeed _ _ _ _).mono ?_);rintro e v1 ⟨a1,n1,k1,rfl,ho1,hn1,hq1⟩;have hb1:=BelowL.call (limb5 (by assumption)) hq1))
     | (go_at_call 93;((with_reducible refine (impl_matrixOrNone _ _ a1 n1 k1 _ _).mono ?_);rintro e v2 ⟨rfl,rfl⟩;have hb2:=BelowL.alloc hb1 (.cells #[.int .i64 (rankedF x y z).1.W, .int .i64 (rankedF x y z).1.H, .slice a1 n1 k1] 31))))
 go_wp2_with fail
 go_ret2
 exact ⟨v1.heap.size,a1,n1,k1,rfl,Blk.new _ _ _,OwnA.mono (ho1.alloc _) (by have:=hb1.le;have:=HB0.out.size;(try simp at*);omega),hn1,bTrans HB0.out hb2.out⟩
structure NoForm (l:List UInt8) (n:Nat):Prop where
 flat:l=[102,108,97,116]→n≠3
 ramp:l=[114,97,109,112]→n≠2
 bayer:l=[98,97,121,101,114]→n≠1
 spiral:l=[115,112,105,114,97,108]→n≠1
 spot:l=[115,112,111,116]→n≠2
 rank:l=[114,97,110,107]→n≠3
 shift:l=[115,104,105,102,116]→n≠2
 level:l=[108,101,118,101,108]→n≠1
set_option maxRecDepth 100000 in
set_option maxHeartbeats 1600000 in
theorem num_none (s:ByteArray) (na:Option Addr) (n nc:Nat) (w:World) (hf:NoForm s.toList n):
   Calls Tryz.prog 67 #[.string s, .slice na n nc] w fun e w'=>e= .returned (.tuple #[.nilIface, .bool false])∧w'=w.alloc (.cells #[.slice na n nc] 25):=by
 have HF:=Lib.hid hf
 clear hf
 go_enter Tryz.func67,Tryz.ntmps67
 go_wp2_with fail
 all_goals first
   | (exfalso;have:=HF.out.flat (by assumption);omega)
   | (exfalso;have:=HF.out.ramp (by assumption);omega)
   | (exfalso;have:=HF.out.bayer (by assumption);omega)
   | (exfalso;have:=HF.out.spiral (by assumption);omega)
   | (exfalso;have:=HF.out.spot (by assumption);omega)
   | (exfalso;have:=HF.out.rank (by assumption);omega)
   | (exfalso;have:=HF.out.shift (by assumption);omega)
   | (exfalso;have:=HF.out.level (by assumption);omega)
   | (go_ret2;exact ⟨rfl,rfl⟩)
end Go.Proofs.YtanccoopbgamdaaGreatDoor
