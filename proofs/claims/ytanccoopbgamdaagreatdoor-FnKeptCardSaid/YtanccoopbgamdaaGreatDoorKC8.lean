/-
  Contracts and plain facts on which the theorem of this claim rests, text 8.
-/
import Derived.Test.YtanccoopbgamdaaGreatDoorKC5
namespace Go.Proofs.YtanccoopbgamdaaGreatDoor
open Go.RowKit
set_option linter.unusedVariables false
set_option linter.unusedSimpArgs false
attribute [local go_sem ↓] Go.wp_at_zero Go.wp_at_succ
def qraw (a b:Int):Int:=wrap64 (wrap64 (2*bits BinOp.xor IntKind.i64 a b)+b)
theorem impl_qraw (a b:Int) (w:World):
   Calls Tryz.prog 45 #[.int .i64 a, .int .i64 b] w fun e w'=>e= .returned (.int .i64 (qraw a b))∧w=w':=by
 go_enter Tryz.func45,Tryz.ntmps45
 go_wp2
 go_ret
 exact ⟨rfl,rfl⟩
theorem qraw_quarter {a b:Int} (h1:0≤a) (h2:a≤1) (h3:0≤b) (h4:b≤1):qraw a b=quarter a b:=by
 by_cases ha:a=0
 · subst ha
   by_cases hb:b=0
   · subst hb;decide+kernel
   · obtain rfl:b=1:=by omega
     decide+kernel
 · obtain rfl:a=1:=by omega
   by_cases hb:b=0
   · subst hb;decide+kernel
   · obtain rfl:b=1:=by omega
     decide+kernel
theorem half_bd {x W:Int} (hW:1≤W) (h0:0≤x) (h1:x<2*W):0≤x/W∧x/W≤1:=by
 constructor
 · exact Int.ediv_nonneg h0 (by omega)
 · have:x/W<2:=Int.ediv_lt_of_lt_mul (by omega) (by omega)
   omega
theorem dbl_xy {W H:Int} {n k:Nat} (hn:(n:Int)=W*H) (hW:1≤W) (hH:1≤H) (hk:k<4*n):
   0≤(k:Int) % (2*W)∧(k:Int) % (2*W)<2*W∧0≤(k:Int)/(2*W)∧(k:Int)/(2*W)<2*H∧(k:Int)/(2*W)≤k:=by
 refine ⟨Int.emod_nonneg _ (by omega),Int.emod_lt_of_pos _ (by omega),Int.ediv_nonneg (by omega) (by omega),?_,Int.ediv_le_self _ (by omega)⟩
 refine Int.ediv_lt_of_lt_mul (by omega) ?_
 have e:2*H*(2*W)=4*(W*H):=by
   rw [Int.mul_assoc,Int.mul_left_comm H 2 W,←Int.mul_assoc,Int.mul_comm H W];rfl
 rw [e,←hn]
 omega
theorem dbl_size {W H:Int} {n:Nat} (hn:(n:Int)=W*H) (hW:1≤W) (hH:1≤H) (hm:4*n≤256):matSize (2*W) (2*H)=true∧((4*n:Nat):Int)=2*W*(2*H)∧W≤64∧H≤64:=by
 have e:2*W*(2*H)=4*(W*H):=by
   rw [Int.mul_assoc,Int.mul_left_comm W 2 H,←Int.mul_assoc];rfl
 have e1:W*1≤W*H:=Int.mul_le_mul_of_nonneg_left hH (by omega)
 have e2:1*H≤W*H:=Int.mul_le_mul_of_nonneg_right hW (by omega)
 refine ⟨matSize_mk (by omega) (by omega) (by rw [e];omega),by rw [e];omega,by omega,by omega⟩
set_option maxHeartbeats 1600000 in
theorem impl_doubled (W H:Int) (ad:Option Addr) (n cap:Nat) (xs:List Int) (w:World) (hn:xs.length=n) (ha:Rd w ad xs) (hq:(n:Int)=W*H) (b1:1≤W) (b3:1≤H) (hm4:4*n≤256) (hi:inR xs n=true):
   Calls Tryz.prog 22 #[.agg #[.int .i64 W, .int .i64 H, .slice ad n cap]] w (MatOut w (dblM ⟨W,H,xs⟩)):=by
 have HN:=Lib.hid hn
 have HA:=Lib.hid ha
 clear hn ha
 have HQ:=Lib.hid hq
 have HI:=Lib.hid hi
 obtain ⟨hs2,hq2,b2,b4⟩:=dbl_size hq b1 b3 hm4
 have HS2:=Lib.hid hs2
 obtain ⟨m,hm⟩: ∃m:Nat,m=4*n:=⟨_,rfl⟩
 have HQ2:Hid ((m:Int)=2*W*(2*H)):=Lib.hid (by rw [hm];exact hq2)
 have hm1:m≤256:=by omega
 have HM:Hid (m=4*n):=Lib.hid hm
 have e0:dblM ⟨W,H,xs⟩=⟨2*W,2*H,gen m (dblG W H xs)⟩:=by unfold dblM;simp only [HN.out];rw [HM.out]
 rw [e0]
 have hn2:n≤64:=by omega
 clear e0 hq hi hs2 hq2 hm
 go_enter Tryz.func22,Tryz.ntmps22
 go_wp2_with fail
 refine (impl_blankM (2*W) (2*H) m _ HS2.out HQ2.out).mono ?_
 rintro e w2 ⟨g,rfl,hg,ho,hb⟩
 have HB2:=Lib.hid ((Joins.below_alloc2 _ _ _).trans (hb.mono (by simp;omega)))
 have KP2:=Lib.hid (((Blk.new w 31 #[.int .i64 W, .int .i64 H, .slice ad n cap]).alloc _).below' hb)
 have KR2:Hid (Blk w2 (w.heap.size+1) 31 #[.int .i64 0, .int .i64 0, .slice none 0 0]):=by
   have h:=(Blk.new (w.alloc (.cells #[.int .i64 W, .int .i64 H, .slice ad n cap] 31)) 31 #[.int .i64 0, .int .i64 0, .slice none 0 0]).below' hb
   exact Lib.hid (by simpa using h)
 have HO:=Lib.hid ho
 have HG:Hid (w.heap.size+1+1≤g):=Lib.hid (by simpa using hg)
 clear hb ho hg
 go_wp2_with fail
 go_loopw [17] (fun i wr=> ∃k:Nat,k≤m∧i= .int .i64 k∧Own wr g m m (filled (gen m (dblG W H xs)) (List.replicate m 0) k)∧(w2.alloc (.cells #[.int .i64 (2*W), .int .i64 (2*H), .slice (some ⟨g,0,none⟩) m m] 31)).grownBy wr (some g)) (fun i _=>m - (intOf i).toNat)
 case atStart=>exact ⟨0,Nat.zero_le _,rfl,by rw [filled_zero];exact HO.out.alloc _,grown_refl _ _⟩
 case round=>
   obtain ⟨k,hk,rfl,ho,hg⟩:=hrel
   have HBr:=Lib.hid ((HB2.out.alloc HB2.out.size _).grown hg (by have:=HB2.out.size;simp;omega) (by intro k hk;cases hk;have:=HG.out;omega))
   have KO:=Lib.hid ((Blk.new w2 31 #[.int .i64 (2*W), .int .i64 (2*H), .slice (some ⟨g,0,none⟩) m m]).grown hg (by have:=HO.out.lt;simp;omega))
   obtain ⟨l0,o0,o1,o2⟩:=KO.out.c3
   have KP:=Lib.hid ((KP2.out.alloc _).grown hg (by have:=HG.out;have:=KP2.out.lt;simp;omega))
   obtain ⟨l9,p0,p1,p2⟩:=KP.out.c3
   by_cases hlt:k<m
   · obtain ⟨x0,x1,y0,y1,y2⟩:=dbl_xy HQ.out b1 b3 (by have:=HM.out;omega:k<4*n)
     obtain ⟨a0,a1⟩:=half_bd b1 x0 x1
     obtain ⟨c0,c1⟩:=half_bd b3 y0 y1
     obtain ⟨r0,r1⟩:=rankOf_bd HN.out HQ.out b1 b3 HI.out ((k:Int) % (2*W)) ((k:Int)/(2*W))
     obtain ⟨q0,q1⟩:=quarter_bd ((k:Int) % (2*W)/W) ((k:Int)/(2*W)/H)
     have g2:wr.cell? ⟨g,k,none⟩=some (.int .i64 ((filled (gen m (dblG W H xs)) (List.replicate m 0) k).getD k 0)):=ho.cell hlt
     have g3:wr.frozen? ⟨g,k,none⟩=false:=ho.frozen k
     have gl:=ho.lt
     have HO4:=Lib.hid ho
     clear ho
     have N1:g≠w.heap.size:=by have:=HG.out;omega
     have N2:g≠w2.heap.size:=by have:=HO.out.lt;omega
     have hW1: ¬2*W=0:=by omega
     have hW2: ¬W=0:=by omega
     have hH2: ¬H=0:=by omega
     have hW0:(W==0)=false:=by simp;omega
     have hH0:(H==0)=false:=by simp;omega
     go_wp2_with fail
     go_quiet (fail)
     go_wp2_with fail
     go_region_held3 (fun v=>v.cell? ⟨w.heap.size,0,none⟩=some (.int .i64 W)∧v.cell? ⟨w.heap.size,1,none⟩=some (.int .i64 H)∧v.cell? ⟨w.heap.size,2,none⟩=some (.slice ad n cap)∧v.cell? ⟨w2.heap.size,2,none⟩=some (.slice (some ⟨g,0,none⟩) m m))
       (first | exact ⟨p0,p1,p2,o2⟩ | exact ⟨(hq1.cell l9).trans p0,(hq1.cell l9).trans p1,(hq1.cell l9).trans p2,(hq1.cell l0).trans o2⟩ | exact ⟨cell_far z0 N1,cell_far z1 N1,cell_far z2 N1,cell_far z3 N2⟩)
       (first
         | (go_at_call 44;((with_reducible refine (impl_wrappedRank W H ad n cap xs _ _ _ HN.out (by exact (HA.out.below HBr.out).of_heap rfl) HQ.out b1 b3 (by omega) (by omega) (by omega)).mono ?_);rintro e v1 ⟨rfl,hq1⟩;have z0:=(hq1.cell l9).trans p0;have z1:=(hq1.cell l9).trans p1;have z2:=(hq1.cell l9).trans p2;have z3:=(hq1.cell l0).trans o2;have t2:=(hq1.cell gl).trans g2;have t3:=(hq1.frozen gl).trans g3))
         | (go_at_call 45;((with_reducible refine (impl_qraw _ _ _).mono ?_);rintro e v9 ⟨rfl,rfl⟩)))
     go_wp2_with fail
     go_roundw
     case rel=>
       have hq5:Below wr.heap.size wr v1:=⟨hq1.os,hq1.tape,hq1.output,hq1.size,hq1.block⟩
       have hv:(gen m (dblG W H xs)).getD k 0=wrap64 (4*rankOf W H xs ((k:Int) % (2*W)) ((k:Int)/(2*W))+qraw ((k:Int) % (2*W)/W) ((k:Int)/(2*W)/H)):=by
         rw [gen_get _ _ _ hlt,qraw_quarter a0 a1 c0 c1,IntWalk.wrap64_in _ (by omega)];rfl
       have hs:=(HO4.out.below hq5 gl).set k (wrap64 (4*rankOf W H xs ((k:Int) % (2*W)) ((k:Int)/(2*W))+qraw ((k:Int) % (2*W)/W) ((k:Int)/(2*W)/H)))
       rw [filled_succ (gen m (dblG W H xs)) _ k _ (by rw [gen_len];exact hlt) (by simp;omega) hv] at hs
       exact ⟨k+1,by omega,by go_num,hs,grown_set (grown_trans hg (grown_of_below (row:=some g) hq5)) _⟩
     case measure=>simp [intOf];omega
   · obtain rfl:m=k:=by omega
     have KR:=Lib.hid ((KR2.out.alloc _).grown hg (by have:=HG.out;have:=KR2.out.lt;simp;omega))
     obtain ⟨r0,r1,r2,r3⟩:=KR.out.c3
     obtain ⟨q0,q1,q2⟩:=KR.out.f3
     rw [filled_at (gen m (dblG W H xs)) _ m (by rw [gen_len]) (by simp)] at ho
     have HO3:=Lib.hid ho
     clear ho
     go_wp2_with fail
     exact bodyPost_ret (v:= .agg #[.int .i64 (2*W), .int .i64 (2*H), .slice (some ⟨g,0,none⟩) m m]) (by simp [results,Tryz.results22,go_sem,r1,r2,r3]) rfl
       ⟨_,_,_,rfl,OwnA.mk (((HO3.out.other (by have:=HG.out;simp;omega) _).other (by have:=HG.out;simp;omega) _).other (by have:=HG.out;simp;omega) _) (by have:=HG.out;omega),by omega,
         ((HBr.out.setCell (by first | (simp;done) | (simp;omega)) _).setCell (by first | (simp;done) | (simp;omega)) _).setCell (by first | (simp;done) | (simp;omega)) _⟩
theorem div_lo {x W:Int} (h0:0≤x) (h1:x<W):x/W=0:=Int.ediv_eq_zero_of_lt h0 h1
theorem div_hi {x W:Int} (hW:1≤W) (h0:x<2*W) (h1: ¬x<W):x/W=1:=by
 have e1:1≤x/W:=(Int.le_ediv_iff_mul_le (by omega)).2 (by omega)
 have e2:x/W<2:=Int.ediv_lt_of_lt_mul (by omega) (by omega)
 omega
theorem quarter_00 {x y W H:Int} (hW:1≤W) (hH:1≤H) (x0:0≤x) (x1:x<W) (y0:0≤y) (y1:y<H):quarter (x/W) (y/H)=0:=by rw [div_lo x0 x1,div_lo y0 y1];rfl
theorem quarter_01 {x y W H:Int} (hW:1≤W) (hH:1≤H) (x0:0≤x) (x1:x<W) (y0:y<2*H) (y1: ¬y<H):quarter (x/W) (y/H)=3:=by rw [div_lo x0 x1,div_hi hH y0 y1];rfl
theorem quarter_10 {x y W H:Int} (hW:1≤W) (hH:1≤H) (x0:x<2*W) (x1: ¬x<W) (y0:0≤y) (y1:y<H):quarter (x/W) (y/H)=2:=by rw [div_hi hW x0 x1,div_lo y0 y1];rfl
theorem quarter_11 {x y W H:Int} (hW:1≤W) (hH:1≤H) (x0:x<2*W) (x1: ¬x<W) (y0:y<2*H) (y1: ¬y<H):quarter (x/W) (y/H)=1:=by rw [div_hi hW x0 x1,div_hi hH y0 y1];rfl
set_option maxHeartbeats 6400000 in
theorem spec_doubled (W H:Int) (ad:Option Addr) (n cap:Nat) (xs:List Int) (w:World) (hn:xs.length=n) (ha:Rd w ad xs) (hq:(n:Int)=W*H) (b1:1≤W) (b3:1≤H) (hm4:4*n≤256) (hi:inR xs n=true):
   Calls Tryz.prog 99 #[.agg #[.int .i64 W, .int .i64 H, .slice ad n cap]] w (MatOut w (dblM ⟨W,H,xs⟩)):=by
 have HN:=Lib.hid hn
 have HA:=Lib.hid ha
 clear hn ha
 have HQ:=Lib.hid hq
 have HI:=Lib.hid hi
 obtain ⟨hs2,hq2,b2,b4⟩:=dbl_size hq b1 b3 hm4
 have HS2:=Lib.hid hs2
 obtain ⟨m,hm⟩: ∃m:Nat,m=4*n:=⟨_,rfl⟩
 have HQ2:Hid ((m:Int)=2*W*(2*H)):=Lib.hid (by rw [hm];exact hq2)
 have hm1:m≤256:=by omega
 have HM:Hid (m=4*n):=Lib.hid hm
 have e0:dblM ⟨W,H,xs⟩=⟨2*W,2*H,gen m (dblG W H xs)⟩:=by unfold dblM;simp only [HN.out];rw [HM.out]
 rw [e0]
 have hn2:n≤64:=by omega
 clear e0 hq hi hs2 hq2 hm
 go_enter Tryz.func99,Tryz.ntmps99
 go_wp2_with fail
 go_loopw [4] (fun i wr=> ∃(k:Nat) (ad':Option Addr) (cap':Nat),k≤m∧i= .int .i64 k∧OwnA wr (w.heap.size+2+1) ad' k cap' (gen k (dblG W H xs))∧Blk wr (w.heap.size+2) 31 #[.int .i64 (2*W), .int .i64 (2*H), .slice ad' k cap']∧Below (w.heap.size+2) ((w.alloc (.cells #[.int .i64 W, .int .i64 H, .slice ad n cap] 31)).alloc (.cells #[.int .i64 0, .int .i64 0, .slice none 0 0] 31)) wr) (fun i _=>m - (intOf i).toNat)
 case atStart=>exact ⟨0,none,0,Nat.zero_le _,rfl,OwnA.none _ _,by first | exact Blk.new _ _ _ | exact Blk.new' _ _ (by simp),by first | exact Joins.below_alloc1 _ _ | exact (Below.refl _ _).alloc (by simp) _⟩
 case round=>
   obtain ⟨k,ad',cap',hk,rfl,ho,hb',hw'⟩:=hrel
   have HO:=Lib.hid ho
   have KB:=Lib.hid hb'
   have HW:=Lib.hid hw'
   obtain ⟨l0,o0,o1,o2⟩:=KB.out.c3
   clear ho hb' hw'
   have KP:=Lib.hid (((Blk.new w 31 #[.int .i64 W, .int .i64 H, .slice ad n cap]).alloc (.cells #[.int .i64 0, .int .i64 0, .slice none 0 0] 31)).below HW.out (by simp))
   obtain ⟨l9,s0,s1,s2⟩:=KP.out.c3
   have HBr:=Lib.hid ((Joins.below_alloc2 w _ _).trans (HW.out.mono (by simp)))
   by_cases hlt:k<m
   · have hlt2:(k:Int)<4*(n:Int):=by have:=HM.out;omega
     obtain ⟨x0,x1,y0,y1,y2⟩:=dbl_xy HQ.out b1 b3 (by have:=HM.out;omega:k<4*n)
     obtain ⟨r0,r1⟩:=rankOf_bd HN.out HQ.out b1 b3 HI.out ((k:Int) % (2*W)) ((k:Int)/(2*W))
     have hW2: ¬2*W=0:=by omega
     have NP:w.heap.size+2≠w.heap.size:=by omega
     have LP:w.heap.size<w.heap.size+2:=by omega
     by_cases hx:(k:Int) % (2*W)<W
     · by_cases hy:(k:Int)/(2*W)<H
       · have hqv:=Lib.hid (quarter_00 b1 b3 x0 hx y0 hy)
         go_wp2_with fail
         refine wp_region_held_drew (S:=fun v=>v.cell? ⟨w.heap.size,0,none⟩=some (.int .i64 W)∧v.cell? ⟨w.heap.size,1,none⟩=some (.int .i64 H)∧v.cell? ⟨w.heap.size,2,none⟩=some (.slice ad n cap)) (by kernel_rfl) ⟨s0,s1,s2⟩ ?_
         intro hHeld
         refine hTake 0 ?_
         refine hTake 2 ?_
         refine hTake 3 ?_
         refine hTake 4 ?_
         refine hTake 7 ?_
         refine wpAnyH_ready (rs:=[1,5]) (by kernel_rfl) (by simp) ?_
         refine AllReadyH.cons rfl (fun K hK=>?_) (AllReadyH.cons rfl (fun K hK=>?_) AllReadyH.nil)
         · go_simp
           refine hK.out _ _ ?_ (fun hHeld=>?_)
           · ((try dsimp only);first | exact ⟨s0,s1,s2⟩ | exact ⟨y0,y1,y2⟩ | exact ⟨cell_al y0,cell_al y1,cell_al y2⟩ | exact ⟨z0,z1,z2⟩ | exact ⟨cell_far z0 NP,cell_far z1 NP,cell_far z2 NP⟩)
           clear hK K
           refine hOne 5 (fun K hK=>?_)
           go_simp
           go_at_call 132
           ((with_reducible refine (spec_l2Rank W H ad n cap xs _ _ _ HN.out (by exact (HA.out.below HBr.out).of_heap rfl) HQ.out b1 b3 (by omega) (by omega) (by omega)).mono ?_);rintro e v1 ⟨rfl,hq1⟩)
           have y0:=(hq1.cell l9).trans s0
           have y1:=(hq1.cell l9).trans s1
           have y2:=(hq1.cell l9).trans s2
           have y3:=(hq1.cell l0).trans o2
           have HOv:=Lib.hid (HO.out.drew.below' hq1)
           have KBv:=Lib.hid (KB.out.drew.below' hq1)
           have lv:=KBv.out.lt
           go_wp2_with fail
           refine hK.out _ _ ?_ (fun hHeld=>?_)
           · ((try dsimp only);first | exact ⟨s0,s1,s2⟩ | exact ⟨y0,y1,y2⟩ | exact ⟨cell_al y0,cell_al y1,cell_al y2⟩ | exact ⟨z0,z1,z2⟩ | exact ⟨cell_far z0 NP,cell_far z1 NP,cell_far z2 NP⟩)
           clear hK K
           refine hTake 6 ?_
           refine hTake 8 ?_
           refine hOne 9 (fun K hK=>?_)
           go_simp
           refine hK.out _ _ ?_ (fun hHeld=>?_)
           · ((try dsimp only);first | exact ⟨s0,s1,s2⟩ | exact ⟨y0,y1,y2⟩ | exact ⟨cell_al y0,cell_al y1,cell_al y2⟩ | exact ⟨z0,z1,z2⟩ | exact ⟨cell_far z0 NP,cell_far z1 NP,cell_far z2 NP⟩)
           clear hK K
           refine hOne 10 (fun K hK=>?_)
           refine step_append _ (by rfl) (.tmp 65) (.tmp 73) (by rfl) (w.heap.size+2+1) k cap' ad' (gen k (dblG W H xs)) (by rfl) (HOv.out.alloc _) v1.heap.size _ (by rfl) (cell_new1 _ _ _) (by omega) (by have:=KBv.out.lt;simp;omega) ?_
           intro ad2 cap2 w5 ho5 hg5
           have KP5:=Lib.hid (app_blk HOv.out hg5 (KP.out.drew.below' hq1) (by omega))
           obtain ⟨l6,z0,z1,z2⟩:=KP5.out.c3
           have KB5:=Lib.hid (app_blk HOv.out hg5 KBv.out (by omega))
           obtain ⟨l5,t0,t1,t2⟩:=KB5.out.c3
           obtain ⟨f0,f1,f2⟩:=KB5.out.f3
           refine hK.out _ _ ?_ (fun hHeld=>?_)
           · ((try dsimp only);first | exact ⟨s0,s1,s2⟩ | exact ⟨y0,y1,y2⟩ | exact ⟨cell_al y0,cell_al y1,cell_al y2⟩ | exact ⟨z0,z1,z2⟩ | exact ⟨cell_far z0 NP,cell_far z1 NP,cell_far z2 NP⟩)
           clear hK K
           refine hTake 11 ?_
           refine hOne 12 (fun K hK=>?_)
           go_simp
           refine hK.out _ _ ?_ (fun hHeld=>?_)
           · ((try dsimp only);first | exact ⟨s0,s1,s2⟩ | exact ⟨y0,y1,y2⟩ | exact ⟨cell_al y0,cell_al y1,cell_al y2⟩ | exact ⟨z0,z1,z2⟩ | exact ⟨cell_far z0 NP,cell_far z1 NP,cell_far z2 NP⟩)
           clear hK K
           refine wpAnyH_done (by kernel_rfl) ?_ _
           have HWv:=Lib.hid (HW.out.trans ((below_undrew hq1).mono (by have:=KB.out.lt;have e0:wr.drew.heap.size=wr.heap.size:=rfl;omega)))
           have HW5:=Lib.hid (app_below HOv.out hg5 HWv.out (by omega) (by have:=KBv.out.lt;omega))
           have HO5:Hid (OwnA w5 (w.heap.size+2+1) ad2 (k+1) cap2 (gen (k+1) (dblG W H xs))):=Lib.hid (by rw [←gen_snoc];refine cast (congrArg (fun (v:Int)=>OwnA w5 (w.heap.size+2+1) ad2 (k+1) cap2 (gen k (dblG W H xs)++ [v])) ?_) ho5;(unfold dblG;rw [hqv.out,IntWalk.i64_in (4*rankOf W H xs ((k:Int) % (2*W)) ((k:Int)/(2*W))) (by omega),IntWalk.i64_in _ (by omega)];try omega))
           clear ho5 hg5
           go_wp2_with fail
           go_roundw
           case rel=>exact ⟨k+1,ad2,cap2,by omega,by go_num,HO5.out.other (by simp) _,by first | exact KB5.out.set 2 _ | (have h:=KB5.out.set 2 (.slice ad2 (k+1) cap2);simpa using h),HW5.out.setCell (by simp) _⟩
           case measure=>simp [intOf];omega
         · go_simp
           go_at_call 132
           ((with_reducible refine (spec_l2Rank W H ad n cap xs _ _ _ HN.out (by exact (HA.out.below HBr.out).of_heap rfl) HQ.out b1 b3 (by omega) (by omega) (by omega)).mono ?_);rintro e v1 ⟨rfl,hq1⟩)
           have y0:=(hq1.cell l9).trans s0
           have y1:=(hq1.cell l9).trans s1
           have y2:=(hq1.cell l9).trans s2
           have y3:=(hq1.cell l0).trans o2
           have HOv:=Lib.hid (HO.out.drew.below' hq1)
           have KBv:=Lib.hid (KB.out.drew.below' hq1)
           have lv:=KBv.out.lt
           go_wp2_with fail
           refine hK.out _ _ ?_ (fun hHeld=>?_)
           · ((try dsimp only);first | exact ⟨s0,s1,s2⟩ | exact ⟨y0,y1,y2⟩ | exact ⟨cell_al y0,cell_al y1,cell_al y2⟩ | exact ⟨z0,z1,z2⟩ | exact ⟨cell_far z0 NP,cell_far z1 NP,cell_far z2 NP⟩)
           clear hK K
           refine hTake 6 ?_
           refine hTake 8 ?_
           refine wpAnyH_ready (rs:=[1,9]) (by kernel_rfl) (by simp) ?_
           refine AllReadyH.cons rfl (fun K hK=>?_) (AllReadyH.cons rfl (fun K hK=>?_) AllReadyH.nil)
           · go_simp
             refine hK.out _ _ ?_ (fun hHeld=>?_)
             · ((try dsimp only);first | exact ⟨s0,s1,s2⟩ | exact ⟨y0,y1,y2⟩ | exact ⟨cell_al y0,cell_al y1,cell_al y2⟩ | exact ⟨z0,z1,z2⟩ | exact ⟨cell_far z0 NP,cell_far z1 NP,cell_far z2 NP⟩)
             clear hK K
             refine hOne 9 (fun K hK=>?_)
             go_simp
             refine hK.out _ _ ?_ (fun hHeld=>?_)
             · ((try dsimp only);first | exact ⟨s0,s1,s2⟩ | exact ⟨y0,y1,y2⟩ | exact ⟨cell_al y0,cell_al y1,cell_al y2⟩ | exact ⟨z0,z1,z2⟩ | exact ⟨cell_far z0 NP,cell_far z1 NP,cell_far z2 NP⟩)
             clear hK K
             refine hOne 10 (fun K hK=>?_)
             refine step_append _ (by rfl) (.tmp 65) (.tmp 73) (by rfl) (w.heap.size+2+1) k cap' ad' (gen k (dblG W H xs)) (by rfl) (HOv.out.alloc _) v1.heap.size _ (by rfl) (cell_new1 _ _ _) (by omega) (by have:=KBv.out.lt;simp;omega) ?_
             intro ad2 cap2 w5 ho5 hg5
             have KP5:=Lib.hid (app_blk HOv.out hg5 (KP.out.drew.below' hq1) (by omega))
             obtain ⟨l6,z0,z1,z2⟩:=KP5.out.c3
             have KB5:=Lib.hid (app_blk HOv.out hg5 KBv.out (by omega))
             obtain ⟨l5,t0,t1,t2⟩:=KB5.out.c3
             obtain ⟨f0,f1,f2⟩:=KB5.out.f3
             refine hK.out _ _ ?_ (fun hHeld=>?_)
             · ((try dsimp only);first | exact ⟨s0,s1,s2⟩ | exact ⟨y0,y1,y2⟩ | exact ⟨cell_al y0,cell_al y1,cell_al y2⟩ | exact ⟨z0,z1,z2⟩ | exact ⟨cell_far z0 NP,cell_far z1 NP,cell_far z2 NP⟩)
             clear hK K
             refine hTake 11 ?_
             refine hOne 12 (fun K hK=>?_)
             go_simp
             refine hK.out _ _ ?_ (fun hHeld=>?_)
             · ((try dsimp only);first | exact ⟨s0,s1,s2⟩ | exact ⟨y0,y1,y2⟩ | exact ⟨cell_al y0,cell_al y1,cell_al y2⟩ | exact ⟨z0,z1,z2⟩ | exact ⟨cell_far z0 NP,cell_far z1 NP,cell_far z2 NP⟩)
             clear hK K
             refine wpAnyH_done (by kernel_rfl) ?_ _
             have HWv:=Lib.hid (HW.out.trans ((below_undrew hq1).mono (by have:=KB.out.lt;have e0:wr.drew.heap.size=wr.heap.size:=rfl;omega)))
             have HW5:=Lib.hid (app_below HOv.out hg5 HWv.out (by omega) (by have:=KBv.out.lt;omega))
             have HO5:Hid (OwnA w5 (w.heap.size+2+1) ad2 (k+1) cap2 (gen (k+1) (dblG W H xs))):=Lib.hid (by rw [←gen_snoc];refine cast (congrArg (fun (v:Int)=>OwnA w5 (w.heap.size+2+1) ad2 (k+1) cap2 (gen k (dblG W H xs)++ [v])) ?_) ho5;(unfold dblG;rw [hqv.out,IntWalk.i64_in (4*rankOf W H xs ((k:Int) % (2*W)) ((k:Int)/(2*W))) (by omega),IntWalk.i64_in _ (by omega)];try omega))
             clear ho5 hg5
             go_wp2_with fail
             go_roundw
             case rel=>exact ⟨k+1,ad2,cap2,by omega,by go_num,HO5.out.other (by simp) _,by first | exact KB5.out.set 2 _ | (have h:=KB5.out.set 2 (.slice ad2 (k+1) cap2);simpa using h),HW5.out.setCell (by simp) _⟩
             case measure=>simp [intOf];omega
           · go_simp
             refine hK.out _ _ ?_ (fun hHeld=>?_)
             · ((try dsimp only);first | exact ⟨s0,s1,s2⟩ | exact ⟨y0,y1,y2⟩ | exact ⟨cell_al y0,cell_al y1,cell_al y2⟩ | exact ⟨z0,z1,z2⟩ | exact ⟨cell_far z0 NP,cell_far z1 NP,cell_far z2 NP⟩)
             clear hK K
             refine hOne 1 (fun K hK=>?_)
             go_simp
             refine hK.out _ _ ?_ (fun hHeld=>?_)
             · ((try dsimp only);first | exact ⟨s0,s1,s2⟩ | exact ⟨y0,y1,y2⟩ | exact ⟨cell_al y0,cell_al y1,cell_al y2⟩ | exact ⟨z0,z1,z2⟩ | exact ⟨cell_far z0 NP,cell_far z1 NP,cell_far z2 NP⟩)
             clear hK K
             refine hOne 10 (fun K hK=>?_)
             refine step_append _ (by rfl) (.tmp 65) (.tmp 73) (by rfl) (w.heap.size+2+1) k cap' ad' (gen k (dblG W H xs)) (by rfl) (HOv.out.alloc _) v1.heap.size _ (by rfl) (cell_new1 _ _ _) (by omega) (by have:=KBv.out.lt;simp;omega) ?_
             intro ad2 cap2 w5 ho5 hg5
             have KP5:=Lib.hid (app_blk HOv.out hg5 (KP.out.drew.below' hq1) (by omega))
             obtain ⟨l6,z0,z1,z2⟩:=KP5.out.c3
             have KB5:=Lib.hid (app_blk HOv.out hg5 KBv.out (by omega))
             obtain ⟨l5,t0,t1,t2⟩:=KB5.out.c3
             obtain ⟨f0,f1,f2⟩:=KB5.out.f3
             refine hK.out _ _ ?_ (fun hHeld=>?_)
             · ((try dsimp only);first | exact ⟨s0,s1,s2⟩ | exact ⟨y0,y1,y2⟩ | exact ⟨cell_al y0,cell_al y1,cell_al y2⟩ | exact ⟨z0,z1,z2⟩ | exact ⟨cell_far z0 NP,cell_far z1 NP,cell_far z2 NP⟩)
             clear hK K
             refine hTake 11 ?_
             refine hOne 12 (fun K hK=>?_)
             go_simp
             refine hK.out _ _ ?_ (fun hHeld=>?_)
             · ((try dsimp only);first | exact ⟨s0,s1,s2⟩ | exact ⟨y0,y1,y2⟩ | exact ⟨cell_al y0,cell_al y1,cell_al y2⟩ | exact ⟨z0,z1,z2⟩ | exact ⟨cell_far z0 NP,cell_far z1 NP,cell_far z2 NP⟩)
             clear hK K
             refine wpAnyH_done (by kernel_rfl) ?_ _
             have HWv:=Lib.hid (HW.out.trans ((below_undrew hq1).mono (by have:=KB.out.lt;have e0:wr.drew.heap.size=wr.heap.size:=rfl;omega)))
             have HW5:=Lib.hid (app_below HOv.out hg5 HWv.out (by omega) (by have:=KBv.out.lt;omega))
             have HO5:Hid (OwnA w5 (w.heap.size+2+1) ad2 (k+1) cap2 (gen (k+1) (dblG W H xs))):=Lib.hid (by rw [←gen_snoc];refine cast (congrArg (fun (v:Int)=>OwnA w5 (w.heap.size+2+1) ad2 (k+1) cap2 (gen k (dblG W H xs)++ [v])) ?_) ho5;(unfold dblG;rw [hqv.out,IntWalk.i64_in (4*rankOf W H xs ((k:Int) % (2*W)) ((k:Int)/(2*W))) (by omega),IntWalk.i64_in _ (by omega)];try omega))
             clear ho5 hg5
             go_wp2_with fail
             go_roundw
             case rel=>exact ⟨k+1,ad2,cap2,by omega,by go_num,HO5.out.other (by simp) _,by first | exact KB5.out.set 2 _ | (have h:=KB5.out.set 2 (.slice ad2 (k+1) cap2);simpa using h),HW5.out.setCell (by simp) _⟩
             case measure=>simp [intOf];omega
       · have hqv:=Lib.hid (quarter_01 b1 b3 x0 hx y1 hy)
         have hy':H≤(k:Int)/(2*W):=by omega
         clear hy
         go_wp2_with fail
         refine wp_region_held_drew (S:=fun v=>v.cell? ⟨w.heap.size,0,none⟩=some (.int .i64 W)∧v.cell? ⟨w.heap.size,1,none⟩=some (.int .i64 H)∧v.cell? ⟨w.heap.size,2,none⟩=some (.slice ad n cap)) (by kernel_rfl) ⟨s0,s1,s2⟩ ?_
         intro hHeld
         refine hTake 0 ?_
         refine hTake 2 ?_
         refine hTake 3 ?_
         refine hTake 4 ?_
         refine hTake 7 ?_
         refine wpAnyH_ready (rs:=[1,5]) (by kernel_rfl) (by simp) ?_
         refine AllReadyH.cons rfl (fun K hK=>?_) (AllReadyH.cons rfl (fun K hK=>?_) AllReadyH.nil)
         · go_simp
           refine hK.out _ _ ?_ (fun hHeld=>?_)
           · ((try dsimp only);first | exact ⟨s0,s1,s2⟩ | exact ⟨y0,y1,y2⟩ | exact ⟨cell_al y0,cell_al y1,cell_al y2⟩ | exact ⟨z0,z1,z2⟩ | exact ⟨cell_far z0 NP,cell_far z1 NP,cell_far z2 NP⟩)
           clear hK K
           refine hOne 5 (fun K hK=>?_)
           go_simp
           go_at_call 132
           ((with_reducible refine (spec_l2Rank W H ad n cap xs _ _ _ HN.out (by exact (HA.out.below HBr.out).of_heap rfl) HQ.out b1 b3 (by omega) (by omega) (by omega)).mono ?_);rintro e v1 ⟨rfl,hq1⟩)
           have y0:=(hq1.cell l9).trans s0
           have y1:=(hq1.cell l9).trans s1
           have y2:=(hq1.cell l9).trans s2
           have y3:=(hq1.cell l0).trans o2
           have HOv:=Lib.hid (HO.out.drew.below' hq1)
           have KBv:=Lib.hid (KB.out.drew.below' hq1)
           have lv:=KBv.out.lt
           go_wp2_with fail
           refine hK.out _ _ ?_ (fun hHeld=>?_)
           · ((try dsimp only);first | exact ⟨s0,s1,s2⟩ | exact ⟨y0,y1,y2⟩ | exact ⟨cell_al y0,cell_al y1,cell_al y2⟩ | exact ⟨z0,z1,z2⟩ | exact ⟨cell_far z0 NP,cell_far z1 NP,cell_far z2 NP⟩)
           clear hK K
           refine hTake 6 ?_
           refine hTake 8 ?_
           refine hOne 9 (fun K hK=>?_)
           go_simp
           refine hK.out _ _ ?_ (fun hHeld=>?_)
           · ((try dsimp only);first | exact ⟨s0,s1,s2⟩ | exact ⟨y0,y1,y2⟩ | exact ⟨cell_al y0,cell_al y1,cell_al y2⟩ | exact ⟨z0,z1,z2⟩ | exact ⟨cell_far z0 NP,cell_far z1 NP,cell_far z2 NP⟩)
           clear hK K
           refine hOne 10 (fun K hK=>?_)
           refine step_append _ (by rfl) (.tmp 65) (.tmp 73) (by rfl) (w.heap.size+2+1) k cap' ad' (gen k (dblG W H xs)) (by rfl) (HOv.out.alloc _) v1.heap.size _ (by rfl) (cell_new1 _ _ _) (by omega) (by have:=KBv.out.lt;simp;omega) ?_
           intro ad2 cap2 w5 ho5 hg5
           have KP5:=Lib.hid (app_blk HOv.out hg5 (KP.out.drew.below' hq1) (by omega))
           obtain ⟨l6,z0,z1,z2⟩:=KP5.out.c3
           have KB5:=Lib.hid (app_blk HOv.out hg5 KBv.out (by omega))
           obtain ⟨l5,t0,t1,t2⟩:=KB5.out.c3
           obtain ⟨f0,f1,f2⟩:=KB5.out.f3
           refine hK.out _ _ ?_ (fun hHeld=>?_)
           · ((try dsimp only);first | exact ⟨s0,s1,s2⟩ | exact ⟨y0,y1,y2⟩ | exact ⟨cell_al y0,cell_al y1,cell_al y2⟩ | exact ⟨z0,z1,z2⟩ | exact ⟨cell_far z0 NP,cell_far z1 NP,cell_far z2 NP⟩)
           clear hK K
           refine hTake 11 ?_
           refine hOne 12 (fun K hK=>?_)
           go_simp
           refine hK.out _ _ ?_ (fun hHeld=>?_)
           · ((try dsimp only);first | exact ⟨s0,s1,s2⟩ | exact ⟨y0,y1,y2⟩ | exact ⟨cell_al y0,cell_al y1,cell_al y2⟩ | exact ⟨z0,z1,z2⟩ | exact ⟨cell_far z0 NP,cell_far z1 NP,cell_far z2 NP⟩)
           clear hK K
           refine wpAnyH_done (by kernel_rfl) ?_ _
           have HWv:=Lib.hid (HW.out.trans ((below_undrew hq1).mono (by have:=KB.out.lt;have e0:wr.drew.heap.size=wr.heap.size:=rfl;omega)))
           have HW5:=Lib.hid (app_below HOv.out hg5 HWv.out (by omega) (by have:=KBv.out.lt;omega))
           have HO5:Hid (OwnA w5 (w.heap.size+2+1) ad2 (k+1) cap2 (gen (k+1) (dblG W H xs))):=Lib.hid (by rw [←gen_snoc];refine cast (congrArg (fun (v:Int)=>OwnA w5 (w.heap.size+2+1) ad2 (k+1) cap2 (gen k (dblG W H xs)++ [v])) ?_) ho5;(unfold dblG;rw [hqv.out,IntWalk.i64_in (4*rankOf W H xs ((k:Int) % (2*W)) ((k:Int)/(2*W))) (by omega),IntWalk.i64_in _ (by omega)];try omega))
           clear ho5 hg5
           go_wp2_with fail
           go_roundw
           case rel=>exact ⟨k+1,ad2,cap2,by omega,by go_num,HO5.out.other (by simp) _,by first | exact KB5.out.set 2 _ | (have h:=KB5.out.set 2 (.slice ad2 (k+1) cap2);simpa using h),HW5.out.setCell (by simp) _⟩
           case measure=>simp [intOf];omega
         · go_simp
           go_at_call 132
           ((with_reducible refine (spec_l2Rank W H ad n cap xs _ _ _ HN.out (by exact (HA.out.below HBr.out).of_heap rfl) HQ.out b1 b3 (by omega) (by omega) (by omega)).mono ?_);rintro e v1 ⟨rfl,hq1⟩)
           have y0:=(hq1.cell l9).trans s0
           have y1:=(hq1.cell l9).trans s1
           have y2:=(hq1.cell l9).trans s2
           have y3:=(hq1.cell l0).trans o2
           have HOv:=Lib.hid (HO.out.drew.below' hq1)
           have KBv:=Lib.hid (KB.out.drew.below' hq1)
           have lv:=KBv.out.lt
           go_wp2_with fail
           refine hK.out _ _ ?_ (fun hHeld=>?_)
           · ((try dsimp only);first | exact ⟨s0,s1,s2⟩ | exact ⟨y0,y1,y2⟩ | exact ⟨cell_al y0,cell_al y1,cell_al y2⟩ | exact ⟨z0,z1,z2⟩ | exact ⟨cell_far z0 NP,cell_far z1 NP,cell_far z2 NP⟩)
           clear hK K
           refine hTake 6 ?_
           refine hTake 8 ?_
           refine wpAnyH_ready (rs:=[1,9]) (by kernel_rfl) (by simp) ?_
           refine AllReadyH.cons rfl (fun K hK=>?_) (AllReadyH.cons rfl (fun K hK=>?_) AllReadyH.nil)
           · go_simp
             refine hK.out _ _ ?_ (fun hHeld=>?_)
             · ((try dsimp only);first | exact ⟨s0,s1,s2⟩ | exact ⟨y0,y1,y2⟩ | exact ⟨cell_al y0,cell_al y1,cell_al y2⟩ | exact ⟨z0,z1,z2⟩ | exact ⟨cell_far z0 NP,cell_far z1 NP,cell_far z2 NP⟩)
             clear hK K
             refine hOne 9 (fun K hK=>?_)
             go_simp
             refine hK.out _ _ ?_ (fun hHeld=>?_)
             · ((try dsimp only);first | exact ⟨s0,s1,s2⟩ | exact ⟨y0,y1,y2⟩ | exact ⟨cell_al y0,cell_al y1,cell_al y2⟩ | exact ⟨z0,z1,z2⟩ | exact ⟨cell_far z0 NP,cell_far z1 NP,cell_far z2 NP⟩)
             clear hK K
             refine hOne 10 (fun K hK=>?_)
             refine step_append _ (by rfl) (.tmp 65) (.tmp 73) (by rfl) (w.heap.size+2+1) k cap' ad' (gen k (dblG W H xs)) (by rfl) (HOv.out.alloc _) v1.heap.size _ (by rfl) (cell_new1 _ _ _) (by omega) (by have:=KBv.out.lt;simp;omega) ?_
             intro ad2 cap2 w5 ho5 hg5
             have KP5:=Lib.hid (app_blk HOv.out hg5 (KP.out.drew.below' hq1) (by omega))
             obtain ⟨l6,z0,z1,z2⟩:=KP5.out.c3
             have KB5:=Lib.hid (app_blk HOv.out hg5 KBv.out (by omega))
             obtain ⟨l5,t0,t1,t2⟩:=KB5.out.c3
             obtain ⟨f0,f1,f2⟩:=KB5.out.f3
             refine hK.out _ _ ?_ (fun hHeld=>?_)
             · ((try dsimp only);first | exact ⟨s0,s1,s2⟩ | exact ⟨y0,y1,y2⟩ | exact ⟨cell_al y0,cell_al y1,cell_al y2⟩ | exact ⟨z0,z1,z2⟩ | exact ⟨cell_far z0 NP,cell_far z1 NP,cell_far z2 NP⟩)
             clear hK K
             refine hTake 11 ?_
             refine hOne 12 (fun K hK=>?_)
             go_simp
             refine hK.out _ _ ?_ (fun hHeld=>?_)
             · ((try dsimp only);first | exact ⟨s0,s1,s2⟩ | exact ⟨y0,y1,y2⟩ | exact ⟨cell_al y0,cell_al y1,cell_al y2⟩ | exact ⟨z0,z1,z2⟩ | exact ⟨cell_far z0 NP,cell_far z1 NP,cell_far z2 NP⟩)
             clear hK K
             refine wpAnyH_done (by kernel_rfl) ?_ _
             have HWv:=Lib.hid (HW.out.trans ((below_undrew hq1).mono (by have:=KB.out.lt;have e0:wr.drew.heap.size=wr.heap.size:=rfl;omega)))
             have HW5:=Lib.hid (app_below HOv.out hg5 HWv.out (by omega) (by have:=KBv.out.lt;omega))
             have HO5:Hid (OwnA w5 (w.heap.size+2+1) ad2 (k+1) cap2 (gen (k+1) (dblG W H xs))):=Lib.hid (by rw [←gen_snoc];refine cast (congrArg (fun (v:Int)=>OwnA w5 (w.heap.size+2+1) ad2 (k+1) cap2 (gen k (dblG W H xs)++ [v])) ?_) ho5;(unfold dblG;rw [hqv.out,IntWalk.i64_in (4*rankOf W H xs ((k:Int) % (2*W)) ((k:Int)/(2*W))) (by omega),IntWalk.i64_in _ (by omega)];try omega))
             clear ho5 hg5
             go_wp2_with fail
             go_roundw
             case rel=>exact ⟨k+1,ad2,cap2,by omega,by go_num,HO5.out.other (by simp) _,by first | exact KB5.out.set 2 _ | (have h:=KB5.out.set 2 (.slice ad2 (k+1) cap2);simpa using h),HW5.out.setCell (by simp) _⟩
             case measure=>simp [intOf];omega
           · go_simp
             refine hK.out _ _ ?_ (fun hHeld=>?_)
             · ((try dsimp only);first | exact ⟨s0,s1,s2⟩ | exact ⟨y0,y1,y2⟩ | exact ⟨cell_al y0,cell_al y1,cell_al y2⟩ | exact ⟨z0,z1,z2⟩ | exact ⟨cell_far z0 NP,cell_far z1 NP,cell_far z2 NP⟩)
             clear hK K
             refine hOne 1 (fun K hK=>?_)
             go_simp
             refine hK.out _ _ ?_ (fun hHeld=>?_)
             · ((try dsimp only);first | exact ⟨s0,s1,s2⟩ | exact ⟨y0,y1,y2⟩ | exact ⟨cell_al y0,cell_al y1,cell_al y2⟩ | exact ⟨z0,z1,z2⟩ | exact ⟨cell_far z0 NP,cell_far z1 NP,cell_far z2 NP⟩)
             clear hK K
             refine hOne 10 (fun K hK=>?_)
             refine step_append _ (by rfl) (.tmp 65) (.tmp 73) (by rfl) (w.heap.size+2+1) k cap' ad' (gen k (dblG W H xs)) (by rfl) (HOv.out.alloc _) v1.heap.size _ (by rfl) (cell_new1 _ _ _) (by omega) (by have:=KBv.out.lt;simp;omega) ?_
             intro ad2 cap2 w5 ho5 hg5
             have KP5:=Lib.hid (app_blk HOv.out hg5 (KP.out.drew.below' hq1) (by omega))
             obtain ⟨l6,z0,z1,z2⟩:=KP5.out.c3
             have KB5:=Lib.hid (app_blk HOv.out hg5 KBv.out (by omega))
             obtain ⟨l5,t0,t1,t2⟩:=KB5.out.c3
             obtain ⟨f0,f1,f2⟩:=KB5.out.f3
             refine hK.out _ _ ?_ (fun hHeld=>?_)
             · ((try dsimp only);first | exact ⟨s0,s1,s2⟩ | exact ⟨y0,y1,y2⟩ | exact ⟨cell_al y0,cell_al y1,cell_al y2⟩ | exact ⟨z0,z1,z2⟩ | exact ⟨cell_far z0 NP,cell_far z1 NP,cell_far z2 NP⟩)
             clear hK K
             refine hTake 11 ?_
             refine hOne 12 (fun K hK=>?_)
             go_simp
             refine hK.out _ _ ?_ (fun hHeld=>?_)
             · ((try dsimp only);first | exact ⟨s0,s1,s2⟩ | exact ⟨y0,y1,y2⟩ | exact ⟨cell_al y0,cell_al y1,cell_al y2⟩ | exact ⟨z0,z1,z2⟩ | exact ⟨cell_far z0 NP,cell_far z1 NP,cell_far z2 NP⟩)
             clear hK K
             refine wpAnyH_done (by kernel_rfl) ?_ _
             have HWv:=Lib.hid (HW.out.trans ((below_undrew hq1).mono (by have:=KB.out.lt;have e0:wr.drew.heap.size=wr.heap.size:=rfl;omega)))
             have HW5:=Lib.hid (app_below HOv.out hg5 HWv.out (by omega) (by have:=KBv.out.lt;omega))
             have HO5:Hid (OwnA w5 (w.heap.size+2+1) ad2 (k+1) cap2 (gen (k+1) (dblG W H xs))):=Lib.hid (by rw [←gen_snoc];refine cast (congrArg (fun (v:Int)=>OwnA w5 (w.heap.size+2+1) ad2 (k+1) cap2 (gen k (dblG W H xs)++ [v])) ?_) ho5;(unfold dblG;rw [hqv.out,IntWalk.i64_in (4*rankOf W H xs ((k:Int) % (2*W)) ((k:Int)/(2*W))) (by omega),IntWalk.i64_in _ (by omega)];try omega))
             clear ho5 hg5
             go_wp2_with fail
             go_roundw
             case rel=>exact ⟨k+1,ad2,cap2,by omega,by go_num,HO5.out.other (by simp) _,by first | exact KB5.out.set 2 _ | (have h:=KB5.out.set 2 (.slice ad2 (k+1) cap2);simpa using h),HW5.out.setCell (by simp) _⟩
             case measure=>simp [intOf];omega
     · by_cases hy:(k:Int)/(2*W)<H
       · have hqv:=Lib.hid (quarter_10 b1 b3 x1 hx y0 hy)
         have hx':W≤(k:Int) % (2*W):=by omega
         clear hx
         go_wp2_with fail
         refine wp_region_held_drew (S:=fun v=>v.cell? ⟨w.heap.size,0,none⟩=some (.int .i64 W)∧v.cell? ⟨w.heap.size,1,none⟩=some (.int .i64 H)∧v.cell? ⟨w.heap.size,2,none⟩=some (.slice ad n cap)) (by kernel_rfl) ⟨s0,s1,s2⟩ ?_
         intro hHeld
         refine hTake 0 ?_
         refine hTake 2 ?_
         refine hTake 3 ?_
         refine hTake 4 ?_
         refine hTake 7 ?_
         refine wpAnyH_ready (rs:=[1,5]) (by kernel_rfl) (by simp) ?_
         refine AllReadyH.cons rfl (fun K hK=>?_) (AllReadyH.cons rfl (fun K hK=>?_) AllReadyH.nil)
         · go_simp
           refine hK.out _ _ ?_ (fun hHeld=>?_)
           · ((try dsimp only);first | exact ⟨s0,s1,s2⟩ | exact ⟨y0,y1,y2⟩ | exact ⟨cell_al y0,cell_al y1,cell_al y2⟩ | exact ⟨z0,z1,z2⟩ | exact ⟨cell_far z0 NP,cell_far z1 NP,cell_far z2 NP⟩)
           clear hK K
           refine hOne 5 (fun K hK=>?_)
           go_simp
           go_at_call 132
           ((with_reducible refine (spec_l2Rank W H ad n cap xs _ _ _ HN.out (by exact (HA.out.below HBr.out).of_heap rfl) HQ.out b1 b3 (by omega) (by omega) (by omega)).mono ?_);rintro e v1 ⟨rfl,hq1⟩)
           have y0:=(hq1.cell l9).trans s0
           have y1:=(hq1.cell l9).trans s1
           have y2:=(hq1.cell l9).trans s2
           have y3:=(hq1.cell l0).trans o2
           have HOv:=Lib.hid (HO.out.drew.below' hq1)
           have KBv:=Lib.hid (KB.out.drew.below' hq1)
           have lv:=KBv.out.lt
           go_wp2_with fail
           refine hK.out _ _ ?_ (fun hHeld=>?_)
           · ((try dsimp only);first | exact ⟨s0,s1,s2⟩ | exact ⟨y0,y1,y2⟩ | exact ⟨cell_al y0,cell_al y1,cell_al y2⟩ | exact ⟨z0,z1,z2⟩ | exact ⟨cell_far z0 NP,cell_far z1 NP,cell_far z2 NP⟩)
           clear hK K
           refine hTake 6 ?_
           refine hTake 8 ?_
           refine hOne 9 (fun K hK=>?_)
           go_simp
           refine hK.out _ _ ?_ (fun hHeld=>?_)
           · ((try dsimp only);first | exact ⟨s0,s1,s2⟩ | exact ⟨y0,y1,y2⟩ | exact ⟨cell_al y0,cell_al y1,cell_al y2⟩ | exact ⟨z0,z1,z2⟩ | exact ⟨cell_far z0 NP,cell_far z1 NP,cell_far z2 NP⟩)
           clear hK K
           refine hOne 10 (fun K hK=>?_)
           refine step_append _ (by rfl) (.tmp 65) (.tmp 73) (by rfl) (w.heap.size+2+1) k cap' ad' (gen k (dblG W H xs)) (by rfl) (HOv.out.alloc _) v1.heap.size _ (by rfl) (cell_new1 _ _ _) (by omega) (by have:=KBv.out.lt;simp;omega) ?_
           intro ad2 cap2 w5 ho5 hg5
           have KP5:=Lib.hid (app_blk HOv.out hg5 (KP.out.drew.below' hq1) (by omega))
           obtain ⟨l6,z0,z1,z2⟩:=KP5.out.c3
           have KB5:=Lib.hid (app_blk HOv.out hg5 KBv.out (by omega))
           obtain ⟨l5,t0,t1,t2⟩:=KB5.out.c3
           obtain ⟨f0,f1,f2⟩:=KB5.out.f3
           refine hK.out _ _ ?_ (fun hHeld=>?_)
           · ((try dsimp only);first | exact ⟨s0,s1,s2⟩ | exact ⟨y0,y1,y2⟩ | exact ⟨cell_al y0,cell_al y1,cell_al y2⟩ | exact ⟨z0,z1,z2⟩ | exact ⟨cell_far z0 NP,cell_far z1 NP,cell_far z2 NP⟩)
           clear hK K
           refine hTake 11 ?_
           refine hOne 12 (fun K hK=>?_)
           go_simp
           refine hK.out _ _ ?_ (fun hHeld=>?_)
           · ((try dsimp only);first | exact ⟨s0,s1,s2⟩ | exact ⟨y0,y1,y2⟩ | exact ⟨cell_al y0,cell_al y1,cell_al y2⟩ | exact ⟨z0,z1,z2⟩ | exact ⟨cell_far z0 NP,cell_far z1 NP,cell_far z2 NP⟩)
           clear hK K
           refine wpAnyH_done (by kernel_rfl) ?_ _
           have HWv:=Lib.hid (HW.out.trans ((below_undrew hq1).mono (by have:=KB.out.lt;have e0:wr.drew.heap.size=wr.heap.size:=rfl;omega)))
           have HW5:=Lib.hid (app_below HOv.out hg5 HWv.out (by omega) (by have:=KBv.out.lt;omega))
           have HO5:Hid (OwnA w5 (w.heap.size+2+1) ad2 (k+1) cap2 (gen (k+1) (dblG W H xs))):=Lib.hid (by rw [←gen_snoc];refine cast (congrArg (fun (v:Int)=>OwnA w5 (w.heap.size+2+1) ad2 (k+1) cap2 (gen k (dblG W H xs)++ [v])) ?_) ho5;(unfold dblG;rw [hqv.out,IntWalk.i64_in (4*rankOf W H xs ((k:Int) % (2*W)) ((k:Int)/(2*W))) (by omega),IntWalk.i64_in _ (by omega)];try omega))
           clear ho5 hg5
           go_wp2_with fail
           go_roundw
           case rel=>exact ⟨k+1,ad2,cap2,by omega,by go_num,HO5.out.other (by simp) _,by first | exact KB5.out.set 2 _ | (have h:=KB5.out.set 2 (.slice ad2 (k+1) cap2);simpa using h),HW5.out.setCell (by simp) _⟩
           case measure=>simp [intOf];omega
         · go_simp
           go_at_call 132
           ((with_reducible refine (spec_l2Rank W H ad n cap xs _ _ _ HN.out (by exact (HA.out.below HBr.out).of_heap rfl) HQ.out b1 b3 (by omega) (by omega) (by omega)).mono ?_);rintro e v1 ⟨rfl,hq1⟩)
           have y0:=(hq1.cell l9).trans s0
           have y1:=(hq1.cell l9).trans s1
           have y2:=(hq1.cell l9).trans s2
           have y3:=(hq1.cell l0).trans o2
           have HOv:=Lib.hid (HO.out.drew.below' hq1)
           have KBv:=Lib.hid (KB.out.drew.below' hq1)
           have lv:=KBv.out.lt
           go_wp2_with fail
           refine hK.out _ _ ?_ (fun hHeld=>?_)
           · ((try dsimp only);first | exact ⟨s0,s1,s2⟩ | exact ⟨y0,y1,y2⟩ | exact ⟨cell_al y0,cell_al y1,cell_al y2⟩ | exact ⟨z0,z1,z2⟩ | exact ⟨cell_far z0 NP,cell_far z1 NP,cell_far z2 NP⟩)
           clear hK K
           refine hTake 6 ?_
           refine hTake 8 ?_
           refine wpAnyH_ready (rs:=[1,9]) (by kernel_rfl) (by simp) ?_
           refine AllReadyH.cons rfl (fun K hK=>?_) (AllReadyH.cons rfl (fun K hK=>?_) AllReadyH.nil)
           · go_simp
             refine hK.out _ _ ?_ (fun hHeld=>?_)
             · ((try dsimp only);first | exact ⟨s0,s1,s2⟩ | exact ⟨y0,y1,y2⟩ | exact ⟨cell_al y0,cell_al y1,cell_al y2⟩ | exact ⟨z0,z1,z2⟩ | exact ⟨cell_far z0 NP,cell_far z1 NP,cell_far z2 NP⟩)
             clear hK K
             refine hOne 9 (fun K hK=>?_)
             go_simp
             refine hK.out _ _ ?_ (fun hHeld=>?_)
             · ((try dsimp only);first | exact ⟨s0,s1,s2⟩ | exact ⟨y0,y1,y2⟩ | exact ⟨cell_al y0,cell_al y1,cell_al y2⟩ | exact ⟨z0,z1,z2⟩ | exact ⟨cell_far z0 NP,cell_far z1 NP,cell_far z2 NP⟩)
             clear hK K
             refine hOne 10 (fun K hK=>?_)
             refine step_append _ (by rfl) (.tmp 65) (.tmp 73) (by rfl) (w.heap.size+2+1) k cap' ad' (gen k (dblG W H xs)) (by rfl) (HOv.out.alloc _) v1.heap.size _ (by rfl) (cell_new1 _ _ _) (by omega) (by have:=KBv.out.lt;simp;omega) ?_
             intro ad2 cap2 w5 ho5 hg5
             have KP5:=Lib.hid (app_blk HOv.out hg5 (KP.out.drew.below' hq1) (by omega))
             obtain ⟨l6,z0,z1,z2⟩:=KP5.out.c3
             have KB5:=Lib.hid (app_blk HOv.out hg5 KBv.out (by omega))
             obtain ⟨l5,t0,t1,t2⟩:=KB5.out.c3
             obtain ⟨f0,f1,f2⟩:=KB5.out.f3
             refine hK.out _ _ ?_ (fun hHeld=>?_)
             · ((try dsimp only);first | exact ⟨s0,s1,s2⟩ | exact ⟨y0,y1,y2⟩ | exact ⟨cell_al y0,cell_al y1,cell_al y2⟩ | exact ⟨z0,z1,z2⟩ | exact ⟨cell_far z0 NP,cell_far z1 NP,cell_far z2 NP⟩)
             clear hK K
             refine hTake 11 ?_
             refine hOne 12 (fun K hK=>?_)
             go_simp
             refine hK.out _ _ ?_ (fun hHeld=>?_)
             · ((try dsimp only);first | exact ⟨s0,s1,s2⟩ | exact ⟨y0,y1,y2⟩ | exact ⟨cell_al y0,cell_al y1,cell_al y2⟩ | exact ⟨z0,z1,z2⟩ | exact ⟨cell_far z0 NP,cell_far z1 NP,cell_far z2 NP⟩)
             clear hK K
             refine wpAnyH_done (by kernel_rfl) ?_ _
             have HWv:=Lib.hid (HW.out.trans ((below_undrew hq1).mono (by have:=KB.out.lt;have e0:wr.drew.heap.size=wr.heap.size:=rfl;omega)))
             have HW5:=Lib.hid (app_below HOv.out hg5 HWv.out (by omega) (by have:=KBv.out.lt;omega))
             have HO5:Hid (OwnA w5 (w.heap.size+2+1) ad2 (k+1) cap2 (gen (k+1) (dblG W H xs))):=Lib.hid (by rw [←gen_snoc];refine cast (congrArg (fun (v:Int)=>OwnA w5 (w.heap.size+2+1) ad2 (k+1) cap2 (gen k (dblG W H xs)++ [v])) ?_) ho5;(unfold dblG;rw [hqv.out,IntWalk.i64_in (4*rankOf W H xs ((k:Int) % (2*W)) ((k:Int)/(2*W))) (by omega),IntWalk.i64_in _ (by omega)];try omega))
             clear ho5 hg5
             go_wp2_with fail
             go_roundw
             case rel=>exact ⟨k+1,ad2,cap2,by omega,by go_num,HO5.out.other (by simp) _,by first | exact KB5.out.set 2 _ | (have h:=KB5.out.set 2 (.slice ad2 (k+1) cap2);simpa using h),HW5.out.setCell (by simp) _⟩
             case measure=>simp [intOf];omega
           · go_simp
             refine hK.out _ _ ?_ (fun hHeld=>?_)
             · ((try dsimp only);first | exact ⟨s0,s1,s2⟩ | exact ⟨y0,y1,y2⟩ | exact ⟨cell_al y0,cell_al y1,cell_al y2⟩ | exact ⟨z0,z1,z2⟩ | exact ⟨cell_far z0 NP,cell_far z1 NP,cell_far z2 NP⟩)
             clear hK K
             refine hOne 1 (fun K hK=>?_)
             go_simp
             refine hK.out _ _ ?_ (fun hHeld=>?_)
             · ((try dsimp only);first | exact ⟨s0,s1,s2⟩ | exact ⟨y0,y1,y2⟩ | exact ⟨cell_al y0,cell_al y1,cell_al y2⟩ | exact ⟨z0,z1,z2⟩ | exact ⟨cell_far z0 NP,cell_far z1 NP,cell_far z2 NP⟩)
             clear hK K
             refine hOne 10 (fun K hK=>?_)
             refine step_append _ (by rfl) (.tmp 65) (.tmp 73) (by rfl) (w.heap.size+2+1) k cap' ad' (gen k (dblG W H xs)) (by rfl) (HOv.out.alloc _) v1.heap.size _ (by rfl) (cell_new1 _ _ _) (by omega) (by have:=KBv.out.lt;simp;omega) ?_
             intro ad2 cap2 w5 ho5 hg5
             have KP5:=Lib.hid (app_blk HOv.out hg5 (KP.out.drew.below' hq1) (by omega))
             obtain ⟨l6,z0,z1,z2⟩:=KP5.out.c3
             have KB5:=Lib.hid (app_blk HOv.out hg5 KBv.out (by omega))
             obtain ⟨l5,t0,t1,t2⟩:=KB5.out.c3
             obtain ⟨f0,f1,f2⟩:=KB5.out.f3
             refine hK.out _ _ ?_ (fun hHeld=>?_)
             · ((try dsimp only);first | exact ⟨s0,s1,s2⟩ | exact ⟨y0,y1,y2⟩ | exact ⟨cell_al y0,cell_al y1,cell_al y2⟩ | exact ⟨z0,z1,z2⟩ | exact ⟨cell_far z0 NP,cell_far z1 NP,cell_far z2 NP⟩)
             clear hK K
             refine hTake 11 ?_
             refine hOne 12 (fun K hK=>?_)
             go_simp
             refine hK.out _ _ ?_ (fun hHeld=>?_)
             · ((try dsimp only);first | exact ⟨s0,s1,s2⟩ | exact ⟨y0,y1,y2⟩ | exact ⟨cell_al y0,cell_al y1,cell_al y2⟩ | exact ⟨z0,z1,z2⟩ | exact ⟨cell_far z0 NP,cell_far z1 NP,cell_far z2 NP⟩)
             clear hK K
             refine wpAnyH_done (by kernel_rfl) ?_ _
             have HWv:=Lib.hid (HW.out.trans ((below_undrew hq1).mono (by have:=KB.out.lt;have e0:wr.drew.heap.size=wr.heap.size:=rfl;omega)))
             have HW5:=Lib.hid (app_below HOv.out hg5 HWv.out (by omega) (by have:=KBv.out.lt;omega))
             have HO5:Hid (OwnA w5 (w.heap.size+2+1) ad2 (k+1) cap2 (gen (k+1) (dblG W H xs))):=Lib.hid (by rw [←gen_snoc];refine cast (congrArg (fun (v:Int)=>OwnA w5 (w.heap.size+2+1) ad2 (k+1) cap2 (gen k (dblG W H xs)++ [v])) ?_) ho5;(unfold dblG;rw [hqv.out,IntWalk.i64_in (4*rankOf W H xs ((k:Int) % (2*W)) ((k:Int)/(2*W))) (by omega),IntWalk.i64_in _ (by omega)];try omega))
             clear ho5 hg5
             go_wp2_with fail
             go_roundw
             case rel=>exact ⟨k+1,ad2,cap2,by omega,by go_num,HO5.out.other (by simp) _,by first | exact KB5.out.set 2 _ | (have h:=KB5.out.set 2 (.slice ad2 (k+1) cap2);simpa using h),HW5.out.setCell (by simp) _⟩
             case measure=>simp [intOf];omega
       · have hqv:=Lib.hid (quarter_11 b1 b3 x1 hx y1 hy)
         have hx':W≤(k:Int) % (2*W):=by omega
         have hy':H≤(k:Int)/(2*W):=by omega
         clear hx hy
         go_wp2_with fail
         refine wp_region_held_drew (S:=fun v=>v.cell? ⟨w.heap.size,0,none⟩=some (.int .i64 W)∧v.cell? ⟨w.heap.size,1,none⟩=some (.int .i64 H)∧v.cell? ⟨w.heap.size,2,none⟩=some (.slice ad n cap)) (by kernel_rfl) ⟨s0,s1,s2⟩ ?_
         intro hHeld
         refine hTake 0 ?_
         refine hTake 2 ?_
         refine hTake 3 ?_
         refine hTake 4 ?_
         refine hTake 7 ?_
         refine wpAnyH_ready (rs:=[1,5]) (by kernel_rfl) (by simp) ?_
         refine AllReadyH.cons rfl (fun K hK=>?_) (AllReadyH.cons rfl (fun K hK=>?_) AllReadyH.nil)
         · go_simp
           refine hK.out _ _ ?_ (fun hHeld=>?_)
           · ((try dsimp only);first | exact ⟨s0,s1,s2⟩ | exact ⟨y0,y1,y2⟩ | exact ⟨cell_al y0,cell_al y1,cell_al y2⟩ | exact ⟨z0,z1,z2⟩ | exact ⟨cell_far z0 NP,cell_far z1 NP,cell_far z2 NP⟩)
           clear hK K
           refine hOne 5 (fun K hK=>?_)
           go_simp
           go_at_call 132
           ((with_reducible refine (spec_l2Rank W H ad n cap xs _ _ _ HN.out (by exact (HA.out.below HBr.out).of_heap rfl) HQ.out b1 b3 (by omega) (by omega) (by omega)).mono ?_);rintro e v1 ⟨rfl,hq1⟩)
           have y0:=(hq1.cell l9).trans s0
           have y1:=(hq1.cell l9).trans s1
           have y2:=(hq1.cell l9).trans s2
           have y3:=(hq1.cell l0).trans o2
           have HOv:=Lib.hid (HO.out.drew.below' hq1)
           have KBv:=Lib.hid (KB.out.drew.below' hq1)
           have lv:=KBv.out.lt
           go_wp2_with fail
           refine hK.out _ _ ?_ (fun hHeld=>?_)
           · ((try dsimp only);first | exact ⟨s0,s1,s2⟩ | exact ⟨y0,y1,y2⟩ | exact ⟨cell_al y0,cell_al y1,cell_al y2⟩ | exact ⟨z0,z1,z2⟩ | exact ⟨cell_far z0 NP,cell_far z1 NP,cell_far z2 NP⟩)
           clear hK K
           refine hTake 6 ?_
           refine hTake 8 ?_
           refine hOne 9 (fun K hK=>?_)
           go_simp
           refine hK.out _ _ ?_ (fun hHeld=>?_)
           · ((try dsimp only);first | exact ⟨s0,s1,s2⟩ | exact ⟨y0,y1,y2⟩ | exact ⟨cell_al y0,cell_al y1,cell_al y2⟩ | exact ⟨z0,z1,z2⟩ | exact ⟨cell_far z0 NP,cell_far z1 NP,cell_far z2 NP⟩)
           clear hK K
           refine hOne 10 (fun K hK=>?_)
           refine step_append _ (by rfl) (.tmp 65) (.tmp 73) (by rfl) (w.heap.size+2+1) k cap' ad' (gen k (dblG W H xs)) (by rfl) (HOv.out.alloc _) v1.heap.size _ (by rfl) (cell_new1 _ _ _) (by omega) (by have:=KBv.out.lt;simp;omega) ?_
           intro ad2 cap2 w5 ho5 hg5
           have KP5:=Lib.hid (app_blk HOv.out hg5 (KP.out.drew.below' hq1) (by omega))
           obtain ⟨l6,z0,z1,z2⟩:=KP5.out.c3
           have KB5:=Lib.hid (app_blk HOv.out hg5 KBv.out (by omega))
           obtain ⟨l5,t0,t1,t2⟩:=KB5.out.c3
           obtain ⟨f0,f1,f2⟩:=KB5.out.f3
           refine hK.out _ _ ?_ (fun hHeld=>?_)
           · ((try dsimp only);first | exact ⟨s0,s1,s2⟩ | exact ⟨y0,y1,y2⟩ | exact ⟨cell_al y0,cell_al y1,cell_al y2⟩ | exact ⟨z0,z1,z2⟩ | exact ⟨cell_far z0 NP,cell_far z1 NP,cell_far z2 NP⟩)
           clear hK K
           refine hTake 11 ?_
           refine hOne 12 (fun K hK=>?_)
           go_simp
           refine hK.out _ _ ?_ (fun hHeld=>?_)
           · ((try dsimp only);first | exact ⟨s0,s1,s2⟩ | exact ⟨y0,y1,y2⟩ | exact ⟨cell_al y0,cell_al y1,cell_al y2⟩ | exact ⟨z0,z1,z2⟩ | exact ⟨cell_far z0 NP,cell_far z1 NP,cell_far z2 NP⟩)
           clear hK K
           refine wpAnyH_done (by kernel_rfl) ?_ _
           have HWv:=Lib.hid (HW.out.trans ((below_undrew hq1).mono (by have:=KB.out.lt;have e0:wr.drew.heap.size=wr.heap.size:=rfl;omega)))
           have HW5:=Lib.hid (app_below HOv.out hg5 HWv.out (by omega) (by have:=KBv.out.lt;omega))
           have HO5:Hid (OwnA w5 (w.heap.size+2+1) ad2 (k+1) cap2 (gen (k+1) (dblG W H xs))):=Lib.hid (by rw [←gen_snoc];refine cast (congrArg (fun (v:Int)=>OwnA w5 (w.heap.size+2+1) ad2 (k+1) cap2 (gen k (dblG W H xs)++ [v])) ?_) ho5;(unfold dblG;rw [hqv.out,IntWalk.i64_in (4*rankOf W H xs ((k:Int) % (2*W)) ((k:Int)/(2*W))) (by omega),IntWalk.i64_in _ (by omega)];try omega))
           clear ho5 hg5
           go_wp2_with fail
           go_roundw
           case rel=>exact ⟨k+1,ad2,cap2,by omega,by go_num,HO5.out.other (by simp) _,by first | exact KB5.out.set 2 _ | (have h:=KB5.out.set 2 (.slice ad2 (k+1) cap2);simpa using h),HW5.out.setCell (by simp) _⟩
           case measure=>simp [intOf];omega
         · go_simp
           go_at_call 132
           ((with_reducible refine (spec_l2Rank W H ad n cap xs _ _ _ HN.out (by exact (HA.out.below HBr.out).of_heap rfl) HQ.out b1 b3 (by omega) (by omega) (by omega)).mono ?_);rintro e v1 ⟨rfl,hq1⟩)
           have y0:=(hq1.cell l9).trans s0
           have y1:=(hq1.cell l9).trans s1
           have y2:=(hq1.cell l9).trans s2
           have y3:=(hq1.cell l0).trans o2
           have HOv:=Lib.hid (HO.out.drew.below' hq1)
           have KBv:=Lib.hid (KB.out.drew.below' hq1)
           have lv:=KBv.out.lt
           go_wp2_with fail
           refine hK.out _ _ ?_ (fun hHeld=>?_)
           · ((try dsimp only);first | exact ⟨s0,s1,s2⟩ | exact ⟨y0,y1,y2⟩ | exact ⟨cell_al y0,cell_al y1,cell_al y2⟩ | exact ⟨z0,z1,z2⟩ | exact ⟨cell_far z0 NP,cell_far z1 NP,cell_far z2 NP⟩)
           clear hK K
           refine hTake 6 ?_
           refine hTake 8 ?_
           refine wpAnyH_ready (rs:=[1,9]) (by kernel_rfl) (by simp) ?_
           refine AllReadyH.cons rfl (fun K hK=>?_) (AllReadyH.cons rfl (fun K hK=>?_) AllReadyH.nil)
           · go_simp
             refine hK.out _ _ ?_ (fun hHeld=>?_)
             · ((try dsimp only);first | exact ⟨s0,s1,s2⟩ | exact ⟨y0,y1,y2⟩ | exact ⟨cell_al y0,cell_al y1,cell_al y2⟩ | exact ⟨z0,z1,z2⟩ | exact ⟨cell_far z0 NP,cell_far z1 NP,cell_far z2 NP⟩)
             clear hK K
             refine hOne 9 (fun K hK=>?_)
             go_simp
             refine hK.out _ _ ?_ (fun hHeld=>?_)
             · ((try dsimp only);first | exact ⟨s0,s1,s2⟩ | exact ⟨y0,y1,y2⟩ | exact ⟨cell_al y0,cell_al y1,cell_al y2⟩ | exact ⟨z0,z1,z2⟩ | exact ⟨cell_far z0 NP,cell_far z1 NP,cell_far z2 NP⟩)
             clear hK K
             refine hOne 10 (fun K hK=>?_)
             refine step_append _ (by rfl) (.tmp 65) (.tmp 73) (by rfl) (w.heap.size+2+1) k cap' ad' (gen k (dblG W H xs)) (by rfl) (HOv.out.alloc _) v1.heap.size _ (by rfl) (cell_new1 _ _ _) (by omega) (by have:=KBv.out.lt;simp;omega) ?_
             intro ad2 cap2 w5 ho5 hg5
             have KP5:=Lib.hid (app_blk HOv.out hg5 (KP.out.drew.below' hq1) (by omega))
             obtain ⟨l6,z0,z1,z2⟩:=KP5.out.c3
             have KB5:=Lib.hid (app_blk HOv.out hg5 KBv.out (by omega))
             obtain ⟨l5,t0,t1,t2⟩:=KB5.out.c3
             obtain ⟨f0,f1,f2⟩:=KB5.out.f3
             refine hK.out _ _ ?_ (fun hHeld=>?_)
             · ((try dsimp only);first | exact ⟨s0,s1,s2⟩ | exact ⟨y0,y1,y2⟩ | exact ⟨cell_al y0,cell_al y1,cell_al y2⟩ | exact ⟨z0,z1,z2⟩ | exact ⟨cell_far z0 NP,cell_far z1 NP,cell_far z2 NP⟩)
             clear hK K
             refine hTake 11 ?_
             refine hOne 12 (fun K hK=>?_)
             go_simp
             refine hK.out _ _ ?_ (fun hHeld=>?_)
             · ((try dsimp only);first | exact ⟨s0,s1,s2⟩ | exact ⟨y0,y1,y2⟩ | exact ⟨cell_al y0,cell_al y1,cell_al y2⟩ | exact ⟨z0,z1,z2⟩ | exact ⟨cell_far z0 NP,cell_far z1 NP,cell_far z2 NP⟩)
             clear hK K
             refine wpAnyH_done (by kernel_rfl) ?_ _
             have HWv:=Lib.hid (HW.out.trans ((below_undrew hq1).mono (by have:=KB.out.lt;have e0:wr.drew.heap.size=wr.heap.size:=rfl;omega)))
             have HW5:=Lib.hid (app_below HOv.out hg5 HWv.out (by omega) (by have:=KBv.out.lt;omega))
             have HO5:Hid (OwnA w5 (w.heap.size+2+1) ad2 (k+1) cap2 (gen (k+1) (dblG W H xs))):=Lib.hid (by rw [←gen_snoc];refine cast (congrArg (fun (v:Int)=>OwnA w5 (w.heap.size+2+1) ad2 (k+1) cap2 (gen k (dblG W H xs)++ [v])) ?_) ho5;(unfold dblG;rw [hqv.out,IntWalk.i64_in (4*rankOf W H xs ((k:Int) % (2*W)) ((k:Int)/(2*W))) (by omega),IntWalk.i64_in _ (by omega)];try omega))
             clear ho5 hg5
             go_wp2_with fail
             go_roundw
             case rel=>exact ⟨k+1,ad2,cap2,by omega,by go_num,HO5.out.other (by simp) _,by first | exact KB5.out.set 2 _ | (have h:=KB5.out.set 2 (.slice ad2 (k+1) cap2);simpa using h),HW5.out.setCell (by simp) _⟩
             case measure=>simp [intOf];omega
           · go_simp
             refine hK.out _ _ ?_ (fun hHeld=>?_)
             · ((try dsimp only);first | exact ⟨s0,s1,s2⟩ | exact ⟨y0,y1,y2⟩ | exact ⟨cell_al y0,cell_al y1,cell_al y2⟩ | exact ⟨z0,z1,z2⟩ | exact ⟨cell_far z0 NP,cell_far z1 NP,cell_far z2 NP⟩)
             clear hK K
             refine hOne 1 (fun K hK=>?_)
             go_simp
             refine hK.out _ _ ?_ (fun hHeld=>?_)
             · ((try dsimp only);first | exact ⟨s0,s1,s2⟩ | exact ⟨y0,y1,y2⟩ | exact ⟨cell_al y0,cell_al y1,cell_al y2⟩ | exact ⟨z0,z1,z2⟩ | exact ⟨cell_far z0 NP,cell_far z1 NP,cell_far z2 NP⟩)
             clear hK K
             refine hOne 10 (fun K hK=>?_)
             refine step_append _ (by rfl) (.tmp 65) (.tmp 73) (by rfl) (w.heap.size+2+1) k cap' ad' (gen k (dblG W H xs)) (by rfl) (HOv.out.alloc _) v1.heap.size _ (by rfl) (cell_new1 _ _ _) (by omega) (by have:=KBv.out.lt;simp;omega) ?_
             intro ad2 cap2 w5 ho5 hg5
             have KP5:=Lib.hid (app_blk HOv.out hg5 (KP.out.drew.below' hq1) (by omega))
             obtain ⟨l6,z0,z1,z2⟩:=KP5.out.c3
             have KB5:=Lib.hid (app_blk HOv.out hg5 KBv.out (by omega))
             obtain ⟨l5,t0,t1,t2⟩:=KB5.out.c3
             obtain ⟨f0,f1,f2⟩:=KB5.out.f3
             refine hK.out _ _ ?_ (fun hHeld=>?_)
             · ((try dsimp only);first | exact ⟨s0,s1,s2⟩ | exact ⟨y0,y1,y2⟩ | exact ⟨cell_al y0,cell_al y1,cell_al y2⟩ | exact ⟨z0,z1,z2⟩ | exact ⟨cell_far z0 NP,cell_far z1 NP,cell_far z2 NP⟩)
             clear hK K
             refine hTake 11 ?_
             refine hOne 12 (fun K hK=>?_)
             go_simp
             refine hK.out _ _ ?_ (fun hHeld=>?_)
             · ((try dsimp only);first | exact ⟨s0,s1,s2⟩ | exact ⟨y0,y1,y2⟩ | exact ⟨cell_al y0,cell_al y1,cell_al y2⟩ | exact ⟨z0,z1,z2⟩ | exact ⟨cell_far z0 NP,cell_far z1 NP,cell_far z2 NP⟩)
             clear hK K
             refine wpAnyH_done (by kernel_rfl) ?_ _
             have HWv:=Lib.hid (HW.out.trans ((below_undrew hq1).mono (by have:=KB.out.lt;have e0:wr.drew.heap.size=wr.heap.size:=rfl;omega)))
             have HW5:=Lib.hid (app_below HOv.out hg5 HWv.out (by omega) (by have:=KBv.out.lt;omega))
             have HO5:Hid (OwnA w5 (w.heap.size+2+1) ad2 (k+1) cap2 (gen (k+1) (dblG W H xs))):=Lib.hid (by rw [←gen_snoc];refine cast (congrArg (fun (v:Int)=>OwnA w5 (w.heap.size+2+1) ad2 (k+1) cap2 (gen k (dblG W H xs)++ [v])) ?_) ho5;(unfold dblG;rw [hqv.out,IntWalk.i64_in (4*rankOf W H xs ((k:Int) % (2*W)) ((k:Int)/(2*W))) (by omega),IntWalk.i64_in _ (by omega)];try omega))
             clear ho5 hg5
             go_wp2_with fail
             go_roundw
             case rel=>exact ⟨k+1,ad2,cap2,by omega,by go_num,HO5.out.other (by simp) _,by first | exact KB5.out.set 2 _ | (have h:=KB5.out.set 2 (.slice ad2 (k+1) cap2);simpa using h),HW5.out.setCell (by simp) _⟩
             case measure=>simp [intOf];omega
   · have hlt2: ¬(k:Int)<4*(n:Int):=by have:=HM.out;omega
     obtain rfl:m=k:=by omega
     have KR:Hid (Blk wr (w.heap.size+1) 31 #[.int .i64 0, .int .i64 0, .slice none 0 0]):=Lib.hid (Blk.below (Blk.new' _ _ (by simp)) HW.out (by simp))
     obtain ⟨r0,r1,r2,r3⟩:=KR.out.c3
     obtain ⟨q0,q1,q2⟩:=KR.out.f3
     go_wp2_with fail
     exact bodyPost_ret (v:= .agg #[.int .i64 (2*W), .int .i64 (2*H), .slice ad' _ cap']) (by simp [results,Tryz.results99,go_sem,r1,r2,r3]) rfl
       ⟨_,_,_,rfl,(((HO.out.other (by simp;try omega) _).other (by simp;try omega) _).other (by simp;try omega) _).mono (by have:=HBr.out.size;try simp;omega),by omega,
         ((HBr.out.setCell (by first | (simp;done) | (simp;omega)) _).setCell (by first | (simp;done) | (simp;omega)) _).setCell (by first | (simp;done) | (simp;omega)) _⟩
end Go.Proofs.YtanccoopbgamdaaGreatDoor
