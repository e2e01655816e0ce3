/-
  Contracts and plain facts on which the theorem of this claim rests, text 17.
-/
import Derived.BigQuiet
import Derived.Deep.RegionHeld3
import Derived.Deep.RegionWith
import Derived.Test.YtanccoopbgamdaaGreatDoorKC4
import Derived.Test.YtanccoopbgamdaaGreatDoorKC6
import Derived.Test.YtanccoopbgamdaaGreatDoorKC16
namespace Go.Proofs.YtanccoopbgamdaaGreatDoor
open Go.RowKit
set_option linter.unusedVariables false
set_option linter.unusedSimpArgs false
theorem tm_facts (k:Nat) (tw:Int) (h:1≤tw) (hk:k≤1024): ∃X Y:Int,0≤X∧X<tw∧0≤Y∧Y≤(k:Int)∧(k:Int).tmod tw=X∧(k:Int).tdiv tw=Y∧IntKind.i64.wrap Y=Y∧Hid (X=(k:Int) % tw∧Y=(k:Int)/tw):=by
 have e1:0≤(k:Int) % tw:=Int.emod_nonneg _ (by omega)
 have e2:(k:Int) % tw<tw:=Int.emod_lt_of_pos _ (by omega)
 have e3:0≤(k:Int)/tw:=Int.ediv_nonneg (by omega) (by omega)
 have e4:(k:Int)/tw≤k:=Int.ediv_le_self _ (by omega)
 exact ⟨(k:Int) % tw,(k:Int)/tw,e1,e2,e3,e4,Int.tmod_eq_emod_of_nonneg (by omega),Int.tdiv_eq_ediv_of_nonneg (by omega),IntWalk.i64_in _ (by omega),Lib.hid ⟨rfl,rfl⟩⟩
set_option maxRecDepth 100000 in
set_option maxHeartbeats 1600000 in
theorem impl_screened (W H:Int) (ad:Option Addr) (n cap:Nat) (xs:List Int) (al:Option Addr) (m c:Nat) (ls:List Int) (tw th:Int) (w:World)
   (hn:xs.length=n) (ha:Rd w ad xs) (mk:matOk W H xs=true) (hm:ls.length=m) (hal:Rd w al ls) (hs:sizeOk tw th=true) (hq:(m:Int)=tw*th):
   Calls Tryz.prog 25 #[.agg #[.int .i64 W, .int .i64 H, .slice ad n cap], .slice al m c, .int .i64 tw] w (PicOut w ⟨tw,th,gen m (dotG W H xs ls tw)⟩):=by
 have HN:=Lib.hid hn
 have HA:=Lib.hid ha
 clear hn ha
 obtain ⟨ks,kq,ki,kd⟩:=matOk_bd HN.out mk
 obtain ⟨b1,b2,b3,b4,b5,b6⟩:=matSize_bd ks
 have HQ:=Lib.hid kq
 have hn2:n≤256:=by omega
 clear ks kq ki kd mk
 obtain ⟨t1,t2,t3,t4,t5,t6⟩:=sizeOk_bd hs
 have HD:Hid ((m:Int)/tw=th):=Lib.hid (by rw [hq];exact Int.mul_ediv_cancel_left _ (by omega))
 obtain ⟨d0,d1⟩:0≤(m:Int)/tw∧(m:Int)/tw≤64:=by rw [HD.out];omega
 have HM:=Lib.hid hq
 have HS:=Lib.hid hs
 have HL:=Lib.hid hm
 have HAL:=Lib.hid hal
 have hm1:1≤m:=by omega
 have hm2:m≤1024:=by omega
 clear hq hs hm hal t5 t6
 go_enter Tryz.func25,Tryz.ntmps25
 go_wp2_with fail
 have hD:=HD.out
 rw [hD]
 clear hD d0 d1
 refine (impl_blank tw th m _ HS.out HM.out).mono ?_
 rintro e w2 ⟨g,rfl,hg,ho,hb⟩
 have HB2:=Lib.hid ((Joins.below_alloc2 _ _ _).trans (hb.mono (by simp;omega)))
 have KP2:=Lib.hid (((Blk.new w 31 #[.int .i64 W, .int .i64 H, .slice ad n cap]).alloc _).below' hb)
 have KR2:Hid (Blk w2 (w.heap.size+1) 27 #[.int .i64 0, .int .i64 0, .slice none 0 0]):=by
   have h:=(Blk.new (w.alloc (.cells #[.int .i64 W, .int .i64 H, .slice ad n cap] 31)) 27 #[.int .i64 0, .int .i64 0, .slice none 0 0]).below' hb
   exact Lib.hid (by simpa using h)
 have HO:=Lib.hid ho
 have HG:Hid (w.heap.size+1+1≤g):=Lib.hid (by simpa using hg)
 clear hb ho hg
 go_wp2_with fail
 go_loopw [18] (fun i wr=> ∃k:Nat,k≤m∧i= .int .i64 k∧Own wr g m m (filled (gen m (dotG W H xs ls tw)) (List.replicate m 0) k)∧(w2.alloc (.cells #[.int .i64 tw, .int .i64 th, .slice (some ⟨g,0,none⟩) m m] 27)).grownBy wr (some g)) (fun i _=>m - (intOf i).toNat)
 case atStart=>exact ⟨0,Nat.zero_le _,rfl,by rw [filled_zero];exact HO.out.alloc _,grown_refl _ _⟩
 case round=>
   obtain ⟨k,hk,rfl,ho,hg⟩:=hrel
   have HBr:=Lib.hid ((HB2.out.alloc HB2.out.size _).grown hg (by have:=HB2.out.size;simp;omega) (by intro k hk;cases hk;have:=HG.out;omega))
   have KO:=Lib.hid ((Blk.new w2 27 #[.int .i64 tw, .int .i64 th, .slice (some ⟨g,0,none⟩) m m]).grown hg (by have:=HO.out.lt;simp;omega))
   obtain ⟨l0,o0,o1,o2⟩:=KO.out.c3
   have KP:=Lib.hid ((KP2.out.alloc _).grown hg (by have:=HG.out;simp;omega))
   obtain ⟨l9,p0,p1,p2⟩:=KP.out.c3
   by_cases hlt:k<m
   · obtain ⟨ba,oa,hae,hal,hac⟩:=(HAL.out.below HBr.out).at (by have:=HL.out;omega)
     have h1:=hac k (by have:=HL.out;omega)
     subst hae
     clear hac
     have g2:wr.cell? ⟨g,k,none⟩=some (.int .i64 ((filled (gen m (dotG W H xs (ls) tw)) (List.replicate m 0) k).getD k 0)):=ho.cell hlt
     have g3:wr.frozen? ⟨g,k,none⟩=false:=ho.frozen k
     have gl:=ho.lt
     have HO4:=Lib.hid ho
     clear ho
     have hW0:(tw==0)=false:=by simp;omega
     have hW1: ¬tw=0:=by omega
     obtain ⟨X,Y,x0,x1,y0,y1,tX,tY,wY,HXY⟩:=tm_facts k tw t1 (by omega)
     have HV:Hid ((gen m (dotG W H xs (ls) tw)).getD k 0=if rankOf W H xs X Y<ls[k]?.getD 0 then 1 else 0):=Lib.hid (by rw [gen_get _ _ _ hlt,HXY.out.1,HXY.out.2];rfl)
     by_cases hb:rankOf W H xs X Y<ls[k]?.getD 0
     · go_wp2_with fail
       go_region_held3 (fun v=>v.cell? ⟨w.heap.size,0,none⟩=some (.int .i64 W)∧v.cell? ⟨w.heap.size,1,none⟩=some (.int .i64 H)∧v.cell? ⟨w.heap.size,2,none⟩=some (.slice ad n cap))
         (first | exact ⟨p0,p1,p2⟩ | exact ⟨(hq1.cell l9).trans p0,(hq1.cell l9).trans p1,(hq1.cell l9).trans p2⟩)
         (first
           | (go_at_call 44;((with_reducible refine (impl_wrappedRank W H ad n cap xs X Y _ HN.out (by exact (HA.out.below HBr.out).of_heap rfl) HQ.out b1 b3 hn2 b2 b4).mono ?_);rintro e v1 ⟨rfl,hq1⟩;have y3:=(hq1.cell l0).trans o2;have t2':=(hq1.cell gl).trans g2;have t3':=(hq1.frozen gl).trans g3)))
       have hv:(gen m (dotG W H xs (ls) tw)).getD k 0=1:=by rw [HV.out,if_pos hb]
       have hs:=((HO4.out.drewN 1).below hq1 gl).set k 1
       rw [filled_succ (gen m (dotG W H xs (ls) tw)) _ k _ (by rw [gen_len];exact hlt) (by simp;omega) hv] at hs
       have HSt:=Lib.hid hs
       have HG5:=Lib.hid (grown_trans hg (grown_of_below (row:=some g) (below_undrew hq1)))
       clear hs hv hg
       go_wp2_with fail
       go_roundw
       case rel=>exact ⟨k+1,by omega,by go_num,HSt.out,grown_set HG5.out _⟩
       case measure=>simp [intOf];omega
     · go_wp2_with fail
       go_region_held3 (fun v=>v.cell? ⟨w.heap.size,0,none⟩=some (.int .i64 W)∧v.cell? ⟨w.heap.size,1,none⟩=some (.int .i64 H)∧v.cell? ⟨w.heap.size,2,none⟩=some (.slice ad n cap))
         (first | exact ⟨p0,p1,p2⟩ | exact ⟨(hq1.cell l9).trans p0,(hq1.cell l9).trans p1,(hq1.cell l9).trans p2⟩)
         (first
           | (go_at_call 44;((with_reducible refine (impl_wrappedRank W H ad n cap xs X Y _ HN.out (by exact (HA.out.below HBr.out).of_heap rfl) HQ.out b1 b3 hn2 b2 b4).mono ?_);rintro e v1 ⟨rfl,hq1⟩;have y3:=(hq1.cell l0).trans o2;have t2':=(hq1.cell gl).trans g2;have t3':=(hq1.frozen gl).trans g3)))
       have hs:=filled_skip (gen m (dotG W H xs (ls) tw)) (List.replicate m 0) k (by rw [gen_len];exact hlt) (by simp;omega) (by rw [HV.out,if_neg (by omega)];simp [List.getD,hlt])
       have HSt:Hid (Own v1 g m m (filled (gen m (dotG W H xs (ls) tw)) (List.replicate m 0) (k+1))):=Lib.hid (by rw [←hs];exact (HO4.out.drewN 1).below hq1 gl)
       have HG5:=Lib.hid (grown_trans hg (grown_of_below (row:=some g) (below_undrew hq1)))
       clear hs hg
       go_wp2_with fail
       go_roundw
       case rel=>exact ⟨k+1,by omega,by go_num,HSt.out,HG5.out⟩
       case measure=>simp [intOf];omega
   · obtain rfl:m=k:=by omega
     have KR:=Lib.hid ((KR2.out.alloc _).grown hg (by have:=HG.out;have:=KR2.out.lt;simp;omega))
     obtain ⟨r0,r1,r2,r3⟩:=KR.out.c3
     obtain ⟨q0,q1,q2⟩:=KR.out.f3
     rw [filled_at (gen m (dotG W H xs ls tw)) _ m (by rw [gen_len]) (by simp)] at ho
     have HO3:=Lib.hid ho
     clear ho
     go_wp2_with fail
     exact bodyPost_ret (v:= .agg #[.int .i64 tw, .int .i64 th, .slice (some ⟨g,0,none⟩) m m]) (by simp [results,Tryz.results25,go_sem,r1,r2,r3]) rfl
       ⟨_,_,_,rfl,OwnA.mk (((HO3.out.other (by have:=HG.out;simp;omega) _).other (by have:=HG.out;simp;omega) _).other (by have:=HG.out;simp;omega) _) (by have:=HG.out;omega),by omega,
         ((HBr.out.setCell (by first | (simp;done) | (simp;omega)) _).setCell (by first | (simp;done) | (simp;omega)) _).setCell (by first | (simp;done) | (simp;omega)) _⟩
theorem impl_LevelsFor_yes (W H:Int) (ad:Option Addr) (n cap:Nat) (xs:List Int) (W' H':Int) (ad':Option Addr) (n' cap':Nat) (ys:List Int) (w:World)
   (hn:xs.length=n) (ha:Rd w ad xs) (hl:n≤9223372036854775807) (hn':ys.length=n') (ha':Rd w ad' ys) (hl':n'≤9223372036854775807) (hp:matOk W H xs=true) (hp':picOk W' H' ys 255=true):
   Calls Tryz.prog 26 #[.agg #[.int .i64 W, .int .i64 H, .slice ad n cap], .agg #[.int .i64 W', .int .i64 H', .slice ad' n' cap']] w fun e w'=> ∃a c,e= .returned (.slice a n' c)∧OwnA w' w.heap.size a n' c (ys.map (levelG n))∧Below w.heap.size w w':=by
 refine (impl_LevelsFor W H ad n cap xs W' H' ad' n' cap' ys w hn ha hl hn' ha' hl').mono ?_
 rintro e w' ⟨a,k,c,rfl,ho,_,hb⟩
 rw [levelsF_yes hn hp hp'] at ho
 obtain rfl:n'=k:=by have:=ho.len;simp at this;omega
 exact ⟨a,c,rfl,ho,hb⟩
set_option maxRecDepth 100000 in
set_option maxHeartbeats 1600000 in
theorem impl_ScreenPicture (W H:Int) (ad:Option Addr) (n cap:Nat) (xs:List Int) (W' H':Int) (ad':Option Addr) (n' cap':Nat) (ys:List Int) (w:World)
   (hn:xs.length=n) (ha:Rd w ad xs) (hl:n≤9223372036854775807) (hn':ys.length=n') (ha':Rd w ad' ys) (hl':n'≤9223372036854775807):
   Calls Tryz.prog 9 #[.agg #[.int .i64 W, .int .i64 H, .slice ad n cap], .agg #[.int .i64 W', .int .i64 H', .slice ad' n' cap']] w (PicOut w (screenF W H xs W' H' ys)):=by
 have HN:=Lib.hid hn
 have HA:=Lib.hid ha
 have HN':=Lib.hid hn'
 have HA':=Lib.hid ha'
 clear hn ha hn' ha'
 by_cases hp:matOk W H xs=true
 case neg=>
   have hp2:matOk W H xs=false:=by simpa using hp
   rw [screenF_no (fun h=>hp h.1)]
   clear hp
   go_enter Tryz.func9,Tryz.ntmps9
   go_wp2_with fail
   refine (impl_IsMatrix _ _ _ _ _ xs _ HN.out (by exact ((HA.out.alloc _).alloc _).alloc _) hl).mono ?_
   rintro e w1 ⟨rfl,hb⟩
   have HB1:=Lib.hid (bTrans (bAlloc (bAlloc (bAlloc (Below.refl _ _) _) _) _) hb)
   have KP1:=Lib.hid ((((Blk.new' (g:=w.heap.size) 31 #[.int .i64 W, .int .i64 H, .slice ad n cap] (by first | rfl | simp)).alloc _).alloc _).below' hb)
   have KQ1:Hid (Blk w1 (w.heap.size+1) 27 #[.int .i64 W', .int .i64 H', .slice ad' n' cap']):=Lib.hid (((Blk.new' (g:=w.heap.size+1) 27 #[.int .i64 W', .int .i64 H', .slice ad' n' cap'] (by simp)).alloc _).below' hb)
   have KR1:Hid (Blk w1 (w.heap.size+1+1) 27 #[.int .i64 0, .int .i64 0, .slice none 0 0]):=Lib.hid ((Blk.new' (g:=w.heap.size+1+1) 27 #[.int .i64 0, .int .i64 0, .slice none 0 0] (by simp)).below' hb)
   obtain ⟨l1,c0,c1,c2⟩:=KP1.out.c3
   obtain ⟨n1,g0,g1,g2⟩:=KQ1.out.c3
   obtain ⟨m1,d0,d1,d2⟩:=KR1.out.c3
   obtain ⟨f0,f1,f2⟩:=KR1.out.f3
   clear hb
   rw [hp2]
   go_wp2_with fail
   exact bodyPost_ret (v:= .agg #[.int .i64 0, .int .i64 0, .slice none 0 0]) (by simp [results,Tryz.results9,go_sem,d0,d1,d2]) rfl ⟨none,0,0,rfl,OwnA.none _ _,by omega,
     ((HB1.out.setCell (by first | (simp;done) | (simp;omega)) _).setCell (by first | (simp;done) | (simp;omega)) _).setCell (by first | (simp;done) | (simp;omega)) _⟩
 case pos=>
   by_cases hp':picOk W' H' ys 255=true
   case neg=>
     have hp2:picOk W' H' ys 255=false:=by simpa using hp'
     rw [screenF_no (fun h=>hp' h.2)]
     clear hp'
     go_enter Tryz.func9,Tryz.ntmps9
     go_wp2_with fail
     refine (impl_IsMatrix _ _ _ _ _ xs _ HN.out (by exact ((HA.out.alloc _).alloc _).alloc _) hl).mono ?_
     rintro e w1 ⟨rfl,hb⟩
     have HB1:=Lib.hid (bTrans (bAlloc (bAlloc (bAlloc (Below.refl _ _) _) _) _) hb)
     have KP1:=Lib.hid ((((Blk.new' (g:=w.heap.size) 31 #[.int .i64 W, .int .i64 H, .slice ad n cap] (by first | rfl | simp)).alloc _).alloc _).below' hb)
     have KQ1:Hid (Blk w1 (w.heap.size+1) 27 #[.int .i64 W', .int .i64 H', .slice ad' n' cap']):=Lib.hid (((Blk.new' (g:=w.heap.size+1) 27 #[.int .i64 W', .int .i64 H', .slice ad' n' cap'] (by simp)).alloc _).below' hb)
     have KR1:Hid (Blk w1 (w.heap.size+1+1) 27 #[.int .i64 0, .int .i64 0, .slice none 0 0]):=Lib.hid ((Blk.new' (g:=w.heap.size+1+1) 27 #[.int .i64 0, .int .i64 0, .slice none 0 0] (by simp)).below' hb)
     obtain ⟨l1,c0,c1,c2⟩:=KP1.out.c3
     obtain ⟨n1,g0,g1,g2⟩:=KQ1.out.c3
     obtain ⟨m1,d0,d1,d2⟩:=KR1.out.c3
     obtain ⟨f0,f1,f2⟩:=KR1.out.f3
     clear hb
     rw [hp]
     go_wp2_with fail
     refine (impl_IsPicture _ _ _ _ _ ys _ HN'.out (by exact HA'.out.below HB1.out) hl').mono ?_
     rintro e w1 ⟨rfl,hb⟩
     have HB1:=Lib.hid (bTrans HB1.out hb)
     have KP1:=Lib.hid (KP1.out.below' hb)
     have KQ1:=Lib.hid (KQ1.out.below' hb)
     have KR1:=Lib.hid (KR1.out.below' hb)
     clear c0 c1 c2 d0 d1 d2 f0 f1 f2 g0 g1 g2 hb
     obtain ⟨l1,c0,c1,c2⟩:=KP1.out.c3
     obtain ⟨n1,g0,g1,g2⟩:=KQ1.out.c3
     obtain ⟨m1,d0,d1,d2⟩:=KR1.out.c3
     obtain ⟨f0,f1,f2⟩:=KR1.out.f3
     rw [hp2]
     go_wp2_with fail
     exact bodyPost_ret (v:= .agg #[.int .i64 0, .int .i64 0, .slice none 0 0]) (by simp [results,Tryz.results9,go_sem,d0,d1,d2]) rfl ⟨none,0,0,rfl,OwnA.none _ _,by omega,
       ((HB1.out.setCell (by first | (simp;done) | (simp;omega)) _).setCell (by first | (simp;done) | (simp;omega)) _).setCell (by first | (simp;done) | (simp;omega)) _⟩
   case pos=>
     rw [screenF_yes HN.out HN'.out hp hp']
     have HP:=Lib.hid hp
     have HP':=Lib.hid hp'
     obtain ⟨hs,hq,hi,hd⟩:=matOk_bd HN.out hp
     obtain ⟨b1,b2,b3,b4,b5,b6⟩:=matSize_bd hs
     have HQ:=Lib.hid hq
     have HI:=Lib.hid hi
     have HD:=Lib.hid hd
     have HS:=Lib.hid hs
     have hn1:1≤n:=by omega
     have hn2:n≤256:=by omega
     clear hq hi hs hd
     obtain ⟨hs,hq,hi⟩:=picOk_bd HN'.out hp'
     obtain ⟨b1',b2',b3',b4',b5',b6'⟩:=sizeOk_bd hs
     have HQ':=Lib.hid hq
     have HI':=Lib.hid hi
     have HS':=Lib.hid hs
     have hn1':1≤n':=by omega
     have hn2':n'≤1024:=by omega
     clear hq hi hs
     go_enter Tryz.func9,Tryz.ntmps9
     go_wp2_with fail
     refine (impl_IsMatrix _ _ _ _ _ xs _ HN.out (by exact ((HA.out.alloc _).alloc _).alloc _) hl).mono ?_
     rintro e w1 ⟨rfl,hb⟩
     have HB1:=Lib.hid (bTrans (bAlloc (bAlloc (bAlloc (Below.refl _ _) _) _) _) hb)
     have KP1:=Lib.hid ((((Blk.new' (g:=w.heap.size) 31 #[.int .i64 W, .int .i64 H, .slice ad n cap] (by first | rfl | simp)).alloc _).alloc _).below' hb)
     have KQ1:Hid (Blk w1 (w.heap.size+1) 27 #[.int .i64 W', .int .i64 H', .slice ad' n' cap']):=Lib.hid (((Blk.new' (g:=w.heap.size+1) 27 #[.int .i64 W', .int .i64 H', .slice ad' n' cap'] (by simp)).alloc _).below' hb)
     have KR1:Hid (Blk w1 (w.heap.size+1+1) 27 #[.int .i64 0, .int .i64 0, .slice none 0 0]):=Lib.hid ((Blk.new' (g:=w.heap.size+1+1) 27 #[.int .i64 0, .int .i64 0, .slice none 0 0] (by simp)).below' hb)
     obtain ⟨l1,c0,c1,c2⟩:=KP1.out.c3
     obtain ⟨n1,g0,g1,g2⟩:=KQ1.out.c3
     obtain ⟨m1,d0,d1,d2⟩:=KR1.out.c3
     obtain ⟨f0,f1,f2⟩:=KR1.out.f3
     clear hb
     rw [hp]
     go_wp2_with fail
     refine (impl_IsPicture _ _ _ _ _ ys _ HN'.out (by exact HA'.out.below HB1.out) hl').mono ?_
     rintro e w1 ⟨rfl,hb⟩
     have HB1:=Lib.hid (bTrans HB1.out hb)
     have KP1:=Lib.hid (KP1.out.below' hb)
     have KQ1:=Lib.hid (KQ1.out.below' hb)
     have KR1:=Lib.hid (KR1.out.below' hb)
     clear c0 c1 c2 d0 d1 d2 f0 f1 f2 g0 g1 g2 hb
     obtain ⟨l1,c0,c1,c2⟩:=KP1.out.c3
     obtain ⟨n1,g0,g1,g2⟩:=KQ1.out.c3
     obtain ⟨m1,d0,d1,d2⟩:=KR1.out.c3
     obtain ⟨f0,f1,f2⟩:=KR1.out.f3
     rw [hp']
     clear hp hp'
     go_wp2_with fail
     have NP:w.heap.size+1+1≠w.heap.size:=by omega
     have NQ:w.heap.size+1+1≠w.heap.size+1:=by omega
     go_region_held3 (fun v=>v.cell? ⟨w.heap.size,0,none⟩=some (.int .i64 W)∧v.cell? ⟨w.heap.size,1,none⟩=some (.int .i64 H)∧v.cell? ⟨w.heap.size,2,none⟩=some (.slice ad n cap)∧v.cell? ⟨w.heap.size+1,0,none⟩=some (.int .i64 W')∧v.cell? ⟨w.heap.size+1,1,none⟩=some (.int .i64 H')∧v.cell? ⟨w.heap.size+1,2,none⟩=some (.slice ad' n' cap'))
       (first | exact ⟨c0,c1,c2,g0,g1,g2⟩ | exact ⟨y0,y1,y2,y3,y4,y5⟩ | exact ⟨z0,z1,z2,z3,z4,z5⟩ | exact ⟨cell_far (cell_far (cell_far z0 NP) NP) NP,cell_far (cell_far (cell_far z1 NP) NP) NP,cell_far (cell_far (cell_far z2 NP) NP) NP,cell_far (cell_far (cell_far z3 NQ) NQ) NQ,cell_far (cell_far (cell_far z4 NQ) NQ) NQ,cell_far (cell_far (cell_far z5 NQ) NQ) NQ⟩)
       (first
         | (go_at_call 26;((with_reducible refine (impl_LevelsFor_yes W H ad n cap xs W' H' ad' n' cap' ys _ HN.out (by exact (HA.out.below HB1.out).of_heap rfl) hl HN'.out (by exact (HA'.out.below HB1.out).of_heap rfl) hl' HP.out HP'.out).mono ?_);rintro e v1 ⟨a1,k1,rfl,ho1,hq1⟩;have y0:=(hq1.cell l1).trans c0;have y1:=(hq1.cell l1).trans c1;have y2:=(hq1.cell l1).trans c2;have y3:=(hq1.cell n1).trans g0;have y4:=(hq1.cell n1).trans g1;have y5:=(hq1.cell n1).trans g2))
         | (go_at_call 25;((with_reducible refine (impl_screened W H ad n cap xs _ n' _ (ys.map (levelG n)) W' H' _ HN.out (by exact ((HA.out.below HB1.out).drew).below hq1) HP.out (by have:=HN'.out;simp;omega) (by exact ho1.rd) HS'.out HQ'.out).mono ?_);rintro e v2 ⟨a2,n2,c2',rfl,ho2,hn2,hq2⟩;have z0:=(hq2.cell (Nat.lt_of_lt_of_le l1 hq1.size)).trans y0;have z1:=(hq2.cell (Nat.lt_of_lt_of_le l1 hq1.size)).trans y1;have z2:=(hq2.cell (Nat.lt_of_lt_of_le l1 hq1.size)).trans y2;have z3:=(hq2.cell (Nat.lt_of_lt_of_le n1 hq1.size)).trans y3;have z4:=(hq2.cell (Nat.lt_of_lt_of_le n1 hq1.size)).trans y4;have z5:=(hq2.cell (Nat.lt_of_lt_of_le n1 hq1.size)).trans y5;have KR5:=Lib.hid (((KR1.out.drew).below' hq1).below' hq2);obtain ⟨m5,r1,r2,r3⟩:=KR5.out.c3;obtain ⟨q0,q1,q2⟩:=KR5.out.f3)))
     have HB5:=Lib.hid (bTrans (bTrans HB1.out.drew hq1) hq2)
     have LR:w.heap.size+1+1<v1.heap.size:=Nat.lt_of_lt_of_le m1 hq1.size
     have HO5:=Lib.hid ho2
     clear hq1 hq2 ho2 ho1 y0 y1 y2 y3 y4 y5 z0 z1 z2 z3 z4 z5
     go_wp2_with fail
     exact bodyPost_ret (v:= .agg #[.int .i64 W', .int .i64 H', .slice a2 n2 c2']) (by simp [results,Tryz.results9,go_sem,m5,r1,r2,r3]) rfl
       ⟨_,_,_,rfl,(((HO5.out.other (by exact LR) _).other (by exact LR) _).other (by exact LR) _).mono (by omega),hn2,((HB5.out.setCell (by simp;omega) _).setCell (by simp;omega) _).setCell (by simp;omega) _⟩
theorem placed_no {ks:List Prt} {j:Nat} {X Y:Int} {q:Prt} (hj:j<ks.length) (h:placed (ks.take j) X Y=false) (hq:prt ks j=q) (h2: ¬(q.dx=X∧q.dy=Y)):placed (ks.take (j+1)) X Y=false:=by
 rw [placed_take ks j X Y hj,h,hq,decide_eq_false h2];rfl
theorem part_no {X Y T:Int} (h: ¬(-4≤X∧X≤4∧0≤Y∧Y≤4∧(Y=0→1≤X)∧1≤T∧T≤100)):partOk ⟨X,Y,T⟩=false:=decide_eq_false h
theorem part_yes {X Y T:Int} (h:-4≤X∧X≤4∧0≤Y∧Y≤4∧(Y=0→1≤X)∧1≤T∧T≤100):partOk ⟨X,Y,T⟩=true:=decide_eq_true h
set_option maxHeartbeats 1600000 in
theorem impl_isPart (X Y T:Int) (w:World):
   Calls Tryz.prog 166 #[.agg #[.int .i64 X, .int .i64 Y, .int .i64 T]] w fun e w'=>e= .returned (.bool (partOk ⟨X,Y,T⟩))∧Below w.heap.size w w':=by
 by_cases y0:Y=0
 · subst y0
   go_enter Tryz.func166,Tryz.ntmps166
   go_wp2_with fail
   all_goals (go_ret;exact ⟨ret_bool (by first | (symm;exact part_no (by omega)) | (symm;rw [part_yes (by omega)];simp;done) | (by_cases h:T≤100 <;>first | (rw [part_yes (by omega)];simp [*];done) | (rw [part_no (by omega)];simp [*];done))),Joins.below_alloc1 _ _⟩)
 · have y1:(Y==0)=false:=by simpa using y0
   go_enter Tryz.func166,Tryz.ntmps166
   go_wp2_with fail
   all_goals (go_ret;exact ⟨ret_bool (by first | (symm;exact part_no (by omega)) | (symm;rw [part_yes (by omega)];simp;done) | (by_cases h:T≤100 <;>first | (rw [part_yes (by omega)];simp [*];done) | (rw [part_no (by omega)];simp [*];done))),Joins.below_alloc1 _ _⟩)
set_option maxHeartbeats 400000 in
theorem impl_placeOf (X Y T:Int) (w:World):
   Calls Tryz.prog 168 #[.agg #[.int .i64 X, .int .i64 Y, .int .i64 T]] w fun e w'=>e= .returned (.agg #[.int .i64 X, .int .i64 Y])∧Below w.heap.size w w':=by
 go_enter Tryz.func168,Tryz.ntmps168
 go_wp2_with fail
 exact bodyPost_ret (v:= .agg #[.int .i64 X, .int .i64 Y]) (by simp [results,Tryz.results168,go_sem]) rfl ⟨rfl,(by first | exact Joins.below_alloc2 w _ _ | exact ((Below.refl _ _).alloc (Nat.le_refl _) _).alloc (by simp) _)⟩
theorem placed_yes {ks:List Prt} {j k:Nat} {X Y:Int} {q:Prt} (hk:k≤ks.length) (hj:j<k) (hq:prt ks j=q) (h1:q.dx=X) (h2:q.dy=Y):placed (ks.take k) X Y=true:=
 placed_le (k:=j+1) (by rw [placed_take ks j X Y (by omega),hq,decide_eq_true ⟨h1,h2⟩];simp) (by omega)
set_option maxHeartbeats 1600000 in
theorem impl_hasPlace (ad:Option Addr) (k n cap:Nat) (ks:List Prt) (X Y:Int) (w:World) (hn:ks.length=n) (ha:Rd w ad (flat ks)) (hl:n≤1048576) (hk:k≤n):
   Calls Tryz.prog 167 #[.slice ad k cap, .agg #[.int .i64 X, .int .i64 Y]] w fun e w'=>e= .returned (.bool (placed (ks.take k) X Y))∧Below w.heap.size w w':=by
 have HN:=Lib.hid hn
 have HA:=Lib.hid (ha.alloc (.cells #[.int .i64 X, .int .i64 Y] 149))
 clear hn ha
 go_enter Tryz.func167,Tryz.ntmps167
 go_wp2_with fail
 have KB:=Lib.hid (Blk.new w 149 #[.int .i64 X, .int .i64 Y])
 have HBo:=Lib.hid (Joins.below_alloc1 w (.cells #[.int .i64 X, .int .i64 Y] 149))
 have HZo:w.heap.size<(w.alloc (.cells #[.int .i64 X, .int .i64 Y] 149)).heap.size:=by simp
 obtain ⟨wo,hwo⟩: ∃wo:World,wo=w.alloc (.cells #[.int .i64 X, .int .i64 Y] 149):=⟨_,rfl⟩
 rw [←hwo] at KB HA HBo HZo⊢
 clear hwo
 go_loopw [9] (fun i wz=> ∃j:Nat,j≤k∧i= .int .i64 j∧Hid (placed (ks.take j) X Y=false)∧Below wo.heap.size wo wz) (fun i _=>k - (intOf i).toNat)
 case atStart=>exact ⟨0,Nat.zero_le _,rfl,Lib.hid (placed_nil X Y),Below.refl _ _⟩
 case round=>
   obtain ⟨j,hj,rfl,HJ,hz⟩:=hrel
   have HZ:=Lib.hid hz
   have HBz:=Lib.hid (bTrans HBo.out hz)
   by_cases hlj:j<k
   · obtain ⟨ba,oa,hae,hal,c0,c1,c2⟩:=rd_part (HA.out.below hz) (k:=j) (by have:=HN.out;omega)
     subst hae
     obtain ⟨q,hq⟩: ∃q,prt ks j=q:=⟨_,rfl⟩
     rw [hq] at c0 c1 c2
     obtain ⟨X2,Y2,T2⟩:=q
     have HQ:=Lib.hid hq
     have k0:=((KB.out.below' hz).alloc (.cells #[.int .i64 X2, .int .i64 Y2, .int .i64 T2] 135)).cell 0
     have k1:=((KB.out.below' hz).alloc (.cells #[.int .i64 X2, .int .i64 Y2, .int .i64 T2] 135)).cell 1
     have kl:=(KB.out.below' hz).lt
     have p0:=(Blk.new wr 135 #[.int .i64 X2, .int .i64 Y2, .int .i64 T2]).cell 0
     have p1:=(Blk.new wr 135 #[.int .i64 X2, .int .i64 Y2, .int .i64 T2]).cell 1
     have p2:=(Blk.new wr 135 #[.int .i64 X2, .int .i64 Y2, .int .i64 T2]).cell 2
     have kl2:w.heap.size<(wr.alloc (.cells #[.int .i64 X2, .int .i64 Y2, .int .i64 T2] 135)).heap.size:=by simp;omega
     have pl2:wr.heap.size<(wr.alloc (.cells #[.int .i64 X2, .int .i64 Y2, .int .i64 T2] 135)).heap.size:=by simp
     clear hq hz
     dsimp only at c0 c1 c2
     simp only [List.getElem?_toArray,List.getElem?_cons_zero,List.getElem?_cons_succ] at k0 k1 p0 p1 p2
     by_cases e1:X2=X∧Y2=Y
     case pos=>
       obtain ⟨rfl,rfl⟩:=e1
       go_wp2_with fail
       go_region_held3 (fun v=>v.cell? ⟨w.heap.size,0,none⟩=some (.int .i64 X2)∧v.cell? ⟨w.heap.size,1,none⟩=some (.int .i64 Y2)∧v.cell? ⟨wr.heap.size,0,none⟩=some (.int .i64 X2)∧v.cell? ⟨wr.heap.size,1,none⟩=some (.int .i64 Y2)∧v.cell? ⟨wr.heap.size,2,none⟩=some (.int .i64 T2))
         (first | exact ⟨k0,k1,p0,p1,p2⟩ | exact ⟨(hb.cell kl2).trans k0,(hb.cell kl2).trans k1,(hb.cell pl2).trans p0,(hb.cell pl2).trans p1,(hb.cell pl2).trans p2⟩)
         (first
           | (go_at_call 168;((with_reducible refine (impl_placeOf _ _ _ _).mono ?_);rintro e v1 ⟨rfl,hb⟩)))
       have HB5:=Lib.hid (bTrans ((bAlloc HBz.out (.cells #[.int .i64 X2, .int .i64 Y2, .int .i64 T2] 135)).drew) hb)
       clear hb k0 k1 p0 p1 p2 c0 c1 c2
       go_wp2_with fail
       go_ret
       exact ⟨ret_bool (placed_yes (by have:=HN.out;omega) hlj HQ.out rfl rfl).symm,HB5.out⟩
     case neg=>
       by_cases e2:X2=X
       case pos=>
         have e4: ¬Y2=Y:=fun h=>e1 ⟨e2,h⟩
         have e3:(Y2==Y)=false:=by simpa using e4
         have HE:=Lib.hid e4
         clear e1 e4
         subst e2
         go_wp2_with fail
         go_region_held3 (fun v=>v.cell? ⟨w.heap.size,0,none⟩=some (.int .i64 X2)∧v.cell? ⟨w.heap.size,1,none⟩=some (.int .i64 Y)∧v.cell? ⟨wr.heap.size,0,none⟩=some (.int .i64 X2)∧v.cell? ⟨wr.heap.size,1,none⟩=some (.int .i64 Y2)∧v.cell? ⟨wr.heap.size,2,none⟩=some (.int .i64 T2))
           (first | exact ⟨k0,k1,p0,p1,p2⟩ | exact ⟨(hb.cell kl2).trans k0,(hb.cell kl2).trans k1,(hb.cell pl2).trans p0,(hb.cell pl2).trans p1,(hb.cell pl2).trans p2⟩)
           (first
             | (go_at_call 168;((with_reducible refine (impl_placeOf _ _ _ _).mono ?_);rintro e v1 ⟨rfl,hb⟩)))
         have HB5:=Lib.hid (bTrans ((bAlloc HZ.out (.cells #[.int .i64 X2, .int .i64 Y2, .int .i64 T2] 135)).drew) hb)
         clear hb k0 k1 p0 p1 p2 c0 c1 c2
         go_wp2_with fail
         go_roundw
         case rel=>exact ⟨j+1,by omega,by go_num,Lib.hid (placed_no (by have:=HN.out;omega) HJ.out HQ.out (fun h=>HE.out h.2)),HB5.out⟩
         case measure=>simp [intOf];omega
       case neg=>
         have e3:(X2==X)=false:=by simpa using e2
         have HE:=Lib.hid e2
         clear e1 e2
         go_wp2_with fail
         go_region_held3 (fun v=>v.cell? ⟨w.heap.size,0,none⟩=some (.int .i64 X)∧v.cell? ⟨w.heap.size,1,none⟩=some (.int .i64 Y)∧v.cell? ⟨wr.heap.size,0,none⟩=some (.int .i64 X2)∧v.cell? ⟨wr.heap.size,1,none⟩=some (.int .i64 Y2)∧v.cell? ⟨wr.heap.size,2,none⟩=some (.int .i64 T2))
           (first | exact ⟨k0,k1,p0,p1,p2⟩ | exact ⟨(hb.cell kl2).trans k0,(hb.cell kl2).trans k1,(hb.cell pl2).trans p0,(hb.cell pl2).trans p1,(hb.cell pl2).trans p2⟩)
           (first
             | (go_at_call 168;((with_reducible refine (impl_placeOf _ _ _ _).mono ?_);rintro e v1 ⟨rfl,hb⟩)))
         have HB5:=Lib.hid (bTrans ((bAlloc HZ.out (.cells #[.int .i64 X2, .int .i64 Y2, .int .i64 T2] 135)).drew) hb)
         clear hb k0 k1 p0 p1 p2 c0 c1 c2
         go_wp2_with fail
         go_roundw
         case rel=>exact ⟨j+1,by omega,by go_num,Lib.hid (placed_no (by have:=HN.out;omega) HJ.out HQ.out (fun h=>HE.out h.1)),HB5.out⟩
         case measure=>simp [intOf];omega
   · obtain rfl:k=j:=by omega
     go_wp2_with fail
     go_ret
     exact ⟨ret_bool HJ.out.symm,HBz.out⟩
set_option maxHeartbeats 3200000 in
theorem impl_IsKernel (ad:Option Addr) (n cap:Nat) (ks:List Prt) (w:World) (hn:ks.length=n) (ha:Rd w ad (flat ks)) (hl:n≤1048576) (hcap:n≤cap):
   Calls Tryz.prog 133 #[.slice ad n cap] w fun e w'=>e= .returned (.bool (kernOk ks))∧Below w.heap.size w w':=by
 have HN:=Lib.hid hn
 have HA:=Lib.hid ha
 clear hn ha
 by_cases hs1:n<1
 · rw [kernOk_no1 HN.out (by omega)]
   go_enter Tryz.func133,Tryz.ntmps133
   go_wp2_with fail
   go_ret
   exact ⟨rfl,Below.refl _ _⟩
 by_cases hs2:12<n
 · rw [kernOk_no1 HN.out (by omega)]
   have h0:decide ((n:Int)<1)=false:=by simp;omega
   have h1:decide (12<(n:Int))=true:=by simp;omega
   go_enter Tryz.func133,Tryz.ntmps133
   go_wp2_with fail
   go_ret
   exact ⟨rfl,Below.refl _ _⟩
 have hs3:1≤n:=by omega
 have hs4:n≤12:=by omega
 clear hs1 hs2
 go_enter Tryz.func133,Tryz.ntmps133
 go_wp2_with fail
 go_loopw [15] (fun i wr=> ∃k:Nat,k≤n∧i= .int .i64 k∧Hid (kernTo ks k=true)∧Below w.heap.size w wr) (fun i _=>n - (intOf i).toNat)
 case atStart=>exact ⟨0,Nat.zero_le _,rfl,Lib.hid rfl,Below.refl _ _⟩
 case round=>
   obtain ⟨k,hk,rfl,HT,hw⟩:=hrel
   have HW:=Lib.hid hw
   by_cases hlt:k<n
   · obtain ⟨ba,oa,hae,hal,c0,c1,c2⟩:=rd_part (HA.out.below hw) (k:=k) (by have:=HN.out;omega)
     subst hae
     obtain ⟨p,hp⟩: ∃p,prt ks k=p:=⟨_,rfl⟩
     rw [hp] at c0 c1 c2
     obtain ⟨X,Y,T⟩:=p
     have HP:=Lib.hid hp
     have HRw:=Lib.hid (HA.out.below hw)
     clear hp hw
     dsimp only at c0 c1 c2
     have p0:=(Blk.new wr 135 #[.int .i64 X, .int .i64 Y, .int .i64 T]).cell 0
     have p1:=(Blk.new wr 135 #[.int .i64 X, .int .i64 Y, .int .i64 T]).cell 1
     have p2:=(Blk.new wr 135 #[.int .i64 X, .int .i64 Y, .int .i64 T]).cell 2
     simp only [List.getElem?_toArray,List.getElem?_cons_zero,List.getElem?_cons_succ] at p0 p1 p2
     have kc:k≤cap:=by omega
     have kc2:(k:Int)≤(cap:Int):=by omega
     have k0:(0:Int)≤(k:Int):=by omega
     by_cases hp:partOk ⟨X,Y,T⟩=true
     case neg=>
       have hp2:partOk ⟨X,Y,T⟩=false:=by simpa using hp
       have HPF:=Lib.hid hp
       clear hp
       go_wp2_with fail
       first | (go_region_with (first | (go_at_call 166;((with_reducible refine (impl_isPart _ _ _ _).mono ?_);rintro e v1 ⟨rfl,hb⟩;rw [hp2])))) | fail
       all_goals
         have HB5:=Lib.hid (bTrans ((bAlloc HW.out (.cells #[.int .i64 X, .int .i64 Y, .int .i64 T] 135)).drew) hb)
         clear hb
         go_simp
         go_wp2_with fail
         go_ret
         exact ⟨ret_bool (kernOk_no2 HN.out hlt (by rw [HP.out,hp2];rfl)).symm,HB5.out⟩
     case pos=>
       have pl2:wr.heap.size<(wr.alloc (.cells #[.int .i64 X, .int .i64 Y, .int .i64 T] 135)).heap.size:=by simp
       have hkn:k≤n:=by omega
       obtain ⟨bb,hbb⟩: ∃bb,placed (ks.take k) X Y=bb:=⟨_,rfl⟩
       cases bb
       all_goals
         go_wp2_with fail
         go_region_held3 (fun v=>v.cell? ⟨wr.heap.size,0,none⟩=some (.int .i64 X)∧v.cell? ⟨wr.heap.size,1,none⟩=some (.int .i64 Y)∧v.cell? ⟨wr.heap.size,2,none⟩=some (.int .i64 T))
           (first | exact ⟨p0,p1,p2⟩ | exact ⟨(hb.cell pl2).trans p0,(hb.cell pl2).trans p1,(hb.cell pl2).trans p2⟩ | exact ⟨(hb7.cell (Nat.lt_of_lt_of_le pl2 hb.size)).trans ((hb.cell pl2).trans p0),(hb7.cell (Nat.lt_of_lt_of_le pl2 hb.size)).trans ((hb.cell pl2).trans p1),(hb7.cell (Nat.lt_of_lt_of_le pl2 hb.size)).trans ((hb.cell pl2).trans p2)⟩ | exact ⟨(hb8.cell (Nat.lt_of_lt_of_le pl2 (Nat.le_trans hb.size hb7.size))).trans ((hb7.cell (Nat.lt_of_lt_of_le pl2 hb.size)).trans ((hb.cell pl2).trans p0)),(hb8.cell (Nat.lt_of_lt_of_le pl2 (Nat.le_trans hb.size hb7.size))).trans ((hb7.cell (Nat.lt_of_lt_of_le pl2 hb.size)).trans ((hb.cell pl2).trans p1)),(hb8.cell (Nat.lt_of_lt_of_le pl2 (Nat.le_trans hb.size hb7.size))).trans ((hb7.cell (Nat.lt_of_lt_of_le pl2 hb.size)).trans ((hb.cell pl2).trans p2))⟩)
           (first
             | (go_at_call 166;((with_reducible refine (impl_isPart _ _ _ _).mono ?_);rintro e v1 ⟨rfl,hb⟩;rw [hp]))
             | (go_at_call 168;((with_reducible refine (impl_placeOf _ _ _ _).mono ?_);rintro e v2 ⟨rfl,hb7⟩))
             | (go_at_call 167;((with_reducible refine (impl_hasPlace _ k n cap ks _ _ _ HN.out (by exact (((HRw.out.alloc _).drew.below hb).below hb7).of_heap rfl) hl hkn).mono ?_);rintro e v3 ⟨rfl,hb8⟩;rw [hbb])))
         have HB5:=Lib.hid (bTrans (bTrans (bTrans ((bAlloc HW.out (.cells #[.int .i64 X, .int .i64 Y, .int .i64 T] 135)).drew) hb) hb7) hb8)
         have HZ5:=Lib.hid (show kernTo ks k=true→partOk ⟨X,Y,T⟩=true→True from fun _ _=>trivial)
         clear hb hb7 hb8 p0 p1 p2 c0 c1 c2
         go_wp2_with fail
       · have HBB:=hbb
         go_roundw
         case rel=>exact ⟨k+1,by omega,by go_num,Lib.hid (by rw [kernTo_succ,HT.out,HP.out,hp,hbb];rfl),HB5.out⟩
         case measure=>simp [intOf];omega
       · go_ret
         exact ⟨ret_bool (kernOk_no2 HN.out hlt (by rw [HP.out,hp,hbb];rfl)).symm,HB5.out⟩
   · obtain rfl:n=k:=by omega
     go_wp2_with fail
     go_ret
     exact ⟨ret_bool (kernOk_yes HN.out hs3 hs4 HT.out).symm,HW.out⟩
end Go.Proofs.YtanccoopbgamdaaGreatDoor
