/-
  Contracts and plain facts on which the theorem of this claim rests, text 46.
-/
import Derived.Test.YtanccoopbgamdaaGreatDoorKC5
import Derived.Test.YtanccoopbgamdaaGreatDoorKC21
import Derived.Test.YtanccoopbgamdaaGreatDoorKC44
import Derived.Test.YtanccoopbgamdaaGreatDoorKC45
namespace Go.Proofs.YtanccoopbgamdaaGreatDoor
open Go.ChangeShapes Go.WideShapes Go.ChangeAt Go.RowKit
set_option linter.unusedVariables false
set_option linter.unusedSimpArgs false
set_option maxRecDepth 100000 in
set_option maxHeartbeats 3200000 in
theorem spec_l8Any (c:Nat) (ac:Option Addr) (nc capc:Nat) (bs:List Int) (w:World) (hc:Cur w c ac nc capc bs):
   Calls Tryz.prog 34 #[.pointer (some ⟨c,0,none⟩)] w (AnyOut w c ac nc capc bs):=by
 have hcl:=hc.lt
 go_enter Tryz.func34,Tryz.ntmps34
 go_wp2_with fail
 refine (spec_l1Draw c ac nc capc bs 6 _ (hc.alloc _) (by omega) (by omega)).mono ?_
 rintro e w1 ⟨W,H,g,n,xs,rfl,b1,b2,b3,b4,hq,hg,ho,hw,hc1,hg1⟩
 have HC1:=Lib.hid hc1
 have G1:=Lib.hid (grown_trans (World.grownBy_alloc w (.cells #[.int .i64 0, .int .i64 0, .slice none 0 0, .int .i64 0, .int .i64 0, .slice none 0 0, .slice none 0 0] 43) (some c)) hg1)
 have KR1:=Lib.hid ((Blk.new w 43 #[.int .i64 0, .int .i64 0, .slice none 0 0, .int .i64 0, .int .i64 0, .slice none 0 0, .slice none 0 0]).grown hg1 (by intro e;have:=Option.some.inj e;omega))
 have HO1:=Lib.hid ho
 have hgl:=ho.lt
 simp only [World.size_alloc] at hg
 have HN:=Lib.hid hq
 have n1:1*1≤W*H:=Int.mul_le_mul b1 b3 (by omega) (by omega)
 have n2:W*H≤6*6:=Int.mul_le_mul b2 b4 (by omega) (by omega)
 have hn1:1≤n:=by omega
 have hn2:n≤36:=by omega
 clear hc1 hg1 ho hw hq n1 n2 b3 b4
 go_wp2_with fail
 refine (spec_l2Draw c ac nc capc bs _ HC1.out).mono ?_
 rintro e w2 ⟨mW,mH,ma,mn,mc,ys,rfl,hm,m1,m2,hom,hc2,hg2⟩
 obtain ⟨mg,hma⟩: ∃b,ma=some ⟨b,0,none⟩:=ownA_addr hom (by
   unfold matOk at hm
   simp only [Bool.and_eq_true,decide_eq_true_eq] at hm
   have hz:=matSize_bd hm.1
   have hl:(ys.length:Int)=mW*mH:=hm.2.1
   have:=hom.len
   omega)
 have hmn:1≤mn∧mn≤1048576:=by
   unfold matOk at hm
   simp only [Bool.and_eq_true,decide_eq_true_eq] at hm
   have hz:=matSize_bd hm.1
   have hl:(ys.length:Int)=mW*mH:=hm.2.1
   have:=hom.len
   omega
 subst hma
 have hmb:=hom.bd mg rfl
 have ST:Hid (AnyS w (w2.alloc (.cells #[.int .i64 W, .int .i64 H, .slice (some ⟨g,0,none⟩) n n, .int .i64 mW, .int .i64 mH, .slice (some ⟨mg,0,none⟩) mn mc, .slice none 0 0] 43)) c ac nc capc bs w2.heap.size ⟨⟨W,H,some ⟨g,0,none⟩,n,n,xs⟩,⟨mW,mH,some ⟨mg,0,none⟩,mn,mc,ys⟩,none,0,0,[]⟩):=Lib.hid (by
   have hs1:=KR1.out.lt
   have hs2:=hg2.size
   have hs0:=G1.out.size
   refine ⟨Blk.new _ _ _,OwnD.alloc ⟨(OwnA.mk (HO1.out.grown hg2 (by intro e;have:=Option.some.inj e;omega)) (by omega)),hom.mono (by omega),OwnV.nil _ _,?_,?_,?_⟩ _,hc2.alloc _,grown_trans (grown_trans G1.out hg2) (World.grownBy_alloc _ _ _),(KR1.out.grown hg2 (by intro e;have:=Option.some.inj e;omega)).alloc _,hcl,by omega,?_⟩
   · intro b hb e
     cases hb
     cases e
     omega
   · rintro b (hb | ⟨k,hk,_⟩)
     · cases hb
     · simp at hk
   · rintro b (hb | ⟨k,hk,_⟩)
     · cases hb
     · simp at hk
   · rintro b (hb | hb | hb | ⟨k,hk,_⟩)
     · simp only [blockOf,Option.some.injEq] at hb;omega
     · simp only [blockOf,Option.some.injEq] at hb;omega
     · cases hb
     · simp at hk)
 have PL:Hid (PlD ⟨⟨W,H,some ⟨g,0,none⟩,n,n,xs⟩,⟨mW,mH,some ⟨mg,0,none⟩,mn,mc,ys⟩,none,0,0,[]⟩):=Lib.hid ⟨⟨hn1,by show n≤1024;omega⟩,⟨b1,b2⟩,⟨g,rfl⟩,hmn,⟨mg,rfl⟩,fun k hk=>by simp at hk⟩
 have HDB:Hid (w.heap.size+1≤w2.heap.size):=Lib.hid ST.out.dbB
 clear hom hc2 hg2 hm HO1 KR1 HC1 G1 HN hgl hg hmb m1 m2 hmn hn1 hn2 b1 b2
 go_wp2_with fail
 refine (spec_l01Below c ac nc capc bs 5 _ ST.out.cur (by omega) (by omega)).mono ?_
 rintro e w4 ⟨v,rfl,v0,v1,hc4,hg4⟩
 have ST4:=Lib.hid (ST.out.call hc4 hg4)
 obtain ⟨db,hdb⟩: ∃b,w2.heap.size=b:=⟨_,rfl⟩
 rw [hdb] at ST4 HDB⊢
 clear ST hc4 hg4 hdb
 go_wp2_with fail
 go_loopw [4] (fun i wr=> ∃(m:Nat) (D:Dsk),i= .int .i64 m∧m+D.n≤4∧AnyS w wr c ac nc capc bs db D∧PlD D) (fun i _=>(intOf i).toNat)
 case atStart=>exact ⟨v.toNat,_,by congr 1;omega,by show v.toNat+0≤4;omega,ST4.out,PL.out⟩
 case round=>
   clear PL ST4 v0 v1
   obtain ⟨m,D,rfl,hmD,hst,hpl⟩:=hrel
   have ST:=Lib.hid hst
   have PL:=Lib.hid hpl
   obtain ⟨⟨W,H,pa,pn,pc,xs⟩,⟨mW,mH,ma,mn,mc,ys⟩,a,k,cp,ps⟩:=D
   have hp1:=hpl.p
   have hp2:=hpl.w
   obtain ⟨bp,hbp⟩:=hpl.pa
   obtain ⟨bm,hbm⟩:=hpl.ma
   have hm1:=hpl.m
   dsimp only at hp1 hp2 hbp hbm hm1 hmD
   subst hbp hbm
   have hlen:=hst.own.s.len
   dsimp only at hlen
   clear hst hpl
   by_cases hlt:0<m
   · obtain ⟨l0,c0,c1,c2,c3,c4,c5,c6⟩:=ST.out.box.c7
     go_upto_region 6 with fail
     obtain ⟨wo,hwo⟩: ∃x,x=wr.alloc (.cells #[.int .i64 W, .int .i64 H, .slice none 0 0] 27):=⟨_,rfl⟩
     rw [←hwo]
     have hz:=fun b (hb:wr.heap.size≤b)=>ST.out.new hb
     have STo:=Lib.hid (ST.out.alloc (.cells #[.int .i64 W, .int .i64 H, .slice none 0 0] 27))
     have KQ:=Lib.hid (Blk.new wr 27 #[.int .i64 W, .int .i64 H, .slice none 0 0])
     obtain ⟨qb,hqb⟩: ∃b,wr.heap.size=b:=⟨_,rfl⟩
     rw [←hwo,hqb] at KQ
     rw [←hwo] at STo
     rw [hqb] at hz⊢
     have QN:=Lib.hid hz
     have hzo:wo.heap.size=qb+1:=by rw [hwo,←hqb];simp
     clear hwo ST l0 c0 c1 c2 c3 c4 c5 c6 hqb hz
     obtain ⟨l0,c0,c1,c2,c3,c4,c5,c6⟩:=STo.out.box.c7
     go_wp2_with fail
     clear l0 c0 c1 c2 c3 c4 c5 c6
     go_loopw [28] (fun i wr=> ∃(j:Nat) (qa:Option Addr) (qc:Nat) (zs:List Int),j≤pn∧i= .int .i64 j∧Blk wr qb 27 #[.int .i64 W, .int .i64 H, .slice qa j qc]∧OwnA wr (qb+1) qa j qc zs∧qb+1≤wr.heap.size∧AnyS w wr c ac nc capc bs db ⟨⟨W,H,some ⟨bp,0,none⟩,pn,pc,xs⟩,⟨mW,mH,some ⟨bm,0,none⟩,mn,mc,ys⟩,a,k,cp,ps⟩) (fun i _=>pn - (intOf i).toNat)
     case atStart=>exact ⟨0,none,0,[],Nat.zero_le _,rfl,KQ.out,OwnA.none _ _,by omega,STo.out⟩
     case round=>
       clear KQ STo hzo
       obtain ⟨j,qa,qc,zs,hj,rfl,hkq,hoq,hqz,hst⟩:=hrel
       have KQ:=Lib.hid hkq
       have OQ:=Lib.hid hoq
       have ST:=Lib.hid hst
       clear hkq hoq hst
       by_cases hjl:j<pn
       · obtain ⟨l0,z0,z1,z2⟩:=KQ.out.c3
         go_upto_region 8 with fail
         refine wp_region_T 5 (fun v=>v.cell? ⟨qb,2,none⟩=some (.slice qa j qc)) (by kernel_rfl) z2 ?_
         intro hHeld
         clear l0 z0 z1 z2
         refine tTake 0 ?_
         refine tTake 1 ?_
         refine tTake 2 ?_
         refine tOne 3 (fun K hK=>?_)
         go_simp
         go_at_call 54
         ((with_reducible refine (spec_l01Below c ac nc capc bs 2 _ (by exact ST.out.cur.drew) (by omega) (by omega)).mono ?_);rintro e v1 ⟨x,rfl,x0,x1,hcv,hgv⟩)
         have ST1:=Lib.hid (ST.out.drew.call hcv hgv)
         have KQ1:=Lib.hid (KQ.out.drew.grown hgv (by intro e;have:=Option.some.inj e;have:=(QN.out qb (Nat.le_refl _)).1;have:=ST.out.cb;omega))
         have OQ1:=Lib.hid ((OQ.out.drewN 1).grown hgv (by intro b e;cases e;have:=(QN.out qb (Nat.le_refl _)).1;have:=ST.out.cb;omega))
         have hzv:wr.heap.size≤v1.heap.size:=hgv.size
         clear hcv hgv
         obtain ⟨l1,z0,z1,z2⟩:=KQ1.out.c3
         go_wp2_with fail
         refine hK.out _ _ (fun _=>by (try dsimp only);exact z2) (fun hH2=>?_)
         clear hK K hHeld
         refine tOne 4 (fun K hK=>?_)
         go_simp
         refine hK.out _ _ (fun _=>by (try dsimp only);exact cell_al z2) (fun hH2=>?_)
         clear hK K
         refine tOne 5 (fun K hK=>?_)
         refine step_append _ (by rfl) (.tmp 31) (.tmp 34) (by rfl) (qb+1) j qc qa zs (by rfl) (OQ1.out.alloc _) v1.heap.size x (by rfl) (by first | go_simp | simp) (by omega) (by simp;omega) ?_
         intro ad2 cap2 w5 ho5 hg5
         have ST5:=Lib.hid ((ST1.out.alloc _).row hg5 (fun b hb=>QN.out b (by have:=(OQ1.out.bd b hb).1;omega)))
         have KQ5:=Lib.hid ((KQ1.out.alloc _).grownS hg5 (fun b hb=>by have:=(OQ1.out.bd b hb).1;omega))
         have OQ5:=Lib.hid ho5
         have hz5:=hg5.size
         simp only [World.size_alloc] at hz5
         clear ho5 hg5 l1 z0 z1 z2
         obtain ⟨l5,z0,z1,z2⟩:=KQ5.out.c3
         obtain ⟨f0,f1,f2⟩:=KQ5.out.f3
         refine hK.out _ _ (fun h=>absurd h (by decide)) (fun hH2=>?_)
         clear hK K
         refine tOne 6 (fun K hK=>?_)
         go_simp
         refine hK.out _ _ (fun h=>absurd h (by decide)) (fun hH2=>?_)
         clear hK K hH2
         refine tOne 7 (fun K hK=>?_)
         go_simp
         refine hK.out _ _ (fun h=>absurd h (by decide)) (fun hH2=>?_)
         clear hK K hH2
         refine wpAnyT_done (by kernel_rfl) ?_ _
         (try go_simp)
         go_wp2_with fail
         go_roundw
         case rel=>exact ⟨j+1,ad2,cap2,zs++ [x],by omega,by go_num,by simpa using KQ5.out.set 2 (.slice ad2 (j+1) cap2),OQ5.out.other (by simp) _,by simp;omega,ST5.out.set (by exact QN.out qb (Nat.le_refl _)) _⟩
         case measure=>simp [intOf];omega
       · obtain rfl:j=pn:=by omega
         obtain ⟨l0,c0,c1,c2,c3,c4,c5,c6⟩:=ST.out.box.c7
         obtain ⟨l1,z0,z1,z2⟩:=KQ.out.c3
         have hw1:IntKind.i64.wrap ((m:Int) - 1)=((m - 1:Nat):Int):=by rw [IntWalk.i64_in _ (by omega)];omega
         obtain ⟨qg,hqg⟩:=ownA_addr OQ.out (by omega)
         go_wp2_with (at_builtin;refine wp_appVl _ rfl 41 Tryz.underlying41 infoPicZ (.tmp 39) (.tmp 41) rfl (w.heap.size+1) k cp a ps rfl (ST.out.alloc _).own.s.toRowVA wr.heap.size ⟨W,H,qa,j,qc,zs⟩ rfl (by go_simp) (by go_simp) (by go_simp) (by omega) (by have:=ST.out.res.lt;simp;omega) ?_;intro ad2 cap2 w5 ho5 hg5 hx5;have KD5:=Lib.hid ((ST.out.alloc _).box.grownS hg5 (fun b hb=>(ST.out.apart b (.inr (.inr (.inl hb))))));have STs:=Lib.hid ((ST.out.alloc _).snoc ho5 hg5 hx5 ((OQ.out.alloc _).mono (by have:=(QN.out qb (Nat.le_refl _)).1;omega)) (fun b hb=>(QN.out b (by have:=(OQ.out.bd b hb).1;omega)).2));clear ho5 hg5 hx5;obtain ⟨m0,d0,d1,d2,d3,d4,d5,d6⟩:=KD5.out.c7;obtain ⟨f0,f1,f2,f3,f4,f5,f6⟩:=KD5.out.f7)
         go_roundw
         case rel=>exact ⟨m - 1,_,by first | rfl | exact congrArg _ hw1,by show m - 1+(k+1)≤4;omega,STs.out,PL.out.snoc (by show j≤1048576;omega) ⟨qg,hqg⟩ _ _ _⟩
         case measure=>simp [intOf];omega
   · obtain rfl:m=0:=by omega
     go_wp2_with fail
     refine (spec_l01Once c ac nc capc bs 12 _ ST.out.cur (by omega) (by omega)).mono ?_
     rintro e w7 ⟨b7,rfl,hc7,hg7⟩
     have ST7:=Lib.hid (ST.out.call hc7 hg7)
     clear ST hc7 hg7
     have SM:=PL.out.small (by dsimp only;omega)
     have AD:=PL.out.addr
     cases b7
     · obtain ⟨l0,c0,c1,c2,c3,c4,c5,c6⟩:=ST7.out.box.c7
       obtain ⟨r0,d0,d1,d2,d3,d4,d5,d6⟩:=ST7.out.res.c7
       obtain ⟨f0,f1,f2,f3,f4,f5,f6⟩:=ST7.out.res.f7
       go_wp2_with fail
       exact bodyPost_ret (v:=Dsk.val ⟨⟨W,H,some ⟨bp,0,none⟩,pn,pc,xs⟩,⟨mW,mH,some ⟨bm,0,none⟩,mn,mc,ys⟩,a,k,cp,ps⟩) (by simp [results,Tryz.results34,go_sem,Dsk.val,d0,d1,d2,d3,d4,d5,d6]) rfl ⟨_,rfl,(ST7.out.out7 _ _ _ _ _ _ _).1,⟨SM.p,SM.m,SM.n,SM.s⟩,⟨AD.p,AD.m,AD.s⟩,(ST7.out.out7 _ _ _ _ _ _ _).2.1,(ST7.out.out7 _ _ _ _ _ _ _).2.2⟩
     · go_wp2_with fail
       refine (spec_l01Below c ac nc capc bs 3 _ ST7.out.cur (by omega) (by omega)).mono ?_
       rintro e w8 ⟨v,rfl,v0,v1,hc8,hg8⟩
       have ST8:=Lib.hid (ST7.out.call hc8 hg8)
       clear ST7 hc8 hg8
       by_cases e0:v=0
       · subst e0
         obtain ⟨l0,c0,c1,c2,c3,c4,c5,c6⟩:=ST8.out.box.c7
         obtain ⟨f0,f1,f2,f3,f4,f5,f6⟩:=ST8.out.box.f7
         go_upto_region 18 with fail
         obtain ⟨w9,hw9⟩: ∃x,x=w8.setCell ⟨db,0,none⟩ (.int .i64 (W+1)):=⟨_,rfl⟩
         rw [←hw9]
         have ST9:=Lib.hid (ST8.out.width (W+1))
         rw [←hw9] at ST9
         clear hw9 l0 c0 c1 c2 c3 c4 c5 c6 f0 f1 f2 f3 f4 f5 f6
         obtain ⟨l0,c0,c1,c2,c3,c4,c5,c6⟩:=ST9.out.box.c7
         obtain ⟨r0,d0,d1,d2,d3,d4,d5,d6⟩:=ST9.out.res.c7
         obtain ⟨f0,f1,f2,f3,f4,f5,f6⟩:=ST9.out.res.f7
         go_wp2_with fail
         exact bodyPost_ret (v:=Dsk.val ⟨⟨W+1,H,some ⟨bp,0,none⟩,pn,pc,xs⟩,⟨mW,mH,some ⟨bm,0,none⟩,mn,mc,ys⟩,a,k,cp,ps⟩) (by simp [results,Tryz.results34,go_sem,Dsk.val,d0,d1,d2,d3,d4,d5,d6]) rfl ⟨_,rfl,(ST9.out.out7 _ _ _ _ _ _ _).1,⟨SM.p,SM.m,SM.n,SM.s⟩,⟨AD.p,AD.m,AD.s⟩,(ST9.out.out7 _ _ _ _ _ _ _).2.1,(ST9.out.out7 _ _ _ _ _ _ _).2.2⟩
       · have q0:(v==0)=false:=by simpa using e0
         by_cases e1:v=1
         · subst e1
           clear q0 e0
           obtain ⟨l0,c0,c1,c2,c3,c4,c5,c6⟩:=ST8.out.box.c7
           have hbmi:(0:Int)<(mn:Int):=by omega
           have hbmn:0<mn:=by omega
           go_upto_region 17 with fail
           refine wp_region_T 7 (fun v=>v.cell? ⟨db,5,none⟩=some (.slice (some ⟨bm,0,none⟩) mn mc)) (by kernel_rfl) c5 ?_
           intro hHeld
           refine tTake 0 ?_
           refine tTake 1 ?_
           refine tTake 2 ?_
           refine tTake 3 ?_
           refine tOne 4 (fun K hK=>?_)
           go_simp
           refine hK.out _ _ (fun _=>by (try dsimp only);exact cell_alW _ c5) (fun hH2=>?_)
           clear hK K hHeld
           have hHeld:=hH2 (by decide)
           refine tOne 5 (fun K hK=>?_)
           go_simp
           go_at_call 56
           ((with_reducible refine (spec_l01Int c ac nc capc bs _ 2 2 [-1,9223372036854775807] _ (by exact (ST8.out.cur.alloc _).drew) rfl (by exact (rd_lit2 _ _ _ _).drew) (by intro b off e;have:=ST8.out.cur.lt;cases e;simp;omega) (by omega) (by omega)).mono ?_);rintro e v1 ⟨x,rfl,hxm,hcv,hgv⟩)
           have ST1:=Lib.hid ((ST8.out.alloc _).drew.call hcv hgv)
           clear hcv hgv hxm c0 c1 c2 c3 c4 c5 c6 l0
           obtain ⟨l0,c0,c1,c2,c3,c4,c5,c6⟩:=ST1.out.box.c7
           have HMo:=ownA_own ST1.out.own.m
           have t2:=HMo.cell (by omega:0<mn)
           have t3:=HMo.frozen 0
           clear HMo
           go_wp2_with fail
           refine hK.out _ _ (fun _=>by (try dsimp only);exact c5) (fun hH2=>?_)
           clear hK K hHeld
           have hHeld:=hH2 (by decide)
           refine tOne 6 (fun K hK=>?_)
           go_simp
           refine hK.out _ _ (fun _=>by (try dsimp only);exact c5) (fun hH2=>?_)
           clear hK K hH2 hHeld
           refine tOne 7 (fun K hK=>?_)
           go_simp
           refine hK.out _ _ (fun h=>absurd h (by decide)) (fun hH2=>?_)
           clear hK K hH2
           refine wpAnyT_done (by kernel_rfl) ?_ _
           (try go_simp)
           go_upto_region 18 with fail
           obtain ⟨w9,hw9⟩: ∃y,y=v1.setCell ⟨bm,0,none⟩ (.int .i64 x):=⟨_,rfl⟩
           rw [←hw9]
           have ST9:=Lib.hid (ST1.out.rank0 rfl x)
           rw [←hw9] at ST9
           clear hw9 l0 c0 c1 c2 c3 c4 c5 c6 t2 t3
           obtain ⟨l0,c0,c1,c2,c3,c4,c5,c6⟩:=ST9.out.box.c7
           obtain ⟨r0,d0,d1,d2,d3,d4,d5,d6⟩:=ST9.out.res.c7
           obtain ⟨f0,f1,f2,f3,f4,f5,f6⟩:=ST9.out.res.f7
           go_wp2_with fail
           exact bodyPost_ret (v:=Dsk.val ⟨⟨W,H,some ⟨bp,0,none⟩,pn,pc,xs⟩,⟨mW,mH,some ⟨bm,0,none⟩,mn,mc,ys.set 0 x⟩,a,k,cp,ps⟩) (by simp [results,Tryz.results34,go_sem,Dsk.val,d0,d1,d2,d3,d4,d5,d6]) rfl ⟨_,rfl,(ST9.out.out7 _ _ _ _ _ _ _).1,⟨SM.p,SM.m,SM.n,SM.s⟩,⟨AD.p,AD.m,AD.s⟩,(ST9.out.out7 _ _ _ _ _ _ _).2.1,(ST9.out.out7 _ _ _ _ _ _ _).2.2⟩
         · have q1:(v==1)=false:=by simpa using e1
           obtain ⟨l0,c0,c1,c2,c3,c4,c5,c6⟩:=ST8.out.box.c7
           go_upto_region 13 with fail
           refine wp_region_T 5 (fun v=>v.cell? ⟨db,6,none⟩=some (.slice a k cp)) (by kernel_rfl) c6 ?_
           intro hHeld
           clear c0 c1 c2 c3 c4 c5 c6 l0
           refine tTake 0 ?_
           refine tTake 1 ?_
           refine tTake 2 ?_
           refine tOne 3 (fun K hK=>?_)
           go_simp
           go_at_call 57
           ((with_reducible refine (spec_l1Plate c ac nc capc bs _ (by exact ST8.out.cur.drew)).mono ?_);rintro e v1 ⟨W2,H2,g2,nn2,xs2,rfl,s1,s2,s3,s4,hq2,hgg2,ho2,hcv,hgv⟩)
           have n1:1*1≤W2*H2:=Int.mul_le_mul s1 s3 (by omega) (by omega)
           have n2:W2*H2≤7*7:=Int.mul_le_mul s2 s4 (by omega) (by omega)
           have hn1:1≤nn2:=by omega
           have hn2:nn2≤49:=by omega
           have ST1:=Lib.hid (ST8.out.drew.call hcv hgv)
           have HN2:=Lib.hid (ST8.out.new (b:=g2) hgg2)
           have HO2:=Lib.hid ho2
           clear hcv hgv n1 n2 hq2 ho2 hgg2
           obtain ⟨l0,c0,c1,c2,c3,c4,c5,c6⟩:=ST1.out.box.c7
           go_wp2_with fail
           refine hK.out _ _ (fun _=>by (try dsimp only);exact c6) (fun hH2=>?_)
           clear hK K hHeld
           refine tOne 4 (fun K hK=>?_)
           go_simp
           refine hK.out _ _ (fun _=>by (try dsimp only);exact cell_al c6) (fun hH2=>?_)
           clear hK K
           refine tOne 5 (fun K hK=>?_)
           refine step_appV _ (by rfl) 41 Tryz.underlying41 infoPicZ (.tmp 49) (.tmp 52) (by rfl) (w.heap.size+1) k cp a ps (by rfl) (ST1.out.alloc _).own.s.toRowVA v1.heap.size ⟨W2,H2,some ⟨g2,0,none⟩,nn2,nn2,xs2⟩ (by rfl) (by first | go_simp | simp) (by first | go_simp | simp) (by first | go_simp | simp) (by omega) (by have:=ST1.out.res.lt;simp;omega) ?_
           intro ad2 cap2 w5 ho5 hg5 hx5
           have KD5:=Lib.hid ((ST1.out.alloc _).box.grownS hg5 (fun b hb=>(ST1.out.apart b (.inr (.inr (.inl hb))))))
           have STs:=Lib.hid ((ST1.out.alloc _).snoc ho5 hg5 hx5 (OwnA.mk (HO2.out.alloc _) (by exact HN2.out.1)) (fun b hb=>by cases hb;exact HN2.out.2))
           clear ho5 hg5 hx5 l0 c0 c1 c2 c3 c4 c5 c6
           obtain ⟨m0,d0,d1,d2,d3,d4,d5,d6⟩:=KD5.out.c7
           obtain ⟨f0,f1,f2,f3,f4,f5,f6⟩:=KD5.out.f7
           refine hK.out _ _ (fun h=>absurd h (by decide)) (fun hH2=>?_)
           clear hK K hH2
           refine tOne 6 (fun K hK=>?_)
           go_simp
           refine hK.out _ _ (fun h=>absurd h (by decide)) (fun hH2=>?_)
           clear hK K hH2
           refine tOne 7 (fun K hK=>?_)
           go_simp
           refine hK.out _ _ (fun h=>absurd h (by decide)) (fun hH2=>?_)
           clear hK K hH2
           refine wpAnyT_done (by kernel_rfl) ?_ _
           (try go_simp)
           go_upto_region 18 with fail
           obtain ⟨w9,hw9⟩: ∃y,y=w5.setCell ⟨db,6,none⟩ (.slice ad2 (k+1) cap2):=⟨_,rfl⟩
           rw [←hw9]
           have ST9:=Lib.hid STs.out
           dsimp only at ST9
           rw [←hw9] at ST9
           have PL9:=PL.out.snoc (p:=⟨W2,H2,some ⟨g2,0,none⟩,nn2,nn2,xs2⟩) (by show nn2≤1048576;omega) ⟨g2,rfl⟩ ad2 (k+1) cap2
           have SM:=PL9.small (by dsimp only;omega)
           have AD:=PL9.addr
           clear hw9 m0 d0 d1 d2 d3 d4 d5 d6 f0 f1 f2 f3 f4 f5 f6
           obtain ⟨l0,c0,c1,c2,c3,c4,c5,c6⟩:=ST9.out.box.c7
           obtain ⟨r0,d0,d1,d2,d3,d4,d5,d6⟩:=ST9.out.res.c7
           obtain ⟨f0,f1,f2,f3,f4,f5,f6⟩:=ST9.out.res.f7
           go_wp2_with fail
           exact bodyPost_ret (v:=Dsk.val ⟨⟨W,H,some ⟨bp,0,none⟩,pn,pc,xs⟩,⟨mW,mH,some ⟨bm,0,none⟩,mn,mc,ys⟩,ad2,k+1,cap2,ps++ [⟨W2,H2,some ⟨g2,0,none⟩,nn2,nn2,xs2⟩]⟩) (by simp [results,Tryz.results34,go_sem,Dsk.val,d0,d1,d2,d3,d4,d5,d6]) rfl ⟨_,rfl,(ST9.out.out7 _ _ _ _ _ _ _).1,⟨SM.p,SM.m,SM.n,SM.s⟩,⟨AD.p,AD.m,AD.s⟩,(ST9.out.out7 _ _ _ _ _ _ _).2.1,(ST9.out.out7 _ _ _ _ _ _ _).2.2⟩
end Go.Proofs.YtanccoopbgamdaaGreatDoor
namespace Go.Proofs.YtanccoopbgamdaaGreatDoor
open Go.RowKit
set_option linter.unusedVariables false
set_option linter.unusedSimpArgs false
theorem digit_byte (d:Nat) (h:d<10):(UInt8.ofNat (48+d)).toNat=48+d:=by
 rw [UInt8.toNat_ofNat'];omega
theorem dec_digit (u:Nat): ∀c,c ∈ Lib.decDigits u→48≤c.toNat∧c.toNat≤57:=by
 induction u using Nat.strongRecOn with
 | _ u ih=>
   intro c hc
   by_cases h:u<10
   · rw [Lib.decDigits,dif_pos h,List.mem_singleton] at hc
     rw [hc,digit_byte u h];omega
   · rw [Lib.decDigits,dif_neg h,List.mem_append,List.mem_singleton] at hc
     rcases hc with hc | rfl
     · exact ih (u/10) (by omega) c hc
     · rw [digit_byte (u % 10) (by omega)];omega
def refused (l:List UInt8):Prop:=l=ansWhat∨l=ansNo∨l=ansNone∨l=ansFull
def Ref (F:Dat→Dat × List UInt8):Prop:= ∀d,refused (F d).2→(F d).1=d
theorem ok_kept: ¬refused ansOk:=by unfold refused;decide
theorem ref_pic (p:Pic):Ref (actPic p):=by
 intro d h
 unfold actPic at h⊢
 split at h
 · exact absurd h ok_kept
 · rw [if_neg (by assumption)]
theorem ref_mat (f:Pic→Pic):Ref (actMat f):=by
 intro d h
 unfold actMat at h⊢
 split at h
 · exact absurd h ok_kept
 · rw [if_neg (by assumption)]
theorem ref_level (i:Int):Ref (actLevel i):=fun d _=>rfl
theorem ref_plate {f:Dat→Pic × List UInt8} (hf: ∀d,¬refused (f d).2):Ref (actPlate f):=by
 intro d h
 unfold actPlate at h⊢
 split at h
 · rw [if_pos (by assumption)]
 · exact absurd h (hf d)
theorem ref_told {F:Dat→Pic→Dat × List UInt8} (hF: ∀d q,(F d q).1=d):Ref (actLast F):=by
 intro d h
 unfold actLast at h⊢
 split
 · rfl
 · exact hF _ _
theorem ref_done {F:Dat→Pic→Dat × List UInt8} (hF: ∀d q,(F d q).2=ansOk):Ref (actLast F):=by
 intro d h
 unfold actLast at h⊢
 split at h
 · rw [if_pos (by assumption)]
 · rw [hF] at h
   exact absurd h ok_kept
theorem itoa_kept (v:Int): ¬refused (Lib.itoa v):=by
 have hd: ∀c,c ∈ Lib.itoa v→c.toNat≤57:=by
   intro c hc
   unfold Lib.itoa at hc
   split at hc
   · rcases List.mem_cons.1 hc with rfl | hc
     · decide
     · exact (dec_digit _ c hc).2
   · exact (dec_digit _ c hc).2
 rintro (h | h | h | h)
 · have:=hd 119 (by rw [h];simp [ansWhat]);revert this;decide
 · have:=hd 110 (by rw [h];simp [ansNo]);revert this;decide
 · have:=hd 110 (by rw [h];simp [ansNone]);revert this;decide
 · have:=hd 102 (by rw [h];simp [ansFull]);revert this;decide
theorem ref_diff (ks:List Prt) (alt:Bool):Ref (actPlate (diffT ks alt)):=ref_plate (fun d=>by
 unfold diffT
 dsimp only
 rw [textI_one]
 exact itoa_kept _)
theorem ref_screen:Ref (actPlate screenT):=ref_plate (fun d=>ok_kept)
theorem ite_ref {F:Dat→Dat × List UInt8} {c:Prop} [Decidable c] {a b:Option (Dat→Dat × List UInt8)} (ha:a=some F→Ref F) (hb:b=some F→Ref F):(if c then a else b)=some F→Ref F:=by
 split
 · exact ha
 · exact hb
theorem ref_plain {l:List UInt8} {F:Dat→Dat × List UInt8}:plainF l=some F→Ref F:=by
 unfold plainF
 refine ite_ref (fun h=>by cases h;exact ref_told (fun _ _=>rfl)) ?_
 refine ite_ref (fun h=>by cases h;exact ref_told (fun _ _=>rfl)) ?_
 refine ite_ref (fun h=>by cases h;exact ref_told (fun _ _=>rfl)) ?_
 refine ite_ref (fun h=>by cases h;exact ref_told (fun _ _=>rfl)) ?_
 refine ite_ref (fun h=>by cases h;exact ref_told (fun _ _=>rfl)) ?_
 refine ite_ref (fun h=>by cases h;exact ref_done (fun _ _=>rfl)) ?_
 refine ite_ref (fun h=>by cases h;exact ref_done (fun _ _=>rfl)) ?_
 refine ite_ref (fun h=>by cases h;exact ref_done (fun _ _=>rfl)) ?_
 refine ite_ref (fun h=>by cases h;exact ref_done (fun _ _=>rfl)) ?_
 refine ite_ref (fun h=>by cases h;exact ref_diff _ _) ?_
 refine ite_ref (fun h=>by cases h;exact ref_diff _ _) ?_
 refine ite_ref (fun h=>by cases h;exact ref_diff _ _) ?_
 refine ite_ref (fun h=>by cases h;exact ref_diff _ _) ?_
 refine ite_ref (fun h=>by cases h;exact ref_screen) ?_
 refine ite_ref (fun h=>by cases h;exact ref_mat _) ?_
 intro h
 cases h
theorem ref_num {l:List UInt8} {xs:List Int} {F:Dat→Dat × List UInt8}:numF l xs=some F→Ref F:=by
 unfold numF
 refine ite_ref (fun h=>by cases h;exact ref_pic _) ?_
 refine ite_ref (fun h=>by cases h;exact ref_pic _) ?_
 refine ite_ref (fun h=>by cases h;exact ref_mat _) ?_
 refine ite_ref (fun h=>by cases h;exact ref_mat _) ?_
 refine ite_ref (fun h=>by cases h;exact ref_mat _) ?_
 refine ite_ref (fun h=>by cases h;exact ref_mat _) ?_
 refine ite_ref (fun h=>by cases h;exact ref_mat _) ?_
 refine ite_ref (fun h=>by cases h;exact ref_level _) ?_
 intro h
 cases h
theorem runF_refused {d:Dat} (s:ByteArray) (h:refused (runF d s).2):(runF d s).1=d:=by
 unfold runF at h⊢
 split at h
 · rename_i hd
   rw [if_pos hd]
   split at h
   · rename_i hz
     rw [if_pos hz]
   · rename_i hz
     rw [if_neg hz]
     cases hl:lineF s with
     | none=>rfl
     | some F=>
       rw [hl] at h
       dsimp only at h⊢
       unfold lineF at hl
       split at hl
       · rename_i G hG
         cases hl
         exact ref_plain hG d h
       · split at hl
         · exact ref_num hl d h
         · cases hl
 · rename_i hd
   rw [if_neg hd]
theorem runF_bad {d:Dat} (s:ByteArray) (h:deskOk d=false):runF d s=(d,ansBad):=by
 unfold runF
 rw [if_neg (by rw [h];decide)]
end Go.Proofs.YtanccoopbgamdaaGreatDoor
