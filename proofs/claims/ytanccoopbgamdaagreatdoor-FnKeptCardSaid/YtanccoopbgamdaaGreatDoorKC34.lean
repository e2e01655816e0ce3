/-
  Contracts and plain facts on which the theorem of this claim rests, text 34.
-/
import Derived.Deep.Cut
import Derived.Deep.DeepCutAuto
import Derived.Test.YtanccoopbgamdaaGreatDoorKC4
import Derived.Test.YtanccoopbgamdaaGreatDoorKC5
import Derived.Test.YtanccoopbgamdaaGreatDoorKC32
import Derived.Test.YtanccoopbgamdaaGreatDoorKC33
namespace Go.Proofs.YtanccoopbgamdaaGreatDoor
open Go.RowKit
set_option linter.unusedVariables false
set_option linter.unusedSimpArgs false
section
variable {P : Program} {ops : Array Oper} {Q : Exit → Act → World → Prop} {md : Region.Mode} {S : World → Prop} {n : Nat}
end
theorem step_make6 (w:World) {ops:Array Oper} {o:Oper} {a:Act} {K:Act→World→Prop} {Q:Exit→Act→World→Prop} {E:Prop}
   (hgd:o.guard=none) (l c:Operand) (hop:o.op=Op.makeSlice 25 l c) (kl kc:IntKind) (n:Nat) (hl:a.eval l= .int kl (n:Int)) (hc:a.eval c= .int kc (n:Int)) (hn:n≤17592186044416)
   (hK: ∀M:Array Value,RowM M n (List.replicate n 0)→K (a.put o.dst (.slice (some ⟨w.heap.size,0,none⟩) n n)) (w.alloc (.cells M 3))):
   if Region.wanted o (yielded ops a.tmps)=true then Oper.wp Tryz.prog o a w K Q else E:=by
 have hw:Region.wanted o (yielded ops a.tmps)=true:=by simp [Region.wanted,hgd]
 rw [if_pos hw]
 obtain ⟨i,hi,hz0,hz1,hz2⟩:=info_parts infoInt
 have hr:=run_make (P:=Tryz.prog) w 25 3 i (.int .i64 0) Tryz.underlying25 hi hz0 kl kc n n (by omega) (Int.le_refl _) (by rw [hz2];omega) (by omega)
 simp only [Int.toNat_natCast,hz1,Nat.mul_one] at hr
 have hm:=RowM.zero n (by unfold maxLen;omega)
 unfold Oper.wp
 simp only [Value.cells] at hr
 simp [execOp,hop,hl,hc,hr,Result.andThen]
 exact hK _ hm
structure Keep6 (S:Nat→Prop) (w w':World):Prop where
 os:w'.os=w.os
 tape:w'.tape=w.tape
 output:w'.output=w.output
 size:w.heap.size≤w'.heap.size
 block: ∀i,i<w.heap.size→ ¬S i→w'.heap[i]? =w.heap[i]?
namespace Keep6
variable {S : Nat → Prop} {w w' w2 : World}
theorem refl (S:Nat→Prop) (w:World):Keep6 S w w:=⟨rfl,rfl,rfl,Nat.le_refl _,fun _ _ _=>rfl⟩
theorem trans (h:Keep6 S w w') (k:Keep6 S w' w2):Keep6 S w w2:=
 ⟨k.os.trans h.os,k.tape.trans h.tape,k.output.trans h.output,Nat.le_trans h.size k.size,fun i hi hs=>(k.block i (Nat.lt_of_lt_of_le hi h.size) hs).trans (h.block i hi hs)⟩
theorem ofBelow (h:Below w.heap.size w w'):Keep6 S w w':=⟨h.os,h.tape,h.output,h.size,fun i hi _=>h.block i hi⟩
theorem below {B:Nat} (h:Keep6 S w w') (hS: ∀i,S i→B≤i) (hB:B≤w.heap.size):Below B w w':=
 ⟨h.os,h.tape,h.output,h.size,fun i hi=>h.block i (by omega) (fun hs=>by have:=hS i hs;omega)⟩
theorem set (h:Keep6 S w w') {a:Addr} (ha:S a.block) (u:Value):Keep6 S w (w'.setCell a u):=
 ⟨h.os,h.tape,h.output,by simpa [World.setCell] using h.size,fun i hi hs=>(Below.heap_setCell w' a u i (fun e=>hs (by rw [e];exact ha))).trans (h.block i hi hs)⟩
theorem alloc (h:Keep6 S w w') (o:Obj):Keep6 S w (w'.alloc o):=h.trans (ofBelow (Joins.below_alloc1 w' o))
theorem drew (h:Keep6 S w w'):Keep6 S w w'.drew:=⟨h.os,h.tape,h.output,h.size,h.block⟩
theorem call (h:Keep6 S w w') (hb:Below w'.heap.size w' w2):Keep6 S w w2:=h.trans (ofBelow hb)
theorem blk {g T:Nat} {cs:Array Value} (h:Keep6 S w w') (hb:Blk w g T cs) (hs: ¬S g):Blk w' g T cs:=hb.of_block (h.block g hb.lt hs)
theorem own {g n cap:Nat} {xs:List Int} (h:Keep6 S w w') (hb:Own w g n cap xs) (hs: ¬S g):Own w' g n cap xs:=hb.of_block (h.block g hb.lt hs)
theorem mono {S2:Nat→Prop} (h:Keep6 S w w') (hs: ∀i,S i→S2 i):Keep6 S2 w w':=⟨h.os,h.tape,h.output,h.size,fun i hi h2=>h.block i hi (fun h3=>h2 (hs i h3))⟩
theorem rd {ad:Option Addr} {xs:List Int} (h:Keep6 S w w') (hr:Rd w ad xs) (hs: ∀a,ad=some a→ ¬S a.block):Rd w' ad xs:=fun k hk=>by
 obtain ⟨b,off,h1,h2,h3⟩:=hr k hk
 exact ⟨b,off,h1,Nat.lt_of_lt_of_le h2 h.size,(World.cell?_of_block (by exact h.block b h2 (hs _ h1))).trans h3⟩
end Keep6
structure FSt (w:World) (B f gi gc:Nat) (W H:Int) (n:Nat) (xs cs:List Int):Prop where
 hf:B≤f
 hi:B≤gi
 hc:B≤gc
 n1:f≠gi
 n2:f≠gc
 n3:gi≠gc
 box:Blk w f 186 #[.int .i64 W, .int .i64 H, .slice (some ⟨gi,0,none⟩) n n, .slice (some ⟨gc,0,none⟩) n n]
 ink:Own w gi n n xs
 crowds:Own w gc n n cs
def Duo (gi gc:Nat) (i:Nat):Prop:=i=gi∨i=gc
namespace FSt
variable {w w' : World} {B f gi gc : Nat} {W H : Int} {n : Nat} {xs cs : List Int}
theorem below (h:FSt w B f gi gc W H n xs cs) (hb:Below w.heap.size w w'):FSt w' B f gi gc W H n xs cs:=
 ⟨h.hf,h.hi,h.hc,h.n1,h.n2,h.n3,h.box.below' hb,h.ink.below hb h.ink.lt,h.crowds.below hb h.crowds.lt⟩
theorem alloc (h:FSt w B f gi gc W H n xs cs) (o:Obj):FSt (w.alloc o) B f gi gc W H n xs cs:=h.below (Joins.below_alloc1 w o)
theorem mono {B2:Nat} (h:FSt w B f gi gc W H n xs cs) (hB:B2≤B):FSt w B2 f gi gc W H n xs cs:=
 ⟨Nat.le_trans hB h.hf,Nat.le_trans hB h.hi,Nat.le_trans hB h.hc,h.n1,h.n2,h.n3,h.box,h.ink,h.crowds⟩
theorem keep {S:Nat→Prop} (h:FSt w B f gi gc W H n xs cs) (hk:Keep6 S w w') (h1: ¬S f) (h2: ¬S gi) (h3: ¬S gc):FSt w' B f gi gc W H n xs cs:=
 ⟨h.hf,h.hi,h.hc,h.n1,h.n2,h.n3,hk.blk h.box h1,hk.own h.ink h2,hk.own h.crowds h3⟩
theorem lts (h:FSt w B f gi gc W H n xs cs):f<w.heap.size∧gi<w.heap.size∧gc<w.heap.size:=⟨h.box.lt,h.ink.lt,h.crowds.lt⟩
theorem cells (h:FSt w B f gi gc W H n xs cs):f<w.heap.size∧w.cell? ⟨f,0,none⟩=some (.int .i64 W)∧w.cell? ⟨f,1,none⟩=some (.int .i64 H)∧w.cell? ⟨f,2,none⟩=some (.slice (some ⟨gi,0,none⟩) n n)∧w.cell? ⟨f,3,none⟩=some (.slice (some ⟨gc,0,none⟩) n n):=
 ⟨h.box.lt,by rw [h.box.cell];rfl,by rw [h.box.cell];rfl,by rw [h.box.cell];rfl,by rw [h.box.cell];rfl⟩
end FSt
set_option maxRecDepth 100000 in
set_option maxHeartbeats 3200000 in
theorem impl_crowded (W H:Int) (ad:Option Addr) (n cap:Nat) (xs:List Int) (w:World) (hn:xs.length=n) (ha:Rd w ad xs) (hok:fieldOk W H xs=true):
   Calls Tryz.prog 160 #[.agg #[.int .i64 W, .int .i64 H, .slice ad n cap]] w fun e w'=> ∃f gi gc,e= .returned (.pointer (some ⟨f,0,none⟩))∧FSt w' w.heap.size f gi gc W H n xs (gen n (crowdG W H xs))∧Below w.heap.size w w':=by
 have HN:=Lib.hid hn
 have HA:=Lib.hid ha
 clear hn ha
 obtain ⟨b1,b2,b3,b4,b5,b6,b7,b8,b9⟩:=field_bd HN.out hok
 have B5:=Lib.hid b5
 have B8:=Lib.hid b8
 have B9:=Lib.hid b9
 clear b5 b8 b9
 clear hok
 go_enter Tryz.func160,Tryz.ntmps160
 go_upto_region 1 with fail
 have KP:=Lib.hid (Blk.new w 27 #[.int .i64 W, .int .i64 H, .slice ad n cap])
 have HB:=Lib.hid (Joins.below_alloc1 w (.cells #[.int .i64 W, .int .i64 H, .slice ad n cap] 27))
 have RP:=Lib.hid (HA.out.alloc (.cells #[.int .i64 W, .int .i64 H, .slice ad n cap] 27))
 obtain ⟨wo,hwo⟩: ∃wo:World,wo=w.alloc (.cells #[.int .i64 W, .int .i64 H, .slice ad n cap] 27):=⟨_,rfl⟩
 have ZO:Hid (wo.heap.size=w.heap.size+1):=Lib.hid (by rw [hwo];simp)
 rw [←hwo] at KP HB RP⊢
 clear hwo
 go_cut [3] (fun s3 wz=> ∃(wx:World) (f gi gc:Nat),wx=wz∧s3= .pointer (some ⟨f,0,none⟩)∧FSt wx wo.heap.size f gi gc W H n xs (List.replicate n 0)∧Below wo.heap.size wo wx)
 case first=>
   obtain ⟨l0,o0,o1,o2⟩:=KP.out.c3
   have MK:Hid (∀v,BelowL wo v→v.cell? ⟨w.heap.size,0,none⟩=some (.int .i64 W)∧v.cell? ⟨w.heap.size,1,none⟩=some (.int .i64 H)∧v.cell? ⟨w.heap.size,2,none⟩=some (.slice ad n cap)∧BelowL wo v):=Lib.hid (fun v hB=>⟨(hB.out.cell l0).trans o0,(hB.out.cell l0).trans o1,(hB.out.cell l0).trans o2,hB⟩)
   refine wp_region_held_drew (S:=fun v=>v.cell? ⟨w.heap.size,0,none⟩=some (.int .i64 W)∧v.cell? ⟨w.heap.size,1,none⟩=some (.int .i64 H)∧v.cell? ⟨w.heap.size,2,none⟩=some (.slice ad n cap)∧BelowL wo v) (by kernel_rfl) (MK.out _ (BelowL.start _)) ?_
   intro hHeld
   have hb0:=limb4 hHeld
   refine hTake 0 ?_
   refine hTake 2 ?_
   refine hTake 3 ?_
   refine hTake 4 ?_
   refine wpAnyH_ready (rs:=[1,5]) (by kernel_rfl) (by simp) ?_
   refine AllReadyH.cons rfl (fun K hK=>?_) (AllReadyH.cons rfl (fun K hK=>?_) AllReadyH.nil)
   · go_simp
     go_at_call 105
     ((with_reducible refine (impl_copyPicture W H ad n cap xs _ HN.out (by exact RP.out.below hb0.out) B9.out B5.out).mono ?_);rintro e v1 ⟨gi,rfl,hgi,hoi,hq1⟩)
     have hb1:=BelowL.call hb0 hq1
     go_wp2_with fail
     refine hK.out _ _ (by (try dsimp only);exact MK.out _ hb1) (fun hHeld=>?_)
     clear hK K
     refine hOne 5 (fun K hK=>?_)
     refine step_make6 _ rfl (.tmp 10) (.tmp 10) rfl .i64 .i64 n rfl rfl (by omega) ?_
     intro M hM
     have hb2:=BelowL.alloc hb1 (.cells M 3)
     refine hK.out _ _ (by (try dsimp only);exact MK.out _ hb2) (fun hHeld=>?_)
     clear hK K
     refine hTake 6 ?_
     refine hOne 7 (fun K hK=>?_)
     go_simp
     have hb3:=BelowL.alloc hb2 (.cells #[.int .i64 W, .int .i64 H, .slice (some ⟨gi,0,none⟩) n n, .slice (some ⟨v1.heap.size,0,none⟩) n n] 186)
     refine hK.out _ _ (by (try dsimp only);exact MK.out _ hb3) (fun hHeld=>?_)
     clear hK K
     refine hTake 8 ?_
     refine wpAnyH_done (by kernel_rfl) ?_ _
     (try go_simp)
     go_wp2_with fail
     go_meet
     have li:=hoi.lt
     have h1:=hb1.le
     refine ⟨_,_,gi,v1.heap.size,rfl,rfl,⟨?_,?_,h1,?_,?_,?_,Blk.new' _ _ (by simp),(hoi.alloc _).alloc _,(hM.own v1).alloc _⟩,hb3.out⟩
     · (try simp);omega
     · exact hgi
     · (try simp);omega
     · (try simp);(try omega)
     · omega
   · refine step_make6 _ rfl (.tmp 10) (.tmp 10) rfl .i64 .i64 n rfl rfl (by omega) ?_
     intro M hM
     have hbS:=BelowL.alloc hb0 (.cells M 3)
     have hb1:BelowL wo (wo.alloc (.cells M 3)).drew:=BelowL.mk (bAlloc (Below.refl wo.heap.size wo) (.cells M 3)).drew
     refine hK.out _ _ (by (try dsimp only);exact MK.out _ hbS) (fun hHeld=>?_)
     clear hK K
     refine hOne 1 (fun K hK=>?_)
     go_simp
     go_at_call 105
     ((with_reducible refine (impl_copyPicture W H ad n cap xs _ HN.out (by exact ((RP.out.alloc (.cells M 3)).drew)) B9.out B5.out).mono ?_);rintro e v1 ⟨gi,rfl,hgi,hoi,hq1⟩)
     have hb2:=BelowL.call hb1 hq1
     go_wp2_with fail
     refine hK.out _ _ (by (try dsimp only);exact MK.out _ hb2) (fun hHeld=>?_)
     clear hK K
     refine hTake 6 ?_
     refine hOne 7 (fun K hK=>?_)
     go_simp
     have hb3:=BelowL.alloc hb2 (.cells #[.int .i64 W, .int .i64 H, .slice (some ⟨gi,0,none⟩) n n, .slice (some ⟨wo.heap.size,0,none⟩) n n] 186)
     refine hK.out _ _ (by (try dsimp only);exact MK.out _ hb3) (fun hHeld=>?_)
     clear hK K
     refine hTake 8 ?_
     refine wpAnyH_done (by kernel_rfl) ?_ _
     (try go_simp)
     go_wp2_with fail
     go_meet
     have li:=hoi.lt
     have h2:=hb2.le
     have zd:(wo.alloc (.cells M 3)).drew.heap.size=wo.heap.size+1:=by show (wo.alloc (.cells M 3)).heap.size=_;simp
     have hm2:=Own.below ((hM.own wo).drewN 1) hq1 (by show wo.heap.size<(wo.alloc (.cells M 3)).drew.heap.size;omega)
     have lm:=hm2.lt
     have hgi2:wo.heap.size+1≤gi:=by rw [←zd];exact hgi
     refine ⟨_,_,gi,wo.heap.size,rfl,rfl,⟨?_,?_,Nat.le_refl _,?_,?_,?_,Blk.new _ _ _,(hoi.alloc _),hm2.alloc _⟩,hb3.out⟩
     · omega
     · omega
     · omega
     · omega
     · omega
 case rest=>
   obtain ⟨wx,f,gi,gc,rfl,rfl,hf,hb⟩:=hcut
   have HF:=Lib.hid hf
   have HWB:=Lib.hid hb
   have KP:=Lib.hid (KP.out.below' hb)
   have RP:=Lib.hid (RP.out.below hb)
   clear hf hb
   obtain ⟨l0,o0,o1,o2⟩:=KP.out.c3
   go_wp2_with fail
   refine (impl_dotsOf W H ad n cap xs _ HN.out (by exact RP.out) (Or.inr ⟨b1,by simp only [];omega,b3,by simp only [];omega,by simp only [];rw [HN.out];exact B5.out,by simp only [];rw [HN.out];exact b6⟩)).mono ?_
   rintro e w3 ⟨sa,d,sc,rfl,hd,ho,hb⟩
   have HD:=Lib.hid hd
   have HFX:Hid (gc<wx.heap.size):=Lib.hid HF.out.lts.2.2
   have HF:=Lib.hid (HF.out.below hb)
   have HWB:=Lib.hid (bTrans HWB.out hb)
   have KP:=Lib.hid (KP.out.below' hb)
   have HBd:Hid (∀a,sa=some a→wx.heap.size≤a.block):=Lib.hid (fun a ha=>(ho.bd a.block (by rw [ha];rfl)).1)
   have RS:=Lib.hid ho.rd
   have CI:=Lib.hid (fun (k:Nat) (hk:k<n) (v:World)=>impl_cellOf W H ad n cap k v b1 (by omega) B5.out b6 hk)
   have CW:=Lib.hid (fun (k:Nat) (hk:k<n) (v:World) hr=>impl_crowdOf W H ad sa n cap d sc k (onesTo xs n) v b1 b2 b3 b4 B5.out b6 hk (fun j hj=>(ones_mem.1 hj).1) HD.out (by have:=ones_len xs n;have:=HD.out;omega) hr)
   have CE:=Lib.hid (fun k=>sumW_ones W H xs k n)
   have CG:Hid (∀k,crowdG W H xs k=crowdTo W H xs k n):=Lib.hid (fun k=>by unfold crowdG;rw [HN.out])
   obtain ⟨ls,hls⟩: ∃ls,onesTo xs n=ls:=⟨_,rfl⟩
   rw [hls] at CW CE RS
   clear hd ho hb hls l0 o0 o1 o2
   obtain ⟨lf,p0,p1,p2,p3⟩:=HF.out.cells
   go_wp2_with fail
   go_loopw [21] (fun i wr=> ∃k:Nat,k≤n∧i= .int .i64 k∧Hid (Own wr gc n n (filled (gen n (crowdG W H xs)) (List.replicate n 0) k))∧Hid (Keep6 (fun i=>i=gc) w3 wr)) (fun i _=>n - (intOf i).toNat)
   case atStart=>exact ⟨0,Nat.zero_le _,rfl,Lib.hid (by rw [filled_zero];exact HF.out.crowds),Lib.hid (Keep6.refl _ _)⟩
   case round=>
     obtain ⟨k,hk,rfl,HO,HK⟩:=hrel
     by_cases hlt:k<n
     · have KPr:=Lib.hid (HK.out.blk KP.out (by have:=HF.out.hc;have:=ZO.out;omega))
       have KFr:=Lib.hid (HK.out.blk HF.out.box HF.out.n2)
       have RSr:=Lib.hid (HK.out.rd RS.out (fun a ha e=>by have:=HBd.out a ha;have:=HFX.out;omega))
       have C1:=Lib.hid (CI.out k hlt)
       have C2:=Lib.hid (CW.out k hlt)
       obtain ⟨P,hP⟩: ∃P,(k:Int) % W=P:=⟨_,rfl⟩
       obtain ⟨Q,hQ⟩: ∃Q,(k:Int)/W=Q:=⟨_,rfl⟩
       rw [hP,hQ] at C1 C2
       have hs:=filled_succ (gen n (crowdG W H xs)) (List.replicate n 0) k _ (by rw [gen_len];exact hlt) (by simp;omega) (gen_get _ _ _ hlt)
       rw [CG.out,←CE.out] at hs
       obtain ⟨C,hC⟩: ∃C,sumW W H k ls=C:=⟨_,rfl⟩
       rw [hC] at hs C2
       have HS:=Lib.hid hs
       clear hs hP hQ hC lf p0 p1 p2 p3
       obtain ⟨l0,o0,o1,o2⟩:=KPr.out.c3
       have lf:=KFr.out.lt
       have p3:wr.cell? ⟨f,3,none⟩=some (.slice (some ⟨gc,0,none⟩) n n):=by rw [KFr.out.cell];rfl
       go_upto_region 6 with fail
       have MK:Hid (∀v,BelowL wr v→v.cell? ⟨w.heap.size,0,none⟩=some (.int .i64 W)∧v.cell? ⟨w.heap.size,1,none⟩=some (.int .i64 H)∧v.cell? ⟨w.heap.size,2,none⟩=some (.slice ad n cap)∧v.cell? ⟨f,3,none⟩=some (.slice (some ⟨gc,0,none⟩) n n)∧BelowL wr v):=Lib.hid (fun v hB=>⟨(hB.out.cell l0).trans o0,(hB.out.cell l0).trans o1,(hB.out.cell l0).trans o2,(hB.out.cell lf).trans p3,hB⟩)
       refine wp_region_T 12 (fun v=>v.cell? ⟨w.heap.size,0,none⟩=some (.int .i64 W)∧v.cell? ⟨w.heap.size,1,none⟩=some (.int .i64 H)∧v.cell? ⟨w.heap.size,2,none⟩=some (.slice ad n cap)∧v.cell? ⟨f,3,none⟩=some (.slice (some ⟨gc,0,none⟩) n n)∧BelowL wr v) (by kernel_rfl) (MK.out _ (BelowL.start _)) ?_
       intro hHeld
       have hb0:=limb5 hHeld
       refine tTake 0 ?_
       refine tTake 1 ?_
       refine tTake 2 ?_
       refine tTake 3 ?_
       refine tTake 4 ?_
       refine tTake 5 ?_
       refine tTake 6 ?_
       refine tTake 7 ?_
       refine tTake 8 ?_
       refine tOne 9 (fun K hK=>?_)
       go_simp
       go_at_call 196
       ((with_reducible refine (C1.out _).mono ?_);rintro e v1 ⟨rfl,hq1⟩)
       have hb1:=BelowL.call hb0 hq1
       go_wp2_with fail
       refine hK.out _ _ (fun _=>by (try dsimp only);exact MK.out _ hb1) (fun hH2=>?_)
       clear hK K hHeld
       have hHeld:=hH2 (by decide)
       refine tOne 10 (fun K hK=>?_)
       go_simp
       go_at_call 195
       ((with_reducible refine (C2.out _ (by exact RSr.out.below hb1.out)).mono ?_);rintro e v2 ⟨rfl,hq2⟩)
       have hb2:=BelowL.call hb1 hq2
       go_wp2_with fail
       refine hK.out _ _ (fun _=>by (try dsimp only);exact MK.out _ hb2) (fun hH3=>?_)
       clear hK K hHeld
       have HOv:=Lib.hid (HO.out.below hb2.out HO.out.lt)
       have HKv:=Lib.hid (HK.out.call hb2.out)
       have h2c:=HOv.out.cell hlt
       have h3c:=HOv.out.frozen k
       have hHeld:=hH3 (by decide)
       refine tTake 11 ?_
       refine tOne 12 (fun K hK=>?_)
       go_simp
       refine hK.out _ _ (fun h=>absurd h (by decide)) (fun hH4=>?_)
       clear hK K hH4 hH3 hH2 hHeld
       refine wpAnyT_done (by kernel_rfl) ?_ _
       (try go_simp)
       go_wp2_with fail
       go_roundw
       case rel=>exact ⟨k+1,by omega,by go_num,Lib.hid (by rw [←HS.out];exact HOv.out.set k C),Lib.hid (HKv.out.set rfl _)⟩
       case measure=>simp [intOf];omega
     · obtain rfl:k=n:=by omega
       have HO2:Hid (Own wr gc k k (gen k (crowdG W H xs))):=Lib.hid (by have h:=HO.out;rwa [filled_at _ _ _ (gen_len _ _) (by simp)] at h)
       have HFr:Hid (FSt wr w.heap.size f gi gc W H k xs (gen k (crowdG W H xs))):=Lib.hid (by
         have h:=HF.out
         have z:=ZO.out
         exact ⟨by have:=h.hf;omega,by have:=h.hi;omega,by have:=h.hc;omega,h.n1,h.n2,h.n3,HK.out.blk h.box h.n2,HK.out.own h.ink h.n3,HO2.out⟩)
       have HBr:Hid (Below w.heap.size w wr):=Lib.hid (by
         have h:=HF.out.hc
         have z:=ZO.out
         exact ((HB.out.trans (HWB.out.mono (by omega)))).trans (HK.out.below (B:=w.heap.size) (fun i hi=>by rw [hi];omega) (by have:=HWB.out.size;omega)))
       go_wp2_with fail
       go_ret
       exact ⟨_,_,_,rfl,HFr.out,HBr.out⟩
theorem limbS6 {a b c d e f:Prop} (h:a∧b∧c∧d∧e∧f):f:=h.2.2.2.2.2
def OrdBy (h:Nat) (key:Int→Int):Prop:= ∀(a b:Int) (u:World),Calls Tryz.prog h #[.int .i64 a, .int .i64 b] u fun e u'=> ∃c:Int,e= .returned (.int .i64 c)∧(c<0↔key a<key b)∧Below u.heap.size u u'
def keyT (a:Int):Int:=-(1*a)
def keyW (a:Int):Int:=-(-1*a)
theorem ordW:OrdBy 127 keyW:=fun a b u=>(cmp6 a b u).mono (fun e u' ⟨c,h1,h2,h3⟩=>⟨c,h1,by unfold keyW;omega,by rw [←h3];exact Below.refl _ _⟩)
theorem ordT:OrdBy 199 keyT:=fun a b u=>by
 go_enter Tryz.func199,Tryz.ntmps199
 go_wp2_with fail
 refine (cmp6 b a _).mono ?_
 rintro e w1 ⟨c,rfl,hc,rfl⟩
 go_wp2_with fail
 go_ret
 exact ⟨c,rfl,by unfold keyT;omega,Below.refl _ _⟩
theorem entT: ∀args w,(callFunc 199 args).run Tryz.prog w= .ok (.enter 199 args) w:=enters6 _ _ _ Tryz.func199 (by kernel_rfl) rfl
theorem entW: ∀args w,(callFunc 127 args).run Tryz.prog w= .ok (.enter 127 args) w:=enters6 _ _ _ Tryz.func127 (by kernel_rfl) rfl
set_option maxHeartbeats 400000 in
theorem impl_tightest (w:World):Calls Tryz.prog 163 #[] w fun e w'=>e= .returned (.agg #[.int .i64 1, .func (.func 199) #[] #[]])∧Below w.heap.size w w':=by
 have hst:=fun (v:World) (a:Addr) (m:Mode)=>run_store Tryz.prog v a (.func (.func 199) #[] #[]) m rfl
 go_enter Tryz.func163,Tryz.ntmps163
 go_wp2_with fail
 exact bodyPost_ret (v:= .agg #[.int .i64 1, .func (.func 199) #[] #[]]) (by simp [results,Tryz.results163,go_sem]) rfl ⟨rfl,by first | exact Joins.below_alloc1 _ _ | exact ((Joins.below_alloc1 _ _).setCell (by simp) _).setCell (by simp) _⟩
set_option maxHeartbeats 400000 in
theorem impl_widest (w:World):Calls Tryz.prog 164 #[] w fun e w'=>e= .returned (.agg #[.int .i64 0, .func (.func 127) #[] #[]])∧Below w.heap.size w w':=by
 have hst:=fun (v:World) (a:Addr) (m:Mode)=>run_store Tryz.prog v a (.func (.func 127) #[] #[]) m rfl
 go_enter Tryz.func164,Tryz.ntmps164
 go_wp2_with fail
 exact bodyPost_ret (v:= .agg #[.int .i64 0, .func (.func 127) #[] #[]]) (by simp [results,Tryz.results164,go_sem]) rfl ⟨rfl,by first | exact Joins.below_alloc1 _ _ | exact ((Joins.below_alloc1 _ _).setCell (by simp) _).setCell (by simp) _⟩
set_option maxRecDepth 100000 in
set_option maxHeartbeats 1600000 in
theorem chosenC (h:Nat) (bc bf fb gc n i k:Nat) (X Y:Int) (K:Prop) (w:World) (eh: ∀args w,(callFunc h args).run Tryz.prog w= .ok (.enter h args) w)
   (cc:w.cell? ⟨bc,1,none⟩=some (.func (.func h) #[] #[])) (cf:w.cell? ⟨bf,0,none⟩=some (.pointer (some ⟨fb,0,none⟩))) (cs:w.cell? ⟨fb,3,none⟩=some (.slice (some ⟨gc,0,none⟩) n n)) (ci:w.cell? ⟨gc,i,none⟩=some (.int .i64 X)) (ck:w.cell? ⟨gc,k,none⟩=some (.int .i64 Y))
   (zc:bc<w.heap.size) (zf:bf<w.heap.size) (zb:fb<w.heap.size) (zg:gc<w.heap.size) (hi:i<n) (hk:k<n)
   (hord: ∀v,Calls Tryz.prog h #[.int .i64 X, .int .i64 Y] v fun e v'=> ∃c:Int,e= .returned (.int .i64 c)∧(c<0↔K)∧Below v.heap.size v v'):
   Calls Tryz.prog 218 #[.int .i64 i, .int .i64 k, .pointer (some ⟨bc,0,none⟩), .pointer (some ⟨bf,0,none⟩)] w fun e w'=> ∃c:Int,e= .returned (.int .i64 c)∧(c<0↔K)∧Below w.heap.size w w':=by
 have MK:Hid (∀v,BelowL w v→v.cell? ⟨bc,1,none⟩=some (.func (.func h) #[] #[])∧v.cell? ⟨bf,0,none⟩=some (.pointer (some ⟨fb,0,none⟩))∧v.cell? ⟨fb,3,none⟩=some (.slice (some ⟨gc,0,none⟩) n n)∧v.cell? ⟨gc,i,none⟩=some (.int .i64 X)∧v.cell? ⟨gc,k,none⟩=some (.int .i64 Y)∧BelowL w v):=Lib.hid (fun v hh=>⟨(hh.out.cell zc).trans cc,(hh.out.cell zf).trans cf,(hh.out.cell zb).trans cs,(hh.out.cell zg).trans ci,(hh.out.cell zg).trans ck,hh⟩)
 have CC:=Lib.hid hord
 have pi:(i:Int)<(n:Int):=by omega
 have pk:(k:Int)<(n:Int):=by omega
 clear hord
 go_enter Tryz.func218,Tryz.ntmps218
 go_wp2_with fail
 go_region_held3 (fun v=>v.cell? ⟨bc,1,none⟩=some (.func (.func h) #[] #[])∧v.cell? ⟨bf,0,none⟩=some (.pointer (some ⟨fb,0,none⟩))∧v.cell? ⟨fb,3,none⟩=some (.slice (some ⟨gc,0,none⟩) n n)∧v.cell? ⟨gc,i,none⟩=some (.int .i64 X)∧v.cell? ⟨gc,k,none⟩=some (.int .i64 Y)∧BelowL w v)
   (first | exact MK.out _ hb1 | exact MK.out _ (BelowL.start _))
   (first
     | (go_at_fn h;((with_reducible refine (CC.out _).mono ?_);rintro e v1 ⟨cc,rfl,hcc,hq1⟩;have hb1:=BelowL.call (limbS6 (by assumption)) hq1)))
 have HC:=Lib.hid hcc
 have HBF:=Lib.hid hb1
 clear hcc hb1 MK CC
 go_wp2_with fail
 go_ret
 exact ⟨cc,rfl,HC.out,HBF.out.out⟩
set_option maxRecDepth 100000 in
set_option maxHeartbeats 3200000 in
theorem impl_chosen (h:Nat) (key:Int→Int) (v:Int) {w:World} {B f gi gc:Nat} {W H:Int} {n:Nat} {xs cs:List Int} (eh: ∀args w,(callFunc h args).run Tryz.prog w= .ok (.enter h args) w) (ho:OrdBy h key) (F:FSt w B f gi gc W H n xs cs) (hn:n≤256):
   Calls Tryz.prog 197 #[.pointer (some ⟨f,0,none⟩), .agg #[.int .i64 v, .func (.func h) #[] #[]]] w fun e w'=>e= .returned (.int .i64 (bestTo xs v (fun j=>key (cs.getD j 0)) n))∧Below w.heap.size w w':=by
 have HO:=Lib.hid ho
 have EH:=Lib.hid eh
 have F2:=Lib.hid ((F.alloc (.cells #[.pointer (some ⟨f,0,none⟩)] 182)).alloc (.cells #[.int .i64 v, .func (.func h) #[] #[]] 189))
 have KF:=Lib.hid ((Blk.new w 182 #[.pointer (some ⟨f,0,none⟩)]).alloc (.cells #[.int .i64 v, .func (.func h) #[] #[]] 189))
 have KC:=Lib.hid (Blk.new' (g:=w.heap.size+1) (w:=w.alloc (.cells #[.pointer (some ⟨f,0,none⟩)] 182)) 189 #[.int .i64 v, .func (.func h) #[] #[]] (by simp))
 have HB:=Lib.hid (bAlloc (bAlloc (Below.refl w.heap.size w) (.cells #[.pointer (some ⟨f,0,none⟩)] 182)) (.cells #[.int .i64 v, .func (.func h) #[] #[]] 189))
 clear F ho eh
 go_enter Tryz.func197,Tryz.ntmps197
 go_upto_region 1 with fail
 obtain ⟨wo,hwo⟩: ∃wo:World,wo=(w.alloc (.cells #[.pointer (some ⟨f,0,none⟩)] 182)).alloc (.cells #[.int .i64 v, .func (.func h) #[] #[]] 189):=⟨_,rfl⟩
 have ZO:Hid (wo.heap.size=w.heap.size+1+1):=Lib.hid (by rw [hwo];simp)
 rw [←hwo] at F2 KF KC HB⊢
 clear hwo
 obtain ⟨lf,p0,p1,p2,p3⟩:=F2.out.cells
 have lk:=KF.out.lt
 have k0:wo.cell? ⟨w.heap.size,0,none⟩=some (.pointer (some ⟨f,0,none⟩)):=by rw [KF.out.cell];rfl
 go_wp2_with fail
 go_loopw [5,15] (fun r i wr=> ∃(k d cp:Nat) (a:Option Addr),k≤n∧i= .int .i64 k∧r= .slice a d cp∧(placesTo xs v k).length=d∧OwnA wr wo.heap.size a d cp (placesTo xs v k)∧Below wo.heap.size wo wr) (fun _ i _=>n - (intOf i).toNat)
 case atStart=>exact ⟨0,0,0,none,Nat.zero_le _,rfl,rfl,rfl,OwnA.none _ _,Below.refl _ _⟩
 case round=>
   obtain ⟨k,d,cp,a,hk,rfl,rfl,hd,ho,hwr⟩:=hrel
   have HD:=Lib.hid hd
   have HOW:=Lib.hid ho
   have HWr:=Lib.hid hwr
   have KCr:=Lib.hid (KC.out.below' hwr)
   have Fr:=Lib.hid (F2.out.below hwr)
   have KFr:=Lib.hid (KF.out.below' hwr)
   have dle:d≤k:=by rw [←hd];exact places_len _ _ _
   clear hwr hd ho
   by_cases hlt:k<n
   · have g1:=Fr.out.ink.cell hlt
     obtain ⟨V,hV⟩: ∃V,xs.getD k 0=V:=⟨_,rfl⟩
     rw [hV] at g1
     have HV:=Lib.hid hV
     have lc:=KCr.out.lt
     have c0:wr.cell? ⟨w.heap.size+1,0,none⟩=some (.int .i64 v):=by rw [KCr.out.cell];rfl
     clear hV p0 p1 p2 p3 k0 lf lk
     by_cases hv1:V=v
     · subst hv1
       have EQ:Hid (placesTo xs V (k+1)=placesTo xs V k++ [(k:Int)]):=Lib.hid (places_yes HV.out)
       go_wp2_with (at_builtin;refine wp_append _ rfl (.tmp 24) (.tmp 26) rfl wo.heap.size d cp a _ rfl (HOW.out.alloc _) wr.heap.size (k:Int) rfl (by go_simp) (by omega) (by have:=HWr.out.size;simp;omega) ?_;intro ad2 cap2 w5 ho5 hg5)
       have HW5:=Lib.hid ((HWr.out.alloc HWr.out.size _).grown hg5 (by have:=HWr.out.size;simp;omega) (fun b hb=>by have:=HOW.out.bd b hb;omega))
       have HO5:=Lib.hid ho5
       clear ho5 hg5
       go_roundw
       case rel=>exact ⟨k+1,d+1,cap2,ad2,by omega,by go_num,rfl,by rw [EQ.out,List.length_append,HD.out];rfl,by rw [EQ.out];exact HO5.out,HW5.out⟩
       case measure=>simp [intOf];omega
     · have EQ:Hid (placesTo xs v (k+1)=placesTo xs v k):=Lib.hid (places_no (by rw [HV.out];exact hv1))
       go_wp2_with fail
       go_roundw
       case rel=>exact ⟨k+1,d,cp,a,by omega,by go_num,rfl,by rw [EQ.out];exact HD.out,by rw [EQ.out];exact HOW.out,HWr.out⟩
       case measure=>simp [intOf];omega
   · obtain rfl:k=n:=by omega
     have HBF:=Lib.hid (bTrans HB.out HWr.out)
     clear p0 p1 p2 p3 k0 lf lk
     by_cases hd0:d=0
     · subst hd0
       have E:Hid (bestTo xs v (fun j=>key (cs.getD j 0)) k=-1):=Lib.hid (by
         rcases best_cases xs v (fun j=>key (cs.getD j 0)) k with h | ⟨i,h1,h2,h3⟩
         · exact h.1
         · obtain ⟨q,hq,_⟩:=places_on h2 h3
           have:=HD.out
           omega)
       go_wp2_with fail
       go_ret
       exact ⟨ret_int E.out.symm,HBF.out⟩
     · have hd1:0<d:=by omega
       obtain ⟨ga,rfl,hgB,hog⟩: ∃g,a=some ⟨g,0,none⟩∧wo.heap.size≤g∧Own wr g d cp (placesTo xs v k):=by
         rcases HOW.out with ⟨_,h,_⟩ | h
         · omega
         · exact h
       have HG:=Lib.hid hog
       have hq0:((d:Int)==0)=false:=by simp;omega
       have EG:Hid (∀args w,(callFunc 218 args).run Tryz.prog w= .ok (.enter 218 args) w):=Lib.hid (enters6 _ _ _ Tryz.func218 (by kernel_rfl) rfl)
       clear hog hd0
       go_wp2_with fail
       refine (seq6 218 #[.pointer (some ⟨w.heap.size+1,0,none⟩), .pointer (some ⟨w.heap.size,0,none⟩)] ga d cp (fun t=>(placesTo xs v k).getD t 0) (fun t=>key (cs.getD ((placesTo xs v k).getD t.toNat 0).toNat 0)) wr EG.out (by omega) hd1 (fun t ht=>HG.out.cell ht) HG.out.lt (by
         intro u hu i j hi hj
         obtain ⟨I,i1,i2,i3⟩:=places_at (xs:=xs) (v:=v) (k:=k) (j:=i) (by rw [HD.out];exact hi)
         obtain ⟨J,j1,j2,j3⟩:=places_at (xs:=xs) (v:=v) (k:=k) (j:=j) (by rw [HD.out];exact hj)
         simp only [Int.toNat_natCast]
         rw [i1,j1]
         simp only [Int.toNat_natCast]
         have Fu:=Fr.out.below hu
         have Ku:=KFr.out.below' hu
         have Cu:=KCr.out.below' hu
         exact chosenC h (w.heap.size+1) w.heap.size f gc k I J (cs.getD I 0) (cs.getD J 0) _ u EH.out (by rw [Cu.cell];rfl) (by rw [Ku.cell];rfl) Fu.cells.2.2.2.2 (Fu.crowds.cell i2) (Fu.crowds.cell j2) Cu.lt Ku.lt Fu.lts.1 Fu.lts.2.2 i2 j2 (fun y=>HO.out (cs.getD I 0) (cs.getD J 0) y))).mono ?_
       rintro e w2 ⟨fq,blk,rfl,hbk,hob,hgd,hb⟩
       have HGD:=Lib.hid hgd
       obtain ⟨q0,q1⟩:=hgd.2 0 (Nat.le_refl _) hd1
       obtain ⟨q,hq⟩: ∃q:Nat,fq 0=(q:Int):=⟨(fq 0).toNat,by simp at q0;omega⟩
       have hqd:q<d:=by rw [hq] at q1;omega
       have s0:=hob.cell hd1
       rw [gen_get _ _ _ hd1,hq] at s0
       have s1:=(HG.out.below hb HG.out.lt).cell hqd
       have HB2:=Lib.hid (bTrans HBF.out hb)
       have HQ:=Lib.hid hq
       have E:Hid ((placesTo xs v k).getD q 0=bestTo xs v (fun j=>key (cs.getD j 0)) k):=Lib.hid (by
         have h:=sorted_best (c:=fun j=>key (cs.getD j 0)) HD.out hd1 HGD.out
         rw [HQ.out,Int.toNat_natCast] at h
         exact h.one (best_is _ _ _ _))
       obtain ⟨R,hR⟩: ∃R,(placesTo xs v k).getD q 0=R:=⟨_,rfl⟩
       rw [hR] at s1 E
       clear hR hb hgd q0 q1 hq hob
       go_wp2_with fail
       go_ret
       exact ⟨ret_int E.out,HB2.out⟩
theorem best_gen {W H:Int} {xs:List Int} {n:Nat} {key:Int→Int} {v:Int} (hn:xs.length=n):bestTo xs v (fun j=>key ((gen n (crowdG W H xs)).getD j 0)) n=bestTo xs v (fun j=>key (crowdG W H xs j)) xs.length:=by
 rw [hn]
 exact ((best_is xs v (fun j=>key ((gen n (crowdG W H xs)).getD j 0)) n).congr (fun j hj=>by simp only [gen_get _ _ _ hj])).one (best_is xs v _ n)
end Go.Proofs.YtanccoopbgamdaaGreatDoor
