/-
  Contracts and plain facts on which the theorem of this claim rests, text 35.
-/
import Derived.Test.YtanccoopbgamdaaGreatDoorKC5
import Derived.Test.YtanccoopbgamdaaGreatDoorKC10
import Derived.Test.YtanccoopbgamdaaGreatDoorKC34
namespace Go.Proofs.YtanccoopbgamdaaGreatDoor
open Go.RowKit
set_option linter.unusedVariables false
set_option linter.unusedSimpArgs false
theorem filled_old (ys xs:List Int) (k:Nat) (h:k<xs.length) (hl:xs.length=ys.length):(filled ys xs k).getD k 0=xs.getD k 0:=by
 have e:(ys.take k).length=k:=by rw [List.length_take];omega
 unfold filled
 simp only [List.getD]
 rw [List.getElem?_append_right (by omega),e,Nat.sub_self,List.getElem?_drop]
 simp
theorem crowd_flip {W H:Int} {xs:List Int} {i:Nat} {v:Int} (hv:v=0∨v=1) (hi:i<xs.length) (h:xs.getD i 0=v) (k:Nat):crowdG W H (xs.set i (1 - v)) k=crowdG W H xs k+(1 - 2*v)*wtG W H k i:=by
 rcases hv with rfl | rfl
 · have:=crowd_put (W:=W) (H:=H) k hi h
   simp only [Int.sub_zero,Int.mul_zero,Int.one_mul]
   exact this
 · have:=crowd_take (W:=W) (H:=H) k hi h
   rw [show (1:Int) - 1=0 by decide,this]
   omega
set_option maxRecDepth 100000 in
set_option maxHeartbeats 3200000 in
theorem impl_flip (h:Nat) (key:Int→Int) (v:Int) {w:World} {B f gi gc:Nat} {W H:Int} {n:Nat} {xs:List Int} (hv:v=0∨v=1) (eh: ∀args w,(callFunc h args).run Tryz.prog w= .ok (.enter h args) w) (ho:OrdBy h key) (F:FSt w B f gi gc W H n xs (gen n (crowdG W H xs))) (hok:fieldOk W H xs=true)
   (i:Nat) (hb:bestTo xs v (fun j=>key (crowdG W H xs j)) xs.length=i) (hi:i<xs.length) (hx:xs.getD i 0=v):
   Calls Tryz.prog 162 #[.pointer (some ⟨f,0,none⟩), .agg #[.int .i64 v, .func (.func h) #[] #[]]] w fun e w'=>e= .returned (.int .i64 i)∧FSt w' B f gi gc W H n (xs.set i (1 - v)) (gen n (crowdG W H (xs.set i (1 - v))))∧Keep6 (Duo gi gc) w w':=by
 have HN:=Lib.hid F.ink.len
 obtain ⟨b1,b2,b3,b4,b5,b6,b7,b8,b9⟩:=field_bd HN.out hok
 have B5:=Lib.hid b5
 have B8:=Lib.hid b8
 have B9:=Lib.hid b9
 clear b5 b8 b9
 have HOK:=Lib.hid hok
 have HX:=Lib.hid hx
 have EB:Hid (bestTo xs v (fun j=>key ((gen n (crowdG W H xs)).getD j 0)) n=i):=Lib.hid (by rw [best_gen HN.out];exact hb)
 have hin:i<n:=by rw [←HN.out];exact hi
 have HO:=Lib.hid ho
 have EH:=Lib.hid eh
 have HV:=Lib.hid hv
 obtain ⟨V2,hV2⟩: ∃x,2*v=x:=⟨_,rfl⟩
 obtain ⟨CH,hCH⟩: ∃x,1 - V2=x:=⟨_,rfl⟩
 obtain ⟨NV,hNV⟩: ∃x,1 - v=x:=⟨_,rfl⟩
 have a1:IntKind.i64.wrap (2*v)=V2:=by rw [hV2];exact IntWalk.i64_in _ (by omega)
 have a2:IntKind.i64.wrap (1 - V2)=CH:=by rw [hCH];exact IntWalk.i64_in _ (by omega)
 have a3:IntKind.i64.wrap (v+CH)=NV:=by rw [show v+CH=NV by omega];exact IntWalk.i64_in _ (by omega)
 have HCH:Hid (CH=1∨CH=-1):=Lib.hid (by omega)
 have HCV:Hid (CH=1 - 2*v):=Lib.hid (by omega)
 have HNV:Hid (1 - v=NV):=Lib.hid hNV
 have CF:Hid (∀k,crowdG W H (xs.set i NV) k=crowdG W H xs k+CH*wtG W H k i):=Lib.hid (fun k=>by rw [←HNV.out,crowd_flip HV.out hi HX.out,HCV.out])
 have OK2:Hid (fieldOk W H (xs.set i NV)=true):=Lib.hid (field_set hok i (by omega))
 rw [hNV]
 have KB:=Lib.hid ((Blk.new w 189 #[.int .i64 v, .func (.func h) #[] #[]]))
 have HF:=Lib.hid (F.alloc (.cells #[.int .i64 v, .func (.func h) #[] #[]] 189))
 have HB:=Lib.hid (Joins.below_alloc1 w (.cells #[.int .i64 v, .func (.func h) #[] #[]] 189))
 have HLT:=Lib.hid F.lts
 clear F hok hx hb hi ho eh hv hV2 hCH hNV
 go_enter Tryz.func162,Tryz.ntmps162
 go_upto_region 1 with fail
 obtain ⟨wo,hwo⟩: ∃wo:World,wo=w.alloc (.cells #[.int .i64 v, .func (.func h) #[] #[]] 189):=⟨_,rfl⟩
 rw [←hwo] at KB HF HB⊢
 clear hwo
 have lb:=KB.out.lt
 have k0:wo.cell? ⟨w.heap.size,0,none⟩=some (.int .i64 v):=by rw [KB.out.cell];rfl
 have k1:wo.cell? ⟨w.heap.size,1,none⟩=some (.func (.func h) #[] #[]):=by rw [KB.out.cell];rfl
 go_wp2_with fail
 refine (impl_chosen h key v EH.out HO.out HF.out b6).mono ?_
 rw [EB.out]
 rintro e w4 ⟨rfl,hb⟩
 have KB:=Lib.hid (KB.out.below' hb)
 have HF:=Lib.hid (HF.out.below hb)
 have HB:=Lib.hid (bTrans HB.out hb)
 clear hb lb k0 k1
 have hi0:0≤(i:Int):=by omega
 obtain ⟨lf,p0,p1,p2,p3⟩:=HF.out.cells
 have lb:=KB.out.lt
 have k0:w4.cell? ⟨w.heap.size,0,none⟩=some (.int .i64 v):=by rw [KB.out.cell];rfl
 have g1:=HF.out.ink.cell hin
 rw [HX.out] at g1
 have g2:=HF.out.ink.frozen i
 have HS:=Lib.hid (HF.out.ink.set i NV)
 go_upto_region 6 with fail
 obtain ⟨w5,hw5⟩: ∃w5:World,w5=w4.setCell ⟨gi,i,none⟩ (.int .i64 NV):=⟨_,rfl⟩
 have KF5:Hid (Blk w5 f 186 #[.int .i64 W, .int .i64 H, .slice (some ⟨gi,0,none⟩) n n, .slice (some ⟨gc,0,none⟩) n n]):=Lib.hid (by rw [hw5];exact HF.out.box.other (by exact fun e=>HF.out.n1 e.symm) _)
 have KG5:Hid (Own w5 gc n n (gen n (crowdG W H xs))):=Lib.hid (by rw [hw5];exact HF.out.crowds.other (by exact HF.out.n3) _)
 have KI5:Hid (Own w5 gi n n (xs.set i NV)):=Lib.hid (by rw [hw5];exact HS.out)
 have KK5:Hid (Keep6 (Duo gi gc) w w5):=Lib.hid (by rw [hw5];exact (Keep6.ofBelow HB.out).set (Or.inl rfl) _)
 have N1:=Lib.hid HF.out.n1
 have N2:=Lib.hid HF.out.n2
 have N3:=Lib.hid HF.out.n3
 have HH:=Lib.hid (And.intro HF.out.hf (And.intro HF.out.hi HF.out.hc))
 rw [←hw5]
 clear hw5 lf p0 p1 p2 p3 lb k0 g1 g2 HS KB HF HB HO EH EB
 have lf:=KF5.out.lt
 have p3:w5.cell? ⟨f,3,none⟩=some (.slice (some ⟨gc,0,none⟩) n n):=by rw [KF5.out.cell];rfl
 have CI:=Lib.hid (fun (k:Nat) (hk:k<n) (v:World)=>impl_cellOf W H (some ⟨gi,0,none⟩) n n k v b1 (by omega) B5.out b6 hk)
 have CW:=Lib.hid (fun (k:Nat) (hk:k<n) (v:World)=>impl_weightOfPair W H (some ⟨gi,0,none⟩) n n i k v b1 (by omega) b3 (by omega) B5.out b6 hin hk)
 go_wp2_with fail
 go_loopw [33] (fun s wr=> ∃k:Nat,k≤n∧s= .int .i64 k∧Hid (Own wr gc n n (filled (gen n (crowdG W H (xs.set i NV))) (gen n (crowdG W H xs)) k))∧Hid (Keep6 (fun i=>i=gc) w5 wr)) (fun s _=>n - (intOf s).toNat)
 case atStart=>exact ⟨0,Nat.zero_le _,rfl,Lib.hid (by rw [filled_zero];exact KG5.out),Lib.hid (Keep6.refl _ _)⟩
 case round=>
   obtain ⟨k,hk,rfl,HO,HK⟩:=hrel
   have KFr:=Lib.hid (HK.out.blk KF5.out N2.out)
   by_cases hlt:k<n
   · have C1:=Lib.hid (CI.out i hin)
     have C2:=Lib.hid (CI.out k hlt)
     have C3:=Lib.hid (CW.out k hlt)
     obtain ⟨P,hP⟩: ∃P,(i:Int) % W=P:=⟨_,rfl⟩
     obtain ⟨Q,hQ⟩: ∃Q,(i:Int)/W=Q:=⟨_,rfl⟩
     obtain ⟨P',hP'⟩: ∃P,(k:Int) % W=P:=⟨_,rfl⟩
     obtain ⟨Q',hQ'⟩: ∃Q,(k:Int)/W=Q:=⟨_,rfl⟩
     rw [hP,hQ] at C1 C3
     rw [hP',hQ'] at C2 C3
     have hs:=filled_succ (gen n (crowdG W H (xs.set i NV))) (gen n (crowdG W H xs)) k _ (by rw [gen_len];exact hlt) (by rw [gen_len];exact hlt) (gen_get _ _ _ hlt)
     have h2c:=HO.out.cell hlt
     rw [filled_old _ _ _ (by rw [gen_len];exact hlt) (by rw [gen_len,gen_len]),gen_get _ _ _ hlt] at h2c
     have h3c:=HO.out.frozen k
     obtain ⟨c1,c2⟩:=crowdG_bd HN.out HOK.out k
     obtain ⟨d1,d2⟩:=crowdG_bd (n:=n) (by rw [List.length_set];exact HN.out) OK2.out k
     obtain ⟨t1,t2⟩:=wt_bd b1 b3 i k
     have hcf:=CF.out k
     rw [wt_symm b1 b3 k i] at hcf
     obtain ⟨C,hC⟩: ∃C,crowdG W H xs k=C:=⟨_,rfl⟩
     obtain ⟨D,hD⟩: ∃D,crowdG W H (xs.set i NV) k=D:=⟨_,rfl⟩
     obtain ⟨T,hT⟩: ∃T,wtG W H i k=T:=⟨_,rfl⟩
     rw [hC] at c1 c2 h2c hcf
     rw [hD] at d1 d2 hs hcf
     rw [hT] at t1 t2 C3 hcf
     obtain ⟨X,hX⟩: ∃X,CH*T=X:=⟨_,rfl⟩
     rw [hX] at hcf
     have x1:-4096≤X∧X≤4096:=by rcases HCH.out with e | e <;>rw [e] at hX <;>omega
     have u1:IntKind.i64.wrap (CH*T)=X:=by rw [hX];exact IntWalk.i64_in _ (by omega)
     have u2:IntKind.i64.wrap (C+X)=D:=by rw [hcf];exact IntWalk.i64_in _ (by omega)
     have HS:=Lib.hid hs
     clear hs hP hQ hP' hQ' hC hD hT hX hcf lf p3 x1
     obtain ⟨lf,p0,p1,p2,p3⟩:f<wr.heap.size∧wr.cell? ⟨f,0,none⟩=some (.int .i64 W)∧wr.cell? ⟨f,1,none⟩=some (.int .i64 H)∧wr.cell? ⟨f,2,none⟩=some (.slice (some ⟨gi,0,none⟩) n n)∧wr.cell? ⟨f,3,none⟩=some (.slice (some ⟨gc,0,none⟩) n n):=⟨KFr.out.lt,by rw [KFr.out.cell];rfl,by rw [KFr.out.cell];rfl,by rw [KFr.out.cell];rfl,by rw [KFr.out.cell];rfl⟩
     have lg:=HO.out.lt
     go_upto_region 9 with fail
     have MK:Hid (∀v,BelowL wr v→v.cell? ⟨f,0,none⟩=some (.int .i64 W)∧v.cell? ⟨f,1,none⟩=some (.int .i64 H)∧v.cell? ⟨f,2,none⟩=some (.slice (some ⟨gi,0,none⟩) n n)∧v.cell? ⟨f,3,none⟩=some (.slice (some ⟨gc,0,none⟩) n n)∧v.cell? ⟨gc,k,none⟩=some (.int .i64 C)∧BelowL wr v):=Lib.hid (fun v hB=>⟨(hB.out.cell lf).trans p0,(hB.out.cell lf).trans p1,(hB.out.cell lf).trans p2,(hB.out.cell lf).trans p3,(hB.out.cell lg).trans h2c,hB⟩)
     refine wp_region_T 28 (fun v=>v.cell? ⟨f,0,none⟩=some (.int .i64 W)∧v.cell? ⟨f,1,none⟩=some (.int .i64 H)∧v.cell? ⟨f,2,none⟩=some (.slice (some ⟨gi,0,none⟩) n n)∧v.cell? ⟨f,3,none⟩=some (.slice (some ⟨gc,0,none⟩) n n)∧v.cell? ⟨gc,k,none⟩=some (.int .i64 C)∧BelowL wr v) (by kernel_rfl) (MK.out _ (BelowL.start _)) ?_
     intro hHeld
     have hb0:=limbS6 hHeld
     refine tTake 0 ?_
     refine tTake 1 ?_
     refine tTake 2 ?_
     refine tTake 3 ?_
     refine tTake 4 ?_
     refine tTake 5 ?_
     refine tTake 6 ?_
     refine tTake 7 ?_
     refine tTake 8 ?_
     refine tTake 9 ?_
     refine tTake 10 ?_
     refine tTake 11 ?_
     refine tTake 12 ?_
     refine tTake 13 ?_
     refine tTake 14 ?_
     refine tTake 15 ?_
     refine tTake 16 ?_
     refine tTake 18 ?_
     refine tTake 19 ?_
     refine tTake 20 ?_
     refine tTake 21 ?_
     refine tTake 22 ?_
     refine tOne 17 (fun K hK=>?_)
     go_simp
     go_at_call 196
     ((with_reducible refine (C1.out _).mono ?_);rintro e v1 ⟨rfl,hq1⟩)
     have hb1:=BelowL.call hb0 hq1
     go_wp2_with fail
     refine hK.out _ _ (fun _=>by (try dsimp only);exact MK.out _ hb1) (fun hH2=>?_)
     clear hK K hHeld
     have hHeld:=hH2 (by decide)
     refine tOne 23 (fun K hK=>?_)
     go_simp
     go_at_call 196
     ((with_reducible refine (C2.out _).mono ?_);rintro e v2 ⟨rfl,hq2⟩)
     have hb2:=BelowL.call hb1 hq2
     go_wp2_with fail
     refine hK.out _ _ (fun _=>by (try dsimp only);exact MK.out _ hb2) (fun hH3=>?_)
     clear hK K hHeld
     have hHeld:=hH3 (by decide)
     refine tOne 24 (fun K hK=>?_)
     go_simp
     go_at_call 198
     ((with_reducible refine (C3.out _).mono ?_);rintro e v3 ⟨rfl,hq3⟩)
     have hb3:=BelowL.call hb2 hq3
     go_wp2_with fail
     refine hK.out _ _ (fun _=>by (try dsimp only);exact MK.out _ hb3) (fun hH4=>?_)
     clear hK K hHeld
     have hHeld:=hH4 (by decide)
     have HOv:=Lib.hid (HO.out.below hb3.out HO.out.lt)
     have HKv:=Lib.hid (HK.out.call hb3.out)
     have h4c:=hHeld.2.2.2.2.1
     have h5c:=HOv.out.frozen k
     refine tTake 25 ?_
     refine tTake 26 ?_
     refine tTake 27 ?_
     refine tOne 28 (fun K hK=>?_)
     go_simp
     refine hK.out _ _ (fun h=>absurd h (by decide)) (fun hH5=>?_)
     clear hK K hH5 hH4 hH3 hH2 hHeld
     refine wpAnyT_done (by kernel_rfl) ?_ _
     (try go_simp)
     go_wp2_with fail
     go_roundw
     case rel=>exact ⟨k+1,by omega,by go_num,Lib.hid (by rw [←HS.out];exact HOv.out.set k D),Lib.hid (HKv.out.set rfl _)⟩
     case measure=>simp [intOf];omega
   · obtain rfl:k=n:=by omega
     have HO2:Hid (Own wr gc k k (gen k (crowdG W H (xs.set i NV)))):=Lib.hid (by have h:=HO.out;rwa [filled_at _ _ _ (gen_len _ _) (gen_len _ _)] at h)
     have HR:Hid (FSt wr B f gi gc W H k (xs.set i NV) (gen k (crowdG W H (xs.set i NV)))):=Lib.hid ⟨HH.out.1,HH.out.2.1,HH.out.2.2,N1.out,N2.out,N3.out,KFr.out,HK.out.own KI5.out N3.out,HO2.out⟩
     have HKR:=Lib.hid (KK5.out.trans (HK.out.mono (fun i hi=>Or.inr hi)))
     go_wp2_with fail
     go_ret
     exact ⟨rfl,HR.out,HKR.out⟩
set_option maxHeartbeats 800000 in
theorem impl_flip_none (h:Nat) (key:Int→Int) (v:Int) {w:World} {B f gi gc:Nat} {W H:Int} {n:Nat} {xs:List Int} (eh: ∀args w,(callFunc h args).run Tryz.prog w= .ok (.enter h args) w) (ho:OrdBy h key) (F:FSt w B f gi gc W H n xs (gen n (crowdG W H xs))) (hn:n≤256)
   (hb:bestTo xs v (fun j=>key (crowdG W H xs j)) xs.length=-1):
   Calls Tryz.prog 162 #[.pointer (some ⟨f,0,none⟩), .agg #[.int .i64 v, .func (.func h) #[] #[]]] w fun e w'=>e= .returned (.int .i64 (-1))∧Below w.heap.size w w':=by
 have EB:Hid (bestTo xs v (fun j=>key ((gen n (crowdG W H xs)).getD j 0)) n=-1):=Lib.hid (by rw [best_gen F.ink.len];exact hb)
 have HO:=Lib.hid ho
 have EH:=Lib.hid eh
 have KB:=Lib.hid ((Blk.new w 189 #[.int .i64 v, .func (.func h) #[] #[]]))
 have HF:=Lib.hid (F.alloc (.cells #[.int .i64 v, .func (.func h) #[] #[]] 189))
 have HB:=Lib.hid (Joins.below_alloc1 w (.cells #[.int .i64 v, .func (.func h) #[] #[]] 189))
 clear F hb ho eh
 go_enter Tryz.func162,Tryz.ntmps162
 go_upto_region 1 with fail
 obtain ⟨wo,hwo⟩: ∃wo:World,wo=w.alloc (.cells #[.int .i64 v, .func (.func h) #[] #[]] 189):=⟨_,rfl⟩
 rw [←hwo] at KB HF HB⊢
 clear hwo
 have lb:=KB.out.lt
 have k0:wo.cell? ⟨w.heap.size,0,none⟩=some (.int .i64 v):=by rw [KB.out.cell];rfl
 have k1:wo.cell? ⟨w.heap.size,1,none⟩=some (.func (.func h) #[] #[]):=by rw [KB.out.cell];rfl
 go_wp2_with fail
 refine (impl_chosen h key v EH.out HO.out HF.out hn).mono ?_
 rw [EB.out]
 rintro e w4 ⟨rfl,hb⟩
 have HB:=Lib.hid (bTrans HB.out hb)
 clear hb lb k0 k1
 go_wp2_with fail
 go_ret
 exact ⟨rfl,HB.out⟩
set_option maxHeartbeats 1600000 in
theorem impl_swap {w:World} {B f gi gc:Nat} {W H:Int} {n:Nat} {xs:List Int} (F:FSt w B f gi gc W H n xs (gen n (crowdG W H xs))) (hok:fieldOk W H xs=true):
   Calls Tryz.prog 161 #[.pointer (some ⟨f,0,none⟩)] w fun e w'=>e= .returned (.bool (swapG W H xs).2)∧FSt w' B f gi gc W H n (swapG W H xs).1 (gen n (crowdG W H (swapG W H xs).1))∧Keep6 (Duo gi gc) w w':=by
 have HN:=Lib.hid F.ink.len
 have b6:=(field_bd HN.out hok).2.2.2.2.2.1
 have HOK:=Lib.hid hok
 have HF:=Lib.hid F
 clear F hok
 go_enter Tryz.func161,Tryz.ntmps161
 go_wp2_with fail
 refine (impl_tightest _).mono ?_
 rintro e w1 ⟨rfl,hb⟩
 have HF:=Lib.hid (HF.out.below hb)
 have HB:=Lib.hid hb
 clear hb
 go_wp2_with fail
 rcases tight_cases W H xs with ⟨h1,h2⟩ | ⟨i,h1,h2,h3⟩
 · have ES:Hid (swapG W H xs=(xs,false)):=Lib.hid (by unfold swapG;rw [if_pos (by omega)])
   refine (impl_flip_none 199 keyT 1 entT ordT HF.out b6 h1).mono ?_
   rintro e w2 ⟨rfl,hb⟩
   have HF:=Lib.hid (HF.out.below hb)
   have HB:=Lib.hid (bTrans HB.out hb)
   clear hb h1 h2
   go_wp2_with fail
   go_ret
   rw [ES.out]
   exact ⟨rfl,HF.out,Keep6.ofBelow HB.out⟩
 · refine (impl_flip 199 keyT 1 (Or.inr rfl) entT ordT HF.out HOK.out i h1 h2 h3).mono ?_
   rintro e w2 ⟨rfl,hf,hk⟩
   have EF:Hid (flipT W H xs=xs.set i (1 - 1)):=Lib.hid (by unfold flipT;rw [h1];rfl)
   rw [←EF.out] at hf
   have HF:=Lib.hid hf
   have HK:=Lib.hid ((Keep6.ofBelow (S:=Duo gi gc) HB.out).trans hk)
   have HOK2:=Lib.hid (field_flipT HOK.out)
   have hw:=wide_after (W:=W) (H:=H) h2
   rw [show xs.set i 0=flipT W H xs by rw [EF.out];rfl] at hw
   obtain ⟨k,k1,k2,k3⟩:=hw
   have k2':k<(flipT W H xs).length:=by rw [tight_len];exact k2
   have ES:Hid (swapG W H xs=((flipT W H xs).set k (1 - 0),decide ((k:Int)≠i))):=Lib.hid (by
     unfold swapG flipW
     rw [if_neg (by omega),k1,h1]
     simp)
   have HT:=Lib.hid (And.intro k1 (And.intro k2' k3))
   clear hf hk h1 h2 h3 k1 k2 k3 k2' HB
   have hi0:0≤(i:Int):=by omega
   go_wp2_with fail
   refine (impl_widest _).mono ?_
   rintro e w3 ⟨rfl,hb⟩
   have HF:=Lib.hid (HF.out.below hb)
   have HK:=Lib.hid (HK.out.call hb)
   clear hb
   go_wp2_with fail
   refine (impl_flip 127 keyW 0 (Or.inl rfl) entW ordW HF.out HOK2.out k HT.out.1 HT.out.2.1 HT.out.2.2).mono ?_
   rintro e w4 ⟨rfl,hf,hk⟩
   have HF:=Lib.hid hf
   have HK:=Lib.hid (HK.out.trans hk)
   clear hf hk
   by_cases hki:(k:Int)=(i:Int)
   · have hd:decide ((k:Int)≠i)=false:=by simp [hki]
     rw [hd] at ES
     have hq:((k:Int) !=(i:Int))=false:=by simp [hki]
     have HKI:=Lib.hid hki
     clear hd hki
     go_wp2_with fail
     go_ret
     rw [ES.out]
     exact ⟨rfl,HF.out,HK.out⟩
   · have hd:decide ((k:Int)≠i)=true:=by simp;omega
     rw [hd] at ES
     have hq:((k:Int) !=(i:Int))=true:=by simp;omega
     have HKI:=Lib.hid hki
     clear hd hki
     go_wp2_with fail
     go_ret
     rw [ES.out]
     exact ⟨rfl,HF.out,HK.out⟩
set_option maxRecDepth 100000 in
set_option maxHeartbeats 3200000 in
theorem impl_EvenField (W H:Int) (b off n cap:Nat) (xs:List Int) (m:Int) (w:World) (hn:xs.length=n) (ha:Rd w (some ⟨b,off,none⟩) xs) (hl:n≤1048576):
   Calls Tryz.prog 129 #[.agg #[.int .i64 W, .int .i64 H, .slice (some ⟨b,off,none⟩) n cap], .int .i64 m] w (EvenOut w W H n (evenR W H xs m)):=by
 have HN:=Lib.hid hn
 have HA:=Lib.hid ha
 clear hn ha
 go_enter Tryz.func129,Tryz.ntmps129
 go_wp2_with fail
 have KP:=Lib.hid ((Blk.new w 27 #[.int .i64 W, .int .i64 H, .slice (some ⟨b,off,none⟩) n cap]).alloc (.cells #[.int .i64 0, .int .i64 0, .slice none 0 0] 27))
 have KZ:=Lib.hid (Blk.new' (g:=w.heap.size+1) (w:=w.alloc (.cells #[.int .i64 W, .int .i64 H, .slice (some ⟨b,off,none⟩) n cap] 27)) 27 #[.int .i64 0, .int .i64 0, .slice none 0 0] (by simp))
 have HB:=Lib.hid (bAlloc (bAlloc (Below.refl w.heap.size w) (.cells #[.int .i64 W, .int .i64 H, .slice (some ⟨b,off,none⟩) n cap] 27)) (.cells #[.int .i64 0, .int .i64 0, .slice none 0 0] 27))
 have RP:=Lib.hid ((HA.out.alloc (.cells #[.int .i64 W, .int .i64 H, .slice (some ⟨b,off,none⟩) n cap] 27)).alloc (.cells #[.int .i64 0, .int .i64 0, .slice none 0 0] 27))
 obtain ⟨wo,hwo⟩: ∃wo:World,wo=(w.alloc (.cells #[.int .i64 W, .int .i64 H, .slice (some ⟨b,off,none⟩) n cap] 27)).alloc (.cells #[.int .i64 0, .int .i64 0, .slice none 0 0] 27):=⟨_,rfl⟩
 have ZO:Hid (wo.heap.size=w.heap.size+1+1):=Lib.hid (by rw [hwo];simp)
 rw [←hwo] at KP KZ HB RP⊢
 clear hwo
 obtain ⟨l0,o0,o1,o2⟩:=KP.out.c3
 refine (impl_IsField W H _ n cap xs _ HN.out (by exact RP.out) (by omega)).mono ?_
 rintro e w4 ⟨rfl,hb⟩
 have KP:=Lib.hid (KP.out.below' hb)
 have KZ:=Lib.hid (KZ.out.below' hb)
 have RP:=Lib.hid (RP.out.below hb)
 have ZB:Hid (wo.heap.size≤w4.heap.size):=Lib.hid hb.size
 have HB:=Lib.hid (bTrans HB.out hb)
 clear hb l0 o0 o1 o2
 obtain ⟨l0,o0,o1,o2⟩:=KP.out.c3
 by_cases hok:fieldOk W H xs=true
 case neg=>
   have ER:Hid (evenR W H xs m=(xs,0)):=Lib.hid (by unfold evenR;rw [if_neg (fun h=>hok h.1)])
   have hok2:fieldOk W H xs=false:=by simpa using hok
   rw [hok2]
   clear hok hok2
   go_wp2_with fail
   refine (impl_unchanged W H b off n cap xs _ HN.out (by exact RP.out) hl).mono ?_
   rintro e w5 ⟨oa,oc,rfl,ho,hb⟩
   have ZW:Hid (w.heap.size+1<w4.heap.size):=Lib.hid KZ.out.lt
   have KZ:=Lib.hid (KZ.out.below' hb)
   have HB:=Lib.hid (bTrans HB.out hb)
   have HO:=Lib.hid ho
   clear hb ho l0 o0 o1 o2
   obtain ⟨z0,r0,r1,r2⟩:=KZ.out.c3
   obtain ⟨f0,f1,f2⟩:=KZ.out.f3
   go_wp2_with fail
   exact bodyPost_ret (v:= .tuple #[.agg #[.int .i64 W, .int .i64 H, .slice oa n oc], .int .i64 0]) (by simp [results,Tryz.results129,go_sem,r0,r1,r2]) rfl
     ⟨_,_,by rw [ER.out],by rw [ER.out];exact (((HO.out.other (by simp;(try have:=ZW.out);omega) _).other (by simp;(try have:=ZW.out);omega) _).other (by simp;(try have:=ZW.out);omega) _).mono (by have:=ZW.out;omega),
       ((HB.out.setCell (by first | (simp;done) | (simp;omega)) _).setCell (by first | (simp;done) | (simp;omega)) _).setCell (by first | (simp;done) | (simp;omega)) _⟩
 case pos=>
   have HOK:=Lib.hid hok
   rw [hok]
   by_cases hm:0≤m∧m≤64
   case neg=>
     have ER:Hid (evenR W H xs m=(xs,0)):=Lib.hid (by unfold evenR;rw [if_neg (fun h=>hm h.2)])
     clear hok
     by_cases h0:m<0
     · clear hm
       go_wp2_with fail
       refine (impl_unchanged W H b off n cap xs _ HN.out (by exact RP.out) hl).mono ?_
       rintro e w5 ⟨oa,oc,rfl,ho,hb⟩
       have ZW:Hid (w.heap.size+1<w4.heap.size):=Lib.hid KZ.out.lt
       have KZ:=Lib.hid (KZ.out.below' hb)
       have HB:=Lib.hid (bTrans HB.out hb)
       have HO:=Lib.hid ho
       clear hb ho l0 o0 o1 o2
       obtain ⟨z0,r0,r1,r2⟩:=KZ.out.c3
       obtain ⟨f0,f1,f2⟩:=KZ.out.f3
       go_wp2_with fail
       exact bodyPost_ret (v:= .tuple #[.agg #[.int .i64 W, .int .i64 H, .slice oa n oc], .int .i64 0]) (by simp [results,Tryz.results129,go_sem,r0,r1,r2]) rfl
         ⟨_,_,by rw [ER.out],by rw [ER.out];exact (((HO.out.other (by simp;(try have:=ZW.out);omega) _).other (by simp;(try have:=ZW.out);omega) _).other (by simp;(try have:=ZW.out);omega) _).mono (by have:=ZW.out;omega),
           ((HB.out.setCell (by first | (simp;done) | (simp;omega)) _).setCell (by first | (simp;done) | (simp;omega)) _).setCell (by first | (simp;done) | (simp;omega)) _⟩
     · have h1:0≤m:=by omega
       have h2:64<m:=by omega
       clear hm h0
       go_wp2_with fail
       all_goals (try (exfalso;omega))
       refine (impl_unchanged W H b off n cap xs _ HN.out (by exact RP.out) hl).mono ?_
       rintro e w5 ⟨oa,oc,rfl,ho,hb⟩
       have ZW:Hid (w.heap.size+1<w4.heap.size):=Lib.hid KZ.out.lt
       have KZ:=Lib.hid (KZ.out.below' hb)
       have HB:=Lib.hid (bTrans HB.out hb)
       have HO:=Lib.hid ho
       clear hb ho l0 o0 o1 o2
       obtain ⟨z0,r0,r1,r2⟩:=KZ.out.c3
       obtain ⟨f0,f1,f2⟩:=KZ.out.f3
       go_wp2_with fail
       exact bodyPost_ret (v:= .tuple #[.agg #[.int .i64 W, .int .i64 H, .slice oa n oc], .int .i64 0]) (by simp [results,Tryz.results129,go_sem,r0,r1,r2]) rfl
         ⟨_,_,by rw [ER.out],by rw [ER.out];exact (((HO.out.other (by simp;(try have:=ZW.out);omega) _).other (by simp;(try have:=ZW.out);omega) _).other (by simp;(try have:=ZW.out);omega) _).mono (by have:=ZW.out;omega),
           ((HB.out.setCell (by first | (simp;done) | (simp;omega)) _).setCell (by first | (simp;done) | (simp;omega)) _).setCell (by first | (simp;done) | (simp;omega)) _⟩
   case pos=>
     obtain ⟨M,hM⟩: ∃M:Nat,m=M:=⟨m.toNat,by omega⟩
     subst hM
     have hm64:M≤64:=by omega
     have hm65:(M:Int)≤64:=by omega
     have hm0:0≤(M:Int):=by omega
     have ER:Hid (evenR W H xs M=((evenG W H M xs).1,((evenG W H M xs).2:Int))):=Lib.hid (by unfold evenR;rw [if_pos ⟨hok,hm⟩];rfl)
     clear hok hm
     go_wp2_with fail
     all_goals (try (exfalso;omega))
     refine (impl_crowded W H _ n cap xs _ HN.out (by exact RP.out) HOK.out).mono ?_
     rintro e w5 ⟨f,gi,gc,rfl,hf,hb⟩
     have HF:=Lib.hid (hf.mono ZB.out)
     have KZ:=Lib.hid (KZ.out.below' hb)
     have HB:=Lib.hid (bTrans HB.out hb)
     have HG:Hid (wo.heap.size≤gi∧wo.heap.size≤gc):=Lib.hid ⟨HF.out.hi,HF.out.hc⟩
     clear hf hb l0 o0 o1 o2
     go_wp2_with fail
     go_loopw [7] (fun s wr=> ∃(k:Nat) (cur:List Int),k≤M∧s= .int .i64 k∧Hid (evenG W H M xs=((evenG W H (M - k) cur).1,(evenG W H (M - k) cur).2+k))∧Hid (fieldOk W H cur=true)∧Hid (FSt wr wo.heap.size f gi gc W H n cur (gen n (crowdG W H cur)))∧Hid (Keep6 (Duo gi gc) w5 wr)) (fun s _=>M - (intOf s).toNat)
     case atStart=>exact ⟨0,xs,Nat.zero_le _,rfl,Lib.hid (by simp),HOK,HF,Lib.hid (Keep6.refl _ _)⟩
     case round=>
       clear HF
       obtain ⟨k,cur,hk,rfl,HE,HFO,HF,HK⟩:=hrel
       by_cases hlt:k<M
       · go_wp2_with fail
         refine (impl_swap HF.out HFO.out).mono ?_
         rintro e w6 ⟨rfl,hf,hkk⟩
         have HK6:=Lib.hid (HK.out.trans hkk)
         have HF6:=Lib.hid hf
         have HFO6:=Lib.hid (field_swap HFO.out)
         clear hf hkk
         by_cases hs:(swapG W H cur).2=true
         · have EE:Hid (evenG W H M xs=((evenG W H (M - (k+1)) (swapG W H cur).1).1,(evenG W H (M - (k+1)) (swapG W H cur).1).2+(k+1))):=Lib.hid (by
             rw [HE.out,show M - k=M - (k+1)+1 by omega,even_yes hs]
             simp only []
             congr 1
             omega)
           rw [hs]
           clear hs
           go_wp2_with fail
           go_roundw
           case rel=>exact ⟨k+1,(swapG W H cur).1,by omega,by go_num,Lib.hid (by have e:=EE.out;push_cast at e⊢;exact e),HFO6,HF6,HK6⟩
           case measure=>simp [intOf];omega
         · have hs2:(swapG W H cur).2=false:=by simpa using hs
           have EE:Hid (evenR W H xs M=(cur,(k:Int))):=Lib.hid (by
             rw [ER.out,HE.out,even_no _ hs2]
             simp)
           rw [hs2]
           have HF:Hid (FSt w6 wo.heap.size f gi gc W H n cur (gen n (crowdG W H (swapG W H cur).1))):=Lib.hid (by have h:=HF6.out;rw [swap_same hs2] at h⊢;exact h)
           have ER:=EE
           have KZ:=Lib.hid (HK6.out.blk KZ.out (by have:=HG.out;have:=ZO.out;unfold Duo;omega))
           have HB:=Lib.hid (HB.out.trans (HK6.out.below (B:=w.heap.size) (fun i hi=>by have:=HG.out;have:=ZO.out;unfold Duo at hi;omega) HB.out.size))
           clear hs hs2
           obtain ⟨z0,r0,r1,r2⟩:=KZ.out.c3
           obtain ⟨f0,f1,f2⟩:=KZ.out.f3
           obtain ⟨lf,p0,p1,p2,p3⟩:=HF.out.cells
           go_wp2_with fail
           exact bodyPost_ret (v:= .tuple #[.agg #[.int .i64 W, .int .i64 H, .slice (some ⟨gi,0,none⟩) n n], .int .i64 k]) (by simp [results,Tryz.results129,go_sem,r0,r1,r2]) rfl
             ⟨_,_,by rw [ER.out],by rw [ER.out];exact ((((OwnA.mk HF.out.ink HF.out.hi).other (by simp;(try have:=ZO.out);omega) _).other (by simp;(try have:=ZO.out);omega) _).other (by simp;(try have:=ZO.out);omega) _).mono (by have:=ZO.out;omega),
               ((HB.out.setCell (by first | (simp;done) | (simp;omega)) _).setCell (by first | (simp;done) | (simp;omega)) _).setCell (by first | (simp;done) | (simp;omega)) _⟩
       · obtain rfl:k=M:=by omega
         have EE:Hid (evenR W H xs k=(cur,(k:Int))):=Lib.hid (by
           rw [ER.out,HE.out,Nat.sub_self]
           simp [evenG])
         have ER:=EE
         have KZ:=Lib.hid (HK.out.blk KZ.out (by have:=HG.out;have:=ZO.out;unfold Duo;omega))
         have HB:=Lib.hid (HB.out.trans (HK.out.below (B:=w.heap.size) (fun i hi=>by have:=HG.out;have:=ZO.out;unfold Duo at hi;omega) HB.out.size))
         obtain ⟨z0,r0,r1,r2⟩:=KZ.out.c3
         obtain ⟨f0,f1,f2⟩:=KZ.out.f3
         obtain ⟨lf,p0,p1,p2,p3⟩:=HF.out.cells
         go_wp2_with fail
         exact bodyPost_ret (v:= .tuple #[.agg #[.int .i64 W, .int .i64 H, .slice (some ⟨gi,0,none⟩) n n], .int .i64 k]) (by simp [results,Tryz.results129,go_sem,r0,r1,r2]) rfl
           ⟨_,_,by rw [ER.out],by rw [ER.out];exact ((((OwnA.mk HF.out.ink HF.out.hi).other (by simp;(try have:=ZO.out);omega) _).other (by simp;(try have:=ZO.out);omega) _).other (by simp;(try have:=ZO.out);omega) _).mono (by have:=ZO.out;omega),
             ((HB.out.setCell (by first | (simp;done) | (simp;omega)) _).setCell (by first | (simp;done) | (simp;omega)) _).setCell (by first | (simp;done) | (simp;omega)) _⟩
end Go.Proofs.YtanccoopbgamdaaGreatDoor
