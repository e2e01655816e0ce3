/-
  Contracts and plain facts on which the theorem of this claim rests, text 47.
-/
import Derived.Test.YtanccoopbgamdaaGreatDoorKC3
import Derived.Test.YtanccoopbgamdaaGreatDoorKC4
import Derived.Test.YtanccoopbgamdaaGreatDoorKC5
import Derived.Test.YtanccoopbgamdaaGreatDoorKC7
import Derived.Test.YtanccoopbgamdaaGreatDoorKC10
import Derived.Test.YtanccoopbgamdaaGreatDoorKC12
import Derived.Test.YtanccoopbgamdaaGreatDoorKC15
import Derived.Test.YtanccoopbgamdaaGreatDoorKC43
import Derived.Test.YtanccoopbgamdaaGreatDoorKC44
import Derived.Test.YtanccoopbgamdaaGreatDoorKC46
namespace Go.Proofs.YtanccoopbgamdaaGreatDoor
open Go.RowKit
set_option linter.unusedVariables false
set_option linter.unusedSimpArgs false
set_option maxRecDepth 100000 in
set_option maxHeartbeats 8000000 in
theorem spec_DeskOk (D:Dsk) (w:World) (hr:RdD w D) (hs:SmallD D):
   Calls Tryz.prog 14 #[D.val] w fun e w'=>e= .returned (.bool (deskOk D.dat))∧Below w.heap.size w w':=by
 obtain ⟨r1,r2,r3,r4,r5,r6⟩:=hr
 obtain ⟨s1,s2,s3,s4⟩:=hs
 have d0:deskOk D.dat=deskOk (D.P.pic,D.M.pic,picsV D.ps):=rfl
 obtain ⟨⟨W,H,pa,pn,pc,xs⟩,⟨mW,mH,ma,mn,mc,ys⟩,a,n,c,ps⟩:=D
 rw [d0]
 dsimp only [PV.pic] at*
 show Calls Tryz.prog 14 #[.agg #[.int .i64 W, .int .i64 H, .slice pa pn pc, .int .i64 mW, .int .i64 mH, .slice ma mn mc, .slice a n c]] w _
 have R1:=Lib.hid r1
 have R2:=Lib.hid r2
 have R3:=Lib.hid r3
 have R4:=Lib.hid r4
 have R5:=Lib.hid r5
 have R6:=Lib.hid r6
 have S4:=Lib.hid s4
 have KB:=Lib.hid (Blk.new w 43 #[.int .i64 W, .int .i64 H, .slice pa pn pc, .int .i64 mW, .int .i64 mH, .slice ma mn mc, .slice a n c])
 have HB0:=Lib.hid (bAlloc (Below.refl w.heap.size w) (.cells #[.int .i64 W, .int .i64 H, .slice pa pn pc, .int .i64 mW, .int .i64 mH, .slice ma mn mc, .slice a n c] 43))
 clear r1 r2 r3 r4 r5 r6 s4 d0
 go_enter Tryz.func14,Tryz.ntmps14
 go_wp2_with fail
 refine (spec_IsPicture W H pa pn pc xs _ R1.out (by exact R2.out.below HB0.out) (by omega)).mono ?_
 rintro e w1 ⟨rfl,hb⟩
 have HB1:=Lib.hid (bTrans HB0.out hb)
 have KB1:=Lib.hid (KB.out.below' hb)
 clear hb
 obtain ⟨l0,c0,c1,c2,c3,c4,c5,c6⟩:=KB1.out.c7
 by_cases hp:picOk W H xs 255=true
 case neg=>
   have hp2:picOk W H xs 255=false:=by simpa using hp
   have E:Hid (deskOk (⟨W,H,xs⟩,⟨mW,mH,ys⟩,picsV ps)=false):=Lib.hid (deskOk_p hp)
   rw [hp2]
   go_wp2_with fail
   go_ret
   exact ⟨ret_bool E.out.symm,HB1.out⟩
 rw [hp]
 go_wp2_with fail
 refine (spec_IsMatrix mW mH ma mn mc ys _ R3.out (by exact R4.out.below HB1.out) (by omega)).mono ?_
 rintro e w2 ⟨rfl,hb⟩
 have HB2:=Lib.hid (bTrans HB1.out hb)
 have KB2:=Lib.hid (KB1.out.below' hb)
 clear hb l0 c0 c1 c2 c3 c4 c5 c6
 obtain ⟨l0,c0,c1,c2,c3,c4,c5,c6⟩:=KB2.out.c7
 by_cases hm:matOk mW mH ys=true
 case neg=>
   have hm2:matOk mW mH ys=false:=by simpa using hm
   have E:Hid (deskOk (⟨W,H,xs⟩,⟨mW,mH,ys⟩,picsV ps)=false):=Lib.hid (deskOk_m hm)
   rw [hm2]
   go_wp2_with fail
   go_ret
   exact ⟨ret_bool E.out.symm,HB2.out⟩
 rw [hm]
 by_cases hz:n=0
 · have E:Hid (deskOk (⟨W,H,xs⟩,⟨mW,mH,ys⟩,picsV ps)=true):=Lib.hid (deskOk_0 hp hm (by rw [picsV_len,R5.out];exact hz))
   subst hz
   go_wp2_with fail
   go_ret
   exact ⟨ret_bool E.out.symm,HB2.out⟩
 have hz2:((n:Int)==0)=false:=by simp;omega
 have E0:deskOk (⟨W,H,xs⟩,⟨mW,mH,ys⟩,picsV ps)=(stackOk (picsV ps) && decide ((pv ps 0).W=W∧(pv ps 0).H=H)):=by
   rw [deskOk_s (d:=(⟨W,H,xs⟩,⟨mW,mH,ys⟩,picsV ps)) hp hm (by rw [picsV_len,R5.out];exact hz)]
   dsimp only
   rw [picsV_at ps 0 (by rw [R5.out];omega)]
   rfl
 obtain ⟨b,off,hae,hal⟩:=(R6.out.below HB2.out).addr (by rw [R5.out];omega)
 subst hae
 have RV:=Lib.hid (R6.out.below HB2.out)
 have FC:Hid (∀v,BelowL w2 v→v.cell? ⟨b,off,none⟩=some (.int .i64 (pv ps 0).W)∧v.cell? ⟨b,off+1,none⟩=some (.int .i64 (pv ps 0).H)):=Lib.hid (fun v hv=>by
   obtain ⟨_,a0,a1,_⟩:=(RV.out.below hv.out).cells (k:=0) (by rw [R5.out];omega)
   simp only [Nat.zero_mul,Nat.add_zero] at a0 a1
   exact ⟨a0,a1⟩)
 have CS:Hid (∀v,BelowL w2 v→Calls Tryz.prog 38 #[.slice (some ⟨b,off,none⟩) n c] v fun e v'=>e= .returned (.bool (stackOk (picsV ps)))∧Below v.heap.size v v'):=Lib.hid (fun v hv=>spec_IsStack (some ⟨b,off,none⟩) n c ps v R5.out (RV.out.below hv.out) (by omega) S4.out)
 obtain ⟨U,hU⟩: ∃U,(pv ps 0).W=U:=⟨_,rfl⟩
 obtain ⟨V,hV⟩: ∃V,(pv ps 0).H=V:=⟨_,rfl⟩
 obtain ⟨K,hK⟩: ∃K,stackOk (picsV ps)=K:=⟨_,rfl⟩
 rw [hU,hV] at FC
 rw [hK] at CS
 rw [hU,hV,hK] at E0
 have E:=Lib.hid E0
 have MK:Hid (∀v,BelowL w2 v→v.cell? ⟨w.heap.size,0,none⟩=some (.int .i64 W)∧v.cell? ⟨w.heap.size,1,none⟩=some (.int .i64 H)∧v.cell? ⟨w.heap.size,6,none⟩=some (.slice (some ⟨b,off,none⟩) n c)∧v.cell? ⟨b,off,none⟩=some (.int .i64 U)∧v.cell? ⟨b,off+1,none⟩=some (.int .i64 V)∧BelowL w2 v):=Lib.hid (fun v h=>⟨(h.out.cell l0).trans c0,(h.out.cell l0).trans c1,(h.out.cell l0).trans c6,(FC.out v h).1,(FC.out v h).2,h⟩)
 clear hU hV hK E0 hp hm
 have n1:(0:Int)<(n:Int):=by omega
 have n2:0<n:=by omega
 go_upto_region 5 with fail
 clear c0 c1 c2 c3 c4 c5 c6 l0 FC KB KB1 KB2 HB0 HB1 R1 R2 R3 R4 hal
 cases K with
 | false=>
   refine wp_region_held_drew (S:=(fun v=>v.cell? ⟨w.heap.size,0,none⟩=some (.int .i64 W)∧v.cell? ⟨w.heap.size,1,none⟩=some (.int .i64 H)∧v.cell? ⟨w.heap.size,6,none⟩=some (.slice (some ⟨b,off,none⟩) n c)∧v.cell? ⟨b,off,none⟩=some (.int .i64 U)∧v.cell? ⟨b,off+1,none⟩=some (.int .i64 V)∧BelowL w2 v)) (by kernel_rfl) (MK.out _ (BelowL.start _)) ?_
   intro hHeld
   refine hTake 0 ?_
   refine simpR ?_
   refine hTake 1 ?_
   refine simpR ?_
   refine hOne 2 (fun K hK=>?_)
   go_simp
   go_at_call 38
   ((with_reducible refine (CS.out _ (BelowL.start _)).mono ?_);rintro e v1 ⟨rfl,hq1⟩)
   have hb1:=BelowL.call (BelowL.start _) hq1
   have HBF:=Lib.hid (bTrans HB2.out hb1.out)
   go_wp2_with fail
   refine hK.out _ _ (by (try dsimp only);exact MK.out _ hb1) (fun hHeld=>?_)
   clear hK K
   refine simpR ?_
   refine hTake 3 ?_
   refine simpR ?_
   refine hSkip 4 ?_
   refine simpR ?_
   refine hSkip 5 ?_
   refine simpR ?_
   refine hSkip 6 ?_
   refine simpR ?_
   refine hSkip 7 ?_
   refine simpR ?_
   refine hSkip 8 ?_
   refine simpR ?_
   refine hSkip 9 ?_
   refine simpR ?_
   refine hSkip 10 ?_
   refine simpR ?_
   refine hSkip 11 ?_
   refine simpR ?_
   refine hOne 12 (fun K hK=>?_)
   go_simp
   refine hK.out _ _ (by first | exact hHeld | assumption) (fun hHeld=>?_)
   clear hK K
   refine simpR ?_
   refine hTake 13 ?_
   refine simpR ?_
   refine hTake 14 ?_
   refine simpR ?_
   refine hSkip 15 ?_
   refine simpR ?_
   refine hSkip 16 ?_
   refine simpR ?_
   refine hSkip 17 ?_
   refine simpR ?_
   refine hSkip 18 ?_
   refine simpR ?_
   refine hSkip 19 ?_
   refine simpR ?_
   refine hSkip 20 ?_
   refine simpR ?_
   refine hSkip 21 ?_
   refine simpR ?_
   refine hSkip 22 ?_
   refine simpR ?_
   refine hOne 23 (fun K hK=>?_)
   go_simp
   refine hK.out _ _ (by first | exact hHeld | assumption) (fun hHeld=>?_)
   clear hK K
   refine simpR ?_
   refine hTake 24 ?_
   refine simpR ?_
   refine hTake 25 ?_
   refine simpR ?_
   refine wpAnyH_done (by kernel_rfl) ?_ _
   go_wp2_with fail
   go_ret
   exact ⟨ret_bool (by rw [E.out];rfl),HBF.out⟩
 | true=>
   by_cases hU:U=W
   case neg=>
     have hU2:(U==W)=false:=by simpa using hU
     refine wp_region_held_drew (S:=(fun v=>v.cell? ⟨w.heap.size,0,none⟩=some (.int .i64 W)∧v.cell? ⟨w.heap.size,1,none⟩=some (.int .i64 H)∧v.cell? ⟨w.heap.size,6,none⟩=some (.slice (some ⟨b,off,none⟩) n c)∧v.cell? ⟨b,off,none⟩=some (.int .i64 U)∧v.cell? ⟨b,off+1,none⟩=some (.int .i64 V)∧BelowL w2 v)) (by kernel_rfl) (MK.out _ (BelowL.start _)) ?_
     intro hHeld
     refine hTake 0 ?_
     refine simpR ?_
     refine hTake 1 ?_
     refine simpR ?_
     refine simpR ?_
     refine hOne 2 (fun K hK=>?_)
     go_simp
     go_at_call 38
     ((with_reducible refine (CS.out _ (BelowL.start _)).mono ?_);rintro e v1 ⟨rfl,hq1⟩)
     have hb1:=BelowL.call (BelowL.start _) hq1
     have HBF:=Lib.hid (bTrans HB2.out hb1.out)
     go_wp2_with fail
     refine hK.out _ _ (by (try dsimp only);exact MK.out _ hb1) (fun hHeld=>?_)
     clear hK K
     refine simpR ?_
     refine hTake 3 ?_
     refine simpR ?_
     refine hTake 4 ?_
     refine simpR ?_
     refine hTake 5 ?_
     refine simpR ?_
     refine hTake 6 ?_
     refine simpR ?_
     refine hTake 7 ?_
     refine simpR ?_
     refine hTake 8 ?_
     refine simpR ?_
     refine hTake 9 ?_
     refine simpR ?_
     refine hTake 10 ?_
     refine simpR ?_
     refine hTake 11 ?_
     refine simpR ?_
     refine simpR ?_
     refine hTake 12 ?_
     refine simpR ?_
     refine hTake 13 ?_
     refine simpR ?_
     refine hTake 14 ?_
     refine simpR ?_
     refine simpR ?_
     refine hSkip 15 ?_
     refine simpR ?_
     refine hSkip 16 ?_
     refine simpR ?_
     refine hSkip 17 ?_
     refine simpR ?_
     refine hSkip 18 ?_
     refine simpR ?_
     refine hSkip 19 ?_
     refine simpR ?_
     refine hSkip 20 ?_
     refine simpR ?_
     refine hSkip 21 ?_
     refine simpR ?_
     refine hSkip 22 ?_
     refine simpR ?_
     refine hOne 23 (fun K hK=>?_)
     go_simp
     refine hK.out _ _ (by first | exact hHeld | assumption) (fun hHeld=>?_)
     clear hK K
     refine simpR ?_
     refine hTake 24 ?_
     refine simpR ?_
     refine hTake 25 ?_
     refine simpR ?_
     refine simpR ?_
     refine wpAnyH_done (by kernel_rfl) ?_ _
     go_wp2_with fail
     go_ret
     exact ⟨ret_bool (by rw [E.out];simp [hU]),HBF.out⟩
   case pos=>
     subst hU
     by_cases hV:V=H
     case neg=>
       have hV2:(V==H)=false:=by simpa using hV
       go_region_held3 (fun v=>v.cell? ⟨w.heap.size,0,none⟩=some (.int .i64 U)∧v.cell? ⟨w.heap.size,1,none⟩=some (.int .i64 H)∧v.cell? ⟨w.heap.size,6,none⟩=some (.slice (some ⟨b,off,none⟩) n c)∧v.cell? ⟨b,off,none⟩=some (.int .i64 U)∧v.cell? ⟨b,off+1,none⟩=some (.int .i64 V)∧BelowL w2 v)
         (first | exact MK.out _ hb1 | exact MK.out _ (BelowL.start _))
         (first
           | (go_at_call 38;((with_reducible refine (CS.out _ (limb6 (by assumption))).mono ?_);rintro e v1 ⟨rfl,hq1⟩;have hb1:=BelowL.call (limb6 (by assumption)) hq1)))
       have HBF:=Lib.hid (bTrans HB2.out hb1.out)
       go_wp2_with fail
       go_ret
       exact ⟨ret_bool (by rw [E.out];simp [hV]),HBF.out⟩
     case pos=>
       subst hV
       go_region_held3 (fun v=>v.cell? ⟨w.heap.size,0,none⟩=some (.int .i64 U)∧v.cell? ⟨w.heap.size,1,none⟩=some (.int .i64 V)∧v.cell? ⟨w.heap.size,6,none⟩=some (.slice (some ⟨b,off,none⟩) n c)∧v.cell? ⟨b,off,none⟩=some (.int .i64 U)∧v.cell? ⟨b,off+1,none⟩=some (.int .i64 V)∧BelowL w2 v)
         (first | exact MK.out _ hb1 | exact MK.out _ (BelowL.start _))
         (first
           | (go_at_call 38;((with_reducible refine (CS.out _ (limb6 (by assumption))).mono ?_);rintro e v1 ⟨rfl,hq1⟩;have hb1:=BelowL.call (limb6 (by assumption)) hq1)))
       have HBF:=Lib.hid (bTrans HB2.out hb1.out)
       go_wp2_with fail
       go_ret
       exact ⟨ret_bool (by rw [E.out];simp),HBF.out⟩
end Go.Proofs.YtanccoopbgamdaaGreatDoor
namespace Go.Proofs.YtanccoopbgamdaaGreatDoor
open Go.ChangeShapes Go.WideShapes Go.ChangeAt Go.RowKit
set_option linter.unusedVariables false
set_option linter.unusedSimpArgs false
set_option maxHeartbeats 400000 in
theorem laws_ints (a b:Option Addr) (n m c d:Nat) (xs ys:List Int) (w:World) (hn:xs.length=n) (hm:ys.length=m) (ha:Rd w a xs) (hb:Rd w b ys) (hl:n≤9223372036854775807) (hl2:m≤9223372036854775807):
   Calls Tryz.prog 43 #[.slice a n c, .slice b m d] w fun e w'=>e= .returned (.bool (decide (xs=ys)))∧Below w.heap.size w w':=by
 by_cases hnm:n=m
 case neg=>
   have H:Hid (¬xs=ys):=fun h=>hnm (by rw [←hn,←hm,h])
   have hq:((n:Int)==(m:Int))=false:=by simp;omega
   have hq2:((n:Int) !=(m:Int))=true:=by simp;omega
   have HN:=Lib.hid hn
   have HM:=Lib.hid hm
   have HA:=Lib.hid ha
   have HB:=Lib.hid hb
   clear hn hm hnm ha hb
   go_enter Tryz.func43,Tryz.ntmps43
   go_wp2
   go_ret
   exact ⟨by simp [H.out],Below.refl _ _⟩
 case pos=>
   subst hnm
   have HN:=Lib.hid hn
   have HM:=Lib.hid hm
   have HA:=Lib.hid ha
   have HB:=Lib.hid hb
   clear hn hm ha hb
   go_enter Tryz.func43,Tryz.ntmps43
   go_wp2
   go_loopw [13] (fun i wr=> ∃k:Nat,k≤n∧i= .int .i64 k∧Hid (xs.take k=ys.take k)∧ ∃q,wr=w.drewN q) (fun i _=>n - (intOf i).toNat)
   case atStart=>exact ⟨0,Nat.zero_le _,rfl,rfl,0,rfl⟩
   case round=>
     obtain ⟨k,hk,rfl,HT,q,rfl⟩:=hrel
     by_cases hlt:k<n
     · obtain ⟨ba,oa,hae,hal,hac⟩:=HA.out.at (by have:=HN.out;omega)
       obtain ⟨bb,ob,hbe,hbl,hbc⟩:=HB.out.at (by have:=HM.out;omega)
       subst hae hbe
       have h1:w.cell? ⟨ba,oa+k,none⟩=some (.int .i64 (xs.getD k 0)):=hac k (by have:=HN.out;omega)
       have h2:w.cell? ⟨bb,ob+k,none⟩=some (.int .i64 (ys.getD k 0)):=hbc k (by have:=HM.out;omega)
       clear hac hbc
       go_wp2
       go_quiet (fail)
       go_wp2
       · have hne:(xs[k]?.getD 0 !=ys[k]?.getD 0)=true:=by assumption
         go_ret
         refine ⟨ret_bool ?_,(Joins.below_draws _ _ _).trans (Joins.below_draws _ _ _)⟩
         symm;rw [decide_eq_false_iff_not]
         intro h;subst h;simp at hne
       · have hne:(xs[k]?.getD 0 !=ys[k]?.getD 0)=false:=by assumption
         go_roundw
         case rel=>exact ⟨k+1,by omega,by go_num,take_succ_eq (by have:=HN.out;omega) (by have:=HM.out;omega) HT.out (by simpa using hne),(by first | exact draws1 _ _ | exact draws2 _ _ _)⟩
         case measure=>simp [intOf];omega
     · go_wp2
       go_ret
       refine ⟨ret_bool ?_,Joins.below_draws _ _ _⟩
       symm;rw [decide_eq_true_iff]
       have h:=HT.out
       rwa [List.take_of_length_le (by have:=HN.out;omega),List.take_of_length_le (by have:=HM.out;omega)] at h
set_option maxHeartbeats 400000 in
theorem laws_same (W H:Int) (a:Option Addr) (n c:Nat) (xs:List Int) (W' H':Int) (b:Option Addr) (m d:Nat) (ys:List Int) (w:World) (hn:xs.length=n) (ha:Rd w a xs) (hl:n≤9223372036854775807) (hm:ys.length=m) (hb:Rd w b ys) (hl2:m≤9223372036854775807):
   Calls Tryz.prog 17 #[.agg #[.int .i64 W, .int .i64 H, .slice a n c], .agg #[.int .i64 W', .int .i64 H', .slice b m d]] w fun e w'=>e= .returned (.bool (decide (W=W'∧H=H'∧xs=ys)))∧Below w.heap.size w w':=by
 have HN:=Lib.hid hn
 have HM:=Lib.hid hm
 have HA:=Lib.hid ha
 have HB:=Lib.hid hb
 clear hn hm ha hb
 by_cases h1:W=W'
 case neg=>
   have hq:(W==W')=false:=by simpa using h1
   have HF:Hid (decide (W=W'∧H=H'∧xs=ys)=false):=Lib.hid (decide_eq_false (fun h=>h1 h.1))
   clear h1
   go_enter Tryz.func17,Tryz.ntmps17
   go_wp2_with fail
   go_ret
   exact ⟨ret_bool HF.out.symm,Joins.below_alloc2 _ _ _⟩
 case pos=>
   by_cases h2:H=H'
   case neg=>
     have hq:(W==W')=true:=by simpa using h1
     have hq2:(H==H')=false:=by simpa using h2
     have HF:Hid (decide (W=W'∧H=H'∧xs=ys)=false):=Lib.hid (decide_eq_false (fun h=>h2 h.2.1))
     clear h1 h2
     go_enter Tryz.func17,Tryz.ntmps17
     go_wp2_with fail
     go_ret
     exact ⟨ret_bool HF.out.symm,Joins.below_alloc2 _ _ _⟩
   case pos=>
     have hq:(W==W')=true:=by simpa using h1
     have hq2:(H==H')=true:=by simpa using h2
     have HF:Hid (decide (W=W'∧H=H'∧xs=ys)=decide (xs=ys)):=Lib.hid (by simp [h1,h2])
     rw [HF.out]
     clear h1 h2
     go_enter Tryz.func17,Tryz.ntmps17
     go_wp2_with fail
     refine (laws_ints a b n m c d xs ys _ HN.out HM.out (HA.out.below (Joins.below_alloc2 _ _ _)) (HB.out.below (Joins.below_alloc2 _ _ _)) hl hl2).mono ?_
     rintro e w1 ⟨rfl,hb1⟩
     have HB1:=Lib.hid (bTrans (Joins.below_alloc2 w _ _) hb1)
     clear hb1
     go_wp2_with fail
     go_ret
     exact ⟨rfl,HB1.out⟩
set_option maxHeartbeats 400000 in
theorem laws_alike (W H:Int) (a:Option Addr) (n c:Nat) (xs:List Int) (W' H':Int) (b:Option Addr) (m d:Nat) (ys:List Int) (w:World) (hn:xs.length=n) (ha:Rd w a xs) (hl:n≤9223372036854775807) (hm:ys.length=m) (hb:Rd w b ys) (hl2:m≤9223372036854775807):
   Calls Tryz.prog 18 #[.agg #[.int .i64 W, .int .i64 H, .slice a n c], .agg #[.int .i64 W', .int .i64 H', .slice b m d]] w fun e w'=>e= .returned (.bool (decide (W=W'∧H=H'∧xs=ys)))∧Below w.heap.size w w':=by
 have HN:=Lib.hid hn
 have HM:=Lib.hid hm
 have HA:=Lib.hid ha
 have HB:=Lib.hid hb
 clear hn hm ha hb
 by_cases h1:W=W'
 case neg=>
   have hq:(W==W')=false:=by simpa using h1
   have HF:Hid (decide (W=W'∧H=H'∧xs=ys)=false):=Lib.hid (decide_eq_false (fun h=>h1 h.1))
   clear h1
   go_enter Tryz.func18,Tryz.ntmps18
   go_wp2_with fail
   go_ret
   exact ⟨ret_bool HF.out.symm,Joins.below_alloc2 _ _ _⟩
 case pos=>
   by_cases h2:H=H'
   case neg=>
     have hq:(W==W')=true:=by simpa using h1
     have hq2:(H==H')=false:=by simpa using h2
     have HF:Hid (decide (W=W'∧H=H'∧xs=ys)=false):=Lib.hid (decide_eq_false (fun h=>h2 h.2.1))
     clear h1 h2
     go_enter Tryz.func18,Tryz.ntmps18
     go_wp2_with fail
     go_ret
     exact ⟨ret_bool HF.out.symm,Joins.below_alloc2 _ _ _⟩
   case pos=>
     have hq:(W==W')=true:=by simpa using h1
     have hq2:(H==H')=true:=by simpa using h2
     have HF:Hid (decide (W=W'∧H=H'∧xs=ys)=decide (xs=ys)):=Lib.hid (by simp [h1,h2])
     rw [HF.out]
     clear h1 h2
     go_enter Tryz.func18,Tryz.ntmps18
     go_wp2_with fail
     refine (laws_ints a b n m c d xs ys _ HN.out HM.out (HA.out.below (Joins.below_alloc2 _ _ _)) (HB.out.below (Joins.below_alloc2 _ _ _)) hl hl2).mono ?_
     rintro e w1 ⟨rfl,hb1⟩
     have HB1:=Lib.hid (bTrans (Joins.below_alloc2 w _ _) hb1)
     clear hb1
     go_wp2_with fail
     go_ret
     exact ⟨rfl,HB1.out⟩
theorem picsV_same {L M:List PV} (h:picsV L=picsV M):L.length=M.length∧ ∀k,k<M.length→(pv L k).W=(pv M k).W∧(pv L k).H=(pv M k).H∧(pv L k).ink=(pv M k).ink:=by
 have hl:L.length=M.length:=by have:=congrArg List.length h;simpa [picsV] using this
 refine ⟨hl,fun k hk=>?_⟩
 have e:=congrArg (fun l=>l[k]?) h
 unfold picsV at e
 simp only [List.getElem?_map,List.getElem?_eq_getElem hk,List.getElem?_eq_getElem (show k<L.length by omega),Option.map_some,Option.some.injEq] at e
 unfold pv
 simp only [List.getD,List.getElem?_eq_getElem hk,List.getElem?_eq_getElem (show k<L.length by omega),Option.getD_some]
 exact ⟨congrArg Pic.W e,congrArg Pic.H e,congrArg Pic.ink e⟩
set_option maxRecDepth 100000 in
set_option maxHeartbeats 1600000 in
theorem spec_DrawRunLine (ac:Option Addr) (nc capc:Nat) (bs:List Int) (w:World) (hl:bs.length=nc) (hr:RdU w.heap.size w ac bs) (hn:nc≤4611686018427387904):
   Calls Tryz.prog 13 #[.slice ac nc capc] w fun e w'=> ∃(D:Dsk) (s:ByteArray),e= .returned (.tuple #[D.val, .string s])∧s.size≤64∧OwnD w' w.heap.size D∧SmallD D∧AddrD D∧Below w.heap.size w w':=by
 have HR:=Lib.hid hr
 clear hr
 have KR:=Lib.hid (Blk.new w 43 #[.int .i64 0, .int .i64 0, .slice none 0 0, .int .i64 0, .int .i64 0, .slice none 0 0, .slice none 0 0])
 have HB0:=Lib.hid (Joins.below_alloc1 w (.cells #[.int .i64 0, .int .i64 0, .slice none 0 0, .int .i64 0, .int .i64 0, .slice none 0 0, .slice none 0 0] 43))
 go_enter Tryz.func13,Tryz.ntmps13
 go_wp2_with fail
 refine (spec_l01New ac nc capc bs _ hl ((HR.out.below HB0.out).mono (by simp)) hn).mono ?_
 rintro e w1 ⟨c,rfl,hcl,hc1,hb1⟩
 simp only [World.size_alloc] at hcl
 have HC1:=Lib.hid hc1
 have HB1:=Lib.hid (bTrans HB0.out hb1)
 have KR1:=Lib.hid (KR.out.below' hb1)
 clear hc1 hb1 KR
 go_wp2_with fail
 refine (spec_l8Any c ac nc capc bs _ HC1.out).mono ?_
 rintro e w2 ⟨D,rfl,ho,hs,ha,hc2,hg2⟩
 have HC2:=Lib.hid hc2
 have HO2:=Lib.hid (ho.mono (B':=w.heap.size+1) (by have:=KR1.out.lt;omega))
 have HCB:Hid (∀b,D.blocks b→c<b):=Lib.hid (fun b hb=>by have:=(ho.bd b hb).1;have:=HC1.out.lt;omega)
 have HS:=Lib.hid hs
 have HA:=Lib.hid ha
 have HB2:=Lib.hid (HB1.out.grown hg2 HB1.out.size (fun k e=>by cases e;omega))
 have KR2:=Lib.hid (KR1.out.grown hg2 (by intro e;have:=Option.some.inj e;omega))
 clear ho hs ha hc2 hg2 KR1
 go_wp2_with fail
 refine (spec_l8Line c ac nc capc bs _ HC2.out).mono ?_
 rintro e w3 ⟨s,rfl,hz,hc3,hg3⟩
 have HO3:=Lib.hid (HO2.out.keepZ (KeepT.ofGrown (S:=fun b=>b=c) hg3 (fun b e=>(Option.some.inj e).symm)) (fun b e hd=>by have:=HCB.out b hd;omega))
 have HB3:=Lib.hid (HB2.out.grown hg3 HB2.out.size (fun k e=>by cases e;omega))
 have KR3:=Lib.hid (KR2.out.grown hg3 (by intro e;have:=Option.some.inj e;omega))
 clear hc3 hg3 KR2
 obtain ⟨r0,d0,d1,d2,d3,d4,d5,d6⟩:=KR3.out.c7
 obtain ⟨f0,f1,f2,f3,f4,f5,f6⟩:=KR3.out.f7
 unfold Dsk.val
 go_wp2_with fail
 exact bodyPost_ret (v:= .tuple #[D.val, .string s]) (by simp [results,Tryz.results13,go_sem,Dsk.val,d0,d1,d2,d3,d4,d5,d6]) rfl ⟨D,s,rfl,hz,(HO3.out.set7 (fun b hb=>by have:=(HO3.out.bd b hb).1;omega) _ _ _ _ _ _ _).mono (by omega),HS.out,HA.out,below_set7 HB3.out (Nat.le_refl _) _ _ _ _ _ _ _⟩
end Go.Proofs.YtanccoopbgamdaaGreatDoor
namespace Go.Proofs.YtanccoopbgamdaaGreatDoor.xKept
open Go.ChangeShapes Go.WideShapes Go.ChangeAt Go.RowKit
set_option linter.unusedVariables false
set_option linter.unusedSimpArgs false
set_option maxRecDepth 100000 in
set_option maxHeartbeats 800000 in
theorem no0 (ad0:Option Addr) (n0 cap0:Nat) (bs0:List Int) (w:World) (h:1048576<n0) (hl:n0≤9223372036854775807):
   Calls Tryz.prog 4 #[.slice ad0 n0 cap0] w fun e w'=>e= .returned (.bool true)∧Below w.heap.size w w':=by
 have h1:(1048576:Int)<(n0:Int):=by omega
 go_enter Tryz.func4,Tryz.ntmps4
 go_wp2_with fail
 go_ret
 exact ⟨rfl,Below.refl _ _⟩
set_option maxRecDepth 100000 in
set_option maxHeartbeats 3200000 in
theorem ok (ad0 :Option Addr) (n0 cap0:Nat) (bs0:List Int) (w:World) (hn0:bs0.length=n0) (hr0:RdU w.heap.size w ad0 bs0) (h:n0≤1048576) (hL:LaidW w):
   Calls Tryz.prog 4 #[.slice ad0 n0 cap0] w fun e w'=>e= .returned (.bool true)∧Below w.heap.size w w':=by
 have HLW:=Lib.hid hL
 have HR0:=Lib.hid hr0
 clear hL hr0
 go_enter Tryz.func4,Tryz.ntmps4
 go_wp2_with fail
 refine (spec_DrawRunLine ad0 n0 cap0 bs0 w hn0 HR0.out (by omega)).mono ?_
 rintro e w1 ⟨D,s,rfl,hz,ho,hs,ha,hb⟩
 have HS:=Lib.hid hs
 have HA:=Lib.hid ha
 obtain ⟨w2,hw2⟩: ∃x,x=w1.alloc (.cells #[.int .i64 D.P.W, .int .i64 D.P.H, .slice D.P.a D.P.n D.P.c, .int .i64 D.M.W, .int .i64 D.M.H, .slice D.M.a D.M.n D.M.c, .slice D.a D.n D.c] 43):=⟨_,rfl⟩
 have KD2:Hid (Blk w2 w1.heap.size 43 #[.int .i64 D.P.W, .int .i64 D.P.H, .slice D.P.a D.P.n D.P.c, .int .i64 D.M.W, .int .i64 D.M.H, .slice D.M.a D.M.n D.M.c, .slice D.a D.n D.c]):=Lib.hid (by rw [hw2];exact Blk.new _ _ _)
 have RD2:Hid (RdD w2 D):=Lib.hid (by rw [hw2];exact ho.rd.alloc _)
 have HB2:Hid (Below w.heap.size w w2):=Lib.hid (by rw [hw2];exact bAlloc hb _)
 obtain ⟨db,hdb⟩: ∃b,w1.heap.size=b:=⟨_,rfl⟩
 unfold Dsk.val
 go_upto_region 4 with fail
 rw [←hw2]
 rw [hdb] at KD2
 clear hs ha ho hb hw2 hdb
 obtain ⟨l0,c0,c1,c2,c3,c4,c5,c6⟩:=KD2.out.c7
 go_wp2_with fail
 refine (spec_DeskOk D _ RD2.out HS.out).mono ?_
 rintro e w3 ⟨rfl,hb3⟩
 have KD3:=Lib.hid (KD2.out.below' hb3)
 have RD3:=Lib.hid (RD2.out.below hb3)
 have HB3:=Lib.hid (bTrans HB2.out hb3)
 clear hb3 KD2 RD2 l0 c0 c1 c2 c3 c4 c5 c6
 obtain ⟨l0,c0,c1,c2,c3,c4,c5,c6⟩:=KD3.out.c7
 by_cases hk:deskOk D.dat=true
 · rw [hk]
   go_wp2_with fail
   refine (impl_RunLineA D s _ RD3.out HS.out HA.out (by omega) (HLW.out.below HB3.out)).mono ?_
   rintro e w4 ⟨E,rfl,hoE,hdE,hsE,hbE⟩
   have HSE:=Lib.hid hsE
   have HKE:Hid (deskOk E.dat=true):=Lib.hid (by rw [hdE];exact runF_kept s hk)
   obtain ⟨ans,hans⟩: ∃t,(runF D.dat s).2=t:=⟨_,rfl⟩
   have HRF:Hid (refused ans→E.dat=D.dat):=Lib.hid (fun h=>hdE.trans (runF_refused s (by rw [hans];exact h)))
   rw [hans]
   obtain ⟨w5,hw5⟩: ∃x,x=w4.alloc (.cells #[.int .i64 E.P.W, .int .i64 E.P.H, .slice E.P.a E.P.n E.P.c, .int .i64 E.M.W, .int .i64 E.M.H, .slice E.M.a E.M.n E.M.c, .slice E.a E.n E.c] 43):=⟨_,rfl⟩
   have KE5:Hid (Blk w5 w4.heap.size 43 #[.int .i64 E.P.W, .int .i64 E.P.H, .slice E.P.a E.P.n E.P.c, .int .i64 E.M.W, .int .i64 E.M.H, .slice E.M.a E.M.n E.M.c, .slice E.a E.n E.c]):=Lib.hid (by rw [hw5];exact Blk.new _ _ _)
   have KD5:Hid (Blk w5 db 43 #[.int .i64 D.P.W, .int .i64 D.P.H, .slice D.P.a D.P.n D.P.c, .int .i64 D.M.W, .int .i64 D.M.H, .slice D.M.a D.M.n D.M.c, .slice D.a D.n D.c]):=Lib.hid (by rw [hw5];exact (KD3.out.below' hbE).alloc _)
   have RD5:Hid (RdD w5 D):=Lib.hid (by rw [hw5];exact (RD3.out.below hbE).alloc _)
   have RE5:Hid (RdD w5 E):=Lib.hid (by rw [hw5];exact hoE.rd.alloc _)
   have HB5:Hid (Below w.heap.size w w5):=Lib.hid (by rw [hw5];exact bAlloc (bTrans HB3.out hbE) _)
   obtain ⟨eb,heb⟩: ∃b,w4.heap.size=b:=⟨_,rfl⟩
   have HNE:Hid (db<eb):=Lib.hid (by rw [←heb];exact (KD3.out.below' hbE).lt)
   unfold Dsk.val
   go_upto_region 8 with fail
   rw [←hw5]
   rw [heb] at KE5
   clear hoE hdE hsE hbE hw5 heb hans KD3 RD3 HB3 l0 c0 c1 c2 c3 c4 c5 c6
   obtain ⟨l0,c0,c1,c2,c3,c4,c5,c6⟩:=KD5.out.c7
   go_wp2_with fail
   refine (impl_DeskOk D _ RD5.out HS.out).mono ?_
   rintro e w6 ⟨rfl,hb6⟩
   rw [hk]
   have KE6:=Lib.hid (KE5.out.below' hb6)
   have KD6:=Lib.hid (KD5.out.below' hb6)
   have RD6:=Lib.hid (RD5.out.below hb6)
   have RE6:=Lib.hid (RE5.out.below hb6)
   have HB6:=Lib.hid (bTrans HB5.out hb6)
   clear hb6 KE5 KD5 RD5 RE5 l0 c0 c1 c2 c3 c4 c5 c6
   obtain ⟨l0,c0,c1,c2,c3,c4,c5,c6⟩:=KE6.out.c7
   go_wp2_with fail
   refine (impl_DeskOk E _ RE6.out HSE.out).mono ?_
   rintro e w7 ⟨rfl,hb7⟩
   rw [HKE.out]
   have KE7:=Lib.hid (KE6.out.below' hb7)
   have KD7:=Lib.hid (KD6.out.below' hb7)
   have RD7:=Lib.hid (RD6.out.below hb7)
   have RE7:=Lib.hid (RE6.out.below hb7)
   have HB7:=Lib.hid (bTrans HB6.out hb7)
   clear hb7 KE6 KD6 RD6 RE6 l0 c0 c1 c2 c3 c4 c5 c6
   by_cases hr:refused ans
   · have HQ : Hid ((E.P.W=D.P.W∧E.P.H=D.P.H∧E.P.ink=D.P.ink)∧(E.M.W=D.M.W∧E.M.H=D.M.H∧E.M.ink=D.M.ink)∧E.n=D.n∧ ∀k,k<D.ps.length→(pv E.ps k).W=(pv D.ps k).W∧(pv E.ps k).H=(pv D.ps k).H∧(pv E.ps k).ink=(pv D.ps k).ink):=Lib.hid (by
       have h:=HRF.out hr
       have h1:E.P.pic=D.P.pic:=congrArg Prod.fst h
       have h2:E.M.pic=D.M.pic:=congrArg (fun d=>d.2.1) h
       obtain ⟨h3,h4⟩:=picsV_same (congrArg (fun d=>d.2.2) h:picsV E.ps=picsV D.ps)
       exact ⟨⟨congrArg Pic.W h1,congrArg Pic.H h1,congrArg Pic.ink h1⟩,⟨congrArg Pic.W h2,congrArg Pic.H h2,congrArg Pic.ink h2⟩,by rw [←RE7.out.sl,←RD7.out.sl,h3],h4⟩)
     go_upto_region 10 with fail
     rcases hr with e | e | e | e <;>(
       subst e
       (first | unfold ansWhat | unfold ansNo | unfold ansNone | unfold ansFull)
       go_upto_region 12 with fail
       obtain ⟨l0,c0,c1,c2,c3,c4,c5,c6⟩:=KE7.out.c7
       obtain ⟨m0,d0,d1,d2,d3,d4,d5,d6⟩:=KD7.out.c7
       have sp:=HSE.out.p
       have sm:=HSE.out.m
       have tp:=HS.out.p
       have tm:=HS.out.m
       go_wp2_with fail
       refine (laws_same E.P.W E.P.H E.P.a E.P.n E.P.c E.P.ink D.P.W D.P.H D.P.a D.P.n D.P.c D.P.ink _ RE7.out.pl RE7.out.pr (by omega) RD7.out.pl RD7.out.pr (by omega)).mono ?_
       rintro e w8 ⟨rfl,hb8⟩
       rw [decide_eq_true (HQ.out.1)]
       have KE8:=Lib.hid (KE7.out.below' hb8)
       have KD8:=Lib.hid (KD7.out.below' hb8)
       have RD8:=Lib.hid (RD7.out.below hb8)
       have RE8:=Lib.hid (RE7.out.below hb8)
       have HB8:=Lib.hid (bTrans HB7.out hb8)
       clear hb8 l0 c0 c1 c2 c3 c4 c5 c6 m0 d0 d1 d2 d3 d4 d5 d6
       obtain ⟨l0,c0,c1,c2,c3,c4,c5,c6⟩:=KE8.out.c7
       obtain ⟨m0,d0,d1,d2,d3,d4,d5,d6⟩:=KD8.out.c7
       go_wp2_with fail
       refine (laws_alike E.M.W E.M.H E.M.a E.M.n E.M.c E.M.ink D.M.W D.M.H D.M.a D.M.n D.M.c D.M.ink _ RE8.out.ml RE8.out.mr (by omega) RD8.out.ml RD8.out.mr (by omega)).mono ?_
       rintro e w9 ⟨rfl,hb9⟩
       rw [decide_eq_true (HQ.out.2.1)]
       have KE9:=Lib.hid (KE8.out.below' hb9)
       have KD9:=Lib.hid (KD8.out.below' hb9)
       have RD9:=Lib.hid (RD8.out.below hb9)
       have RE9:=Lib.hid (RE8.out.below hb9)
       have HB9:=Lib.hid (bTrans HB8.out hb9)
       clear hb9 l0 c0 c1 c2 c3 c4 c5 c6 m0 d0 d1 d2 d3 d4 d5 d6 sp sm tp tm
       obtain ⟨l0,c0,c1,c2,c3,c4,c5,c6⟩:=KE9.out.c7
       obtain ⟨m0,d0,d1,d2,d3,d4,d5,d6⟩:=KD9.out.c7
       have hnn:=HQ.out.2.2.1
       have hdn:=HS.out.n
       obtain ⟨da,hda⟩: ∃x,D.a=x:=⟨_,rfl⟩
       have HDA:=Lib.hid hda
       rw [hda] at d6
       clear hda
       go_wp2_with fail
       clear l0 c0 c1 c2 c3 c4 c5 c6 m0 d0 d1 d2 d3 d4 d5 d6
       go_loopw [89] (fun i wr=> ∃k:Nat,k≤D.n∧i= .int .i64 k∧Below w9.heap.size w9 wr) (fun i _=>D.n - (intOf i).toNat)
       case atStart=>exact ⟨0,Nat.zero_le _,rfl,Below.refl _ _⟩
       case round=>
         obtain ⟨k,hkn,rfl,hbr⟩:=hrel
         have HBr:=Lib.hid hbr
         clear hbr
         by_cases hlt:k<D.n
         · have RDr:=Lib.hid (RD9.out.below HBr.out)
           have hkl:k<D.ps.length:=by rw [RD9.out.sl];exact hlt
           have hkl2:k<E.ps.length:=by rw [RE9.out.sl,hnn];exact hlt
           have smk:=HS.out.s k hkl
           have sek:=HSE.out.s k hkl2
           obtain ⟨q1,q2,q3⟩:=HQ.out.2.2.2 k hkl
           obtain ⟨b,off,hae,hal⟩:=RDr.out.sr.addr (by omega)
           obtain ⟨b2,off2,hae2,hal2⟩:=(RE9.out.below HBr.out).sr.addr (by omega)
           have HA1:=Lib.hid hae
           have HA2:=Lib.hid hae2
           have rv1:=RDr.out.sr
           rw [hae] at rv1
           obtain rfl:da=some ⟨b,off,none⟩:=HDA.out.symm.trans hae
           obtain ⟨_,p0,p1,p2⟩:=rv1.cells (k:=k) hkl
           clear hae hae2
           have k0:(0:Int)≤(k:Int):=by omega
           have k1:(k:Int)<(D.n:Int):=by omega
           clear rv1
           go_upto_region 17 with fail
           obtain ⟨wz,hwz⟩: ∃x,x=wr.alloc (.cells #[.int .i64 (pv D.ps k).W, .int .i64 (pv D.ps k).H, .slice (pv D.ps k).a (pv D.ps k).n (pv D.ps k).c] 27):=⟨_,rfl⟩
           rw [←hwz]
           have HW:=Lib.hid hwz
           have HBz:Hid (Below wr.heap.size wr wz):=Lib.hid (by rw [HW.out];exact Joins.below_alloc1 _ _)
           have KZ:Hid (Blk wz wr.heap.size 27 #[.int .i64 (pv D.ps k).W, .int .i64 (pv D.ps k).H, .slice (pv D.ps k).a (pv D.ps k).n (pv D.ps k).c]):=Lib.hid (by rw [HW.out];exact Blk.new _ _ _)
           have HBa:=Lib.hid (bTrans HBr.out HBz.out)
           have KEz:=Lib.hid (KE9.out.below' HBa.out)
           have RDz:=Lib.hid (RD9.out.below HBa.out)
           have REz:=Lib.hid (RE9.out.below HBa.out)
           have rv2:=REz.out.sr
           rw [HA2.out] at rv2
           have LN1:=Lib.hid (RDz.out.sr.len hkl)
           have LN2:=Lib.hid (REz.out.sr.len hkl2)
           have RR1:=Lib.hid (RDz.out.sr.rd hkl)
           have RR2:=Lib.hid (REz.out.sr.rd hkl2)
           have MK:Hid (∀v,BelowL wz v→v.cell? ⟨eb,6,none⟩=some (.slice (some ⟨b2,off2,none⟩) D.n E.c)∧v.cell? ⟨b2,off2+k*3,none⟩=some (.int .i64 (pv E.ps k).W)∧v.cell? ⟨b2,off2+k*3+1,none⟩=some (.int .i64 (pv E.ps k).H)∧v.cell? ⟨b2,off2+k*3+2,none⟩=some (.slice (pv E.ps k).a (pv E.ps k).n (pv E.ps k).c)∧v.cell? ⟨wr.heap.size,0,none⟩=some (.int .i64 (pv D.ps k).W)∧v.cell? ⟨wr.heap.size,1,none⟩=some (.int .i64 (pv D.ps k).H)∧v.cell? ⟨wr.heap.size,2,none⟩=some (.slice (pv D.ps k).a (pv D.ps k).n (pv D.ps k).c)∧BelowL wz v):=Lib.hid (by
             obtain ⟨g0,g1,g2,g3⟩:=rv2.cells (k:=k) hkl2
             obtain ⟨y0,y1,y2,y3⟩:=KZ.out.c3
             obtain ⟨e0,_,_,_,_,_,_,e6⟩:=KEz.out.c7
             rw [HA2.out,hnn] at e6
             exact fun v h=>⟨(h.out.cell e0).trans e6,(h.out.cell g0).trans g1,(h.out.cell g0).trans g2,(h.out.cell g0).trans g3,(h.out.cell y0).trans y1,(h.out.cell y0).trans y2,(h.out.cell y0).trans y3,h⟩)
           have CS:Hid (∀v,BelowL wz v→Calls Tryz.prog 17 #[.agg #[.int .i64 (pv E.ps k).W, .int .i64 (pv E.ps k).H, .slice (pv E.ps k).a (pv E.ps k).n (pv E.ps k).c], .agg #[.int .i64 (pv D.ps k).W, .int .i64 (pv D.ps k).H, .slice (pv D.ps k).a (pv D.ps k).n (pv D.ps k).c]] v fun e v'=>e= .returned (.bool true)∧Below v.heap.size v v'):=Lib.hid (fun v h=>
             (laws_same _ _ _ _ _ (pv E.ps k).ink _ _ _ _ _ (pv D.ps k).ink v LN2.out (RR2.out.below h.out) (by omega) LN1.out (RR1.out.below h.out) (by omega)).mono fun e v' ⟨he,hb⟩=>⟨by rw [he];exact ret_bool (decide_eq_true ⟨q1,q2,q3⟩),hb⟩)
           clear hwz rv2 p0 p1 p2 q1 q2 q3 smk sek hal hal2
           go_region_held3 (fun v=>v.cell? ⟨eb,6,none⟩=some (.slice (some ⟨b2,off2,none⟩) D.n E.c)∧v.cell? ⟨b2,off2+k*3,none⟩=some (.int .i64 (pv E.ps k).W)∧v.cell? ⟨b2,off2+k*3+1,none⟩=some (.int .i64 (pv E.ps k).H)∧v.cell? ⟨b2,off2+k*3+2,none⟩=some (.slice (pv E.ps k).a (pv E.ps k).n (pv E.ps k).c)∧v.cell? ⟨wr.heap.size,0,none⟩=some (.int .i64 (pv D.ps k).W)∧v.cell? ⟨wr.heap.size,1,none⟩=some (.int .i64 (pv D.ps k).H)∧v.cell? ⟨wr.heap.size,2,none⟩=some (.slice (pv D.ps k).a (pv D.ps k).n (pv D.ps k).c)∧BelowL wz v)
             (first | exact MK.out _ hb1 | exact MK.out _ (BelowL.start _))
             (first
               | (go_at_call 17;((with_reducible refine (CS.out _ (limb8 (by assumption))).mono ?_);rintro e v1 ⟨rfl,hq1⟩;have hb1:=BelowL.call (limb8 (by assumption)) hq1)))
           have HBe:=Lib.hid (bTrans HBa.out hb1.out)
           go_wp2_with fail
           go_roundw
           case rel=>exact ⟨k+1,by omega,by go_num,HBe.out⟩
           case measure=>simp [intOf];omega
         · obtain rfl:k=D.n:=by omega
           go_wp2_with fail
           go_ret
           exact ⟨rfl,bTrans HB9.out HBr.out⟩)
   · have n1: ¬ans=[119,104,97,116]:=fun e=>hr (.inl e)
     have n2: ¬ans=[110,111]:=fun e=>hr (.inr (.inl e))
     have n3: ¬ans=[110,111,110,101]:=fun e=>hr (.inr (.inr (.inl e)))
     have n4: ¬ans=[102,117,108,108]:=fun e=>hr (.inr (.inr (.inr e)))
     have n5:(ans==[119,104,97,116])=false:=by simpa using n1
     have n6:(ans==[110,111])=false:=by simpa using n2
     have n7:(ans==[110,111,110,101])=false:=by simpa using n3
     have n8:(ans==[102,117,108,108])=false:=by simpa using n4
     clear hr
     go_wp2_with fail
     go_ret
     exact ⟨rfl,HB7.out⟩
 · have hk2:deskOk D.dat=false:=by simpa using hk
   have ER:=runF_bad s hk2
   rw [hk2]
   go_wp2_with fail
   refine (impl_RunLineA D s _ RD3.out HS.out HA.out (by omega) (HLW.out.below HB3.out)).mono ?_
   rintro e w4 ⟨E,rfl,hoE,hdE,hsE,hbE⟩
   rw [ER]
   have KD4:=Lib.hid ((KD3.out.below' hbE).alloc (.cells #[.int .i64 E.P.W, .int .i64 E.P.H, .slice E.P.a E.P.n E.P.c, .int .i64 E.M.W, .int .i64 E.M.H, .slice E.M.a E.M.n E.M.c, .slice E.a E.n E.c] 43))
   have RD4:=Lib.hid ((RD3.out.below hbE).alloc (.cells #[.int .i64 E.P.W, .int .i64 E.P.H, .slice E.P.a E.P.n E.P.c, .int .i64 E.M.W, .int .i64 E.M.H, .slice E.M.a E.M.n E.M.c, .slice E.a E.n E.c] 43))
   have HB4:=Lib.hid (bAlloc (bTrans HB3.out hbE) (.cells #[.int .i64 E.P.W, .int .i64 E.P.H, .slice E.P.a E.P.n E.P.c, .int .i64 E.M.W, .int .i64 E.M.H, .slice E.M.a E.M.n E.M.c, .slice E.a E.n E.c] 43))
   clear hoE hdE hsE hbE ER KD3 RD3 HB3 l0 c0 c1 c2 c3 c4 c5 c6
   obtain ⟨l0,c0,c1,c2,c3,c4,c5,c6⟩:=KD4.out.c7
   unfold Dsk.val ansBad
   go_wp2_with fail
   refine (impl_DeskOk D _ RD4.out HS.out).mono ?_
   rintro e w5 ⟨rfl,hb5⟩
   rw [hk2]
   go_wp2_with fail
   go_ret
   exact ⟨rfl,bTrans HB4.out hb5⟩
theorem okAll: ∀(ad0:Option Addr) (n0 cap0:Nat) (bs0:List Int) (w:World),bs0.length=n0→RdU w.heap.size w ad0 bs0→n0≤9223372036854775807→LaidW w→Calls Tryz.prog 4 #[.slice ad0 n0 cap0] w fun e w'=>e= .returned (.bool true)∧Below w.heap.size w w':=by
 intro ad0 n0 cap0 bs0 w hn hr hl hL
 by_cases b0:n0≤1048576
 case neg=>exact no0 ad0 n0 cap0 bs0 w (by omega) hl
 case pos=>exact ok ad0 n0 cap0 bs0 w hn hr b0 hL
end Go.Proofs.YtanccoopbgamdaaGreatDoor.xKept
