/-
  Contracts and plain facts on which the theorem of this claim rests, text 35.
-/
import Derived.Test.YtanccoopbgamdaaGreatDoorDC4
import Derived.Test.YtanccoopbgamdaaGreatDoorDC6
import Derived.Test.YtanccoopbgamdaaGreatDoorDC8
import Derived.Test.YtanccoopbgamdaaGreatDoorDC12
import Derived.Test.YtanccoopbgamdaaGreatDoorDC34
namespace Go.Proofs.YtanccoopbgamdaaGreatDoor
open Go.RowKit
set_option linter.unusedVariables false
set_option linter.unusedSimpArgs false
set_option maxHeartbeats 800000 in
theorem impl_flip_none (h:Nat) (key:Int→Int) (v:Int) {w:World} {B f gi gc:Nat} {W H:Int} {n:Nat} {xs:List Int} (eh: ∀args w,(callFunc h args).run Tryz.prog w= .ok (.enter h args) w) (ho:OrdBy h key) (F:FSt w B f gi gc W H n xs (gen n (crowdG W H xs))) (hn:n≤256)
   (hb:bestTo xs v (fun j=>key (crowdG W H xs j)) xs.length=-1):
   Calls Tryz.prog 162 #[.pointer (some ⟨f,0,none⟩), .agg #[.int .i64 v, .func (.func h) #[] #[]]] w fun e w'=>e= .returned (.int .i64 (-1))∧Below w.heap.size w w':=by
 have EB:Hid (bestTo xs v (fun j=>key ((gen n (crowdG W H xs)).getD j 0)) n=-1):=Lib.hid (by rw [best_gen F.ink.len];exact hb)
 have HO:=Lib.hid ho
 have EH:=Lib.hid eh
 have KB:=Lib.hid ((Blk.new w 189 #[.int .i64 v, .func (.func h) #[] #[]]))
 have HF:=Lib.hid (F.alloc (.cells #[.int .i64 v, .func (.func h) #[] #[]] 189))
 have HB:=Lib.hid (Joins.below_alloc1 w (.cells #[.int .i64 v, .func (.func h) #[] #[]] 189))
 clear F hb ho eh
 go_enter Tryz.func162,Tryz.ntmps162
 go_upto_region 1 with fail
 obtain ⟨wo,hwo⟩: ∃wo:World,wo=w.alloc (.cells #[.int .i64 v, .func (.func h) #[] #[]] 189):=⟨_,rfl⟩
 rw [←hwo] at KB HF HB⊢
 clear hwo
 have lb:=KB.out.lt
 have k0:wo.cell? ⟨w.heap.size,0,none⟩=some (.int .i64 v):=by rw [KB.out.cell];rfl
 have k1:wo.cell? ⟨w.heap.size,1,none⟩=some (.func (.func h) #[] #[]):=by rw [KB.out.cell];rfl
 go_wp2_with fail
 refine (impl_chosen h key v EH.out HO.out HF.out hn).mono ?_
 rw [EB.out]
 rintro e w4 ⟨rfl,hb⟩
 have HB:=Lib.hid (bTrans HB.out hb)
 clear hb lb k0 k1
 go_wp2_with fail
 go_ret
 exact ⟨rfl,HB.out⟩
set_option maxHeartbeats 1600000 in
theorem impl_swap {w:World} {B f gi gc:Nat} {W H:Int} {n:Nat} {xs:List Int} (F:FSt w B f gi gc W H n xs (gen n (crowdG W H xs))) (hok:fieldOk W H xs=true):
   Calls Tryz.prog 161 #[.pointer (some ⟨f,0,none⟩)] w fun e w'=>e= .returned (.bool (swapG W H xs).2)∧FSt w' B f gi gc W H n (swapG W H xs).1 (gen n (crowdG W H (swapG W H xs).1))∧Keep6 (Duo gi gc) w w':=by
 have HN:=Lib.hid F.ink.len
 have b6:=(field_bd HN.out hok).2.2.2.2.2.1
 have HOK:=Lib.hid hok
 have HF:=Lib.hid F
 clear F hok
 go_enter Tryz.func161,Tryz.ntmps161
 go_wp2_with fail
 refine (impl_tightest _).mono ?_
 rintro e w1 ⟨rfl,hb⟩
 have HF:=Lib.hid (HF.out.below hb)
 have HB:=Lib.hid hb
 clear hb
 go_wp2_with fail
 rcases tight_cases W H xs with ⟨h1,h2⟩ | ⟨i,h1,h2,h3⟩
 · have ES:Hid (swapG W H xs=(xs,false)):=Lib.hid (by unfold swapG;rw [if_pos (by omega)])
   refine (impl_flip_none 199 keyT 1 entT ordT HF.out b6 h1).mono ?_
   rintro e w2 ⟨rfl,hb⟩
   have HF:=Lib.hid (HF.out.below hb)
   have HB:=Lib.hid (bTrans HB.out hb)
   clear hb h1 h2
   go_wp2_with fail
   go_ret
   rw [ES.out]
   exact ⟨rfl,HF.out,Keep6.ofBelow HB.out⟩
 · refine (impl_flip 199 keyT 1 (Or.inr rfl) entT ordT HF.out HOK.out i h1 h2 h3).mono ?_
   rintro e w2 ⟨rfl,hf,hk⟩
   have EF:Hid (flipT W H xs=xs.set i (1 - 1)):=Lib.hid (by unfold flipT;rw [h1];rfl)
   rw [←EF.out] at hf
   have HF:=Lib.hid hf
   have HK:=Lib.hid ((Keep6.ofBelow (S:=Duo gi gc) HB.out).trans hk)
   have HOK2:=Lib.hid (field_flipT HOK.out)
   have hw:=wide_after (W:=W) (H:=H) h2
   rw [show xs.set i 0=flipT W H xs by rw [EF.out];rfl] at hw
   obtain ⟨k,k1,k2,k3⟩:=hw
   have k2':k<(flipT W H xs).length:=by rw [tight_len];exact k2
   have ES:Hid (swapG W H xs=((flipT W H xs).set k (1 - 0),decide ((k:Int)≠i))):=Lib.hid (by
     unfold swapG flipW
     rw [if_neg (by omega),k1,h1]
     simp)
   have HT:=Lib.hid (And.intro k1 (And.intro k2' k3))
   clear hf hk h1 h2 h3 k1 k2 k3 k2' HB
   have hi0:0≤(i:Int):=by omega
   go_wp2_with fail
   refine (impl_widest _).mono ?_
   rintro e w3 ⟨rfl,hb⟩
   have HF:=Lib.hid (HF.out.below hb)
   have HK:=Lib.hid (HK.out.call hb)
   clear hb
   go_wp2_with fail
   refine (impl_flip 127 keyW 0 (Or.inl rfl) entW ordW HF.out HOK2.out k HT.out.1 HT.out.2.1 HT.out.2.2).mono ?_
   rintro e w4 ⟨rfl,hf,hk⟩
   have HF:=Lib.hid hf
   have HK:=Lib.hid (HK.out.trans hk)
   clear hf hk
   by_cases hki:(k:Int)=(i:Int)
   · have hd:decide ((k:Int)≠i)=false:=by simp [hki]
     rw [hd] at ES
     have hq:((k:Int) !=(i:Int))=false:=by simp [hki]
     have HKI:=Lib.hid hki
     clear hd hki
     go_wp2_with fail
     go_ret
     rw [ES.out]
     exact ⟨rfl,HF.out,HK.out⟩
   · have hd:decide ((k:Int)≠i)=true:=by simp;omega
     rw [hd] at ES
     have hq:((k:Int) !=(i:Int))=true:=by simp;omega
     have HKI:=Lib.hid hki
     clear hd hki
     go_wp2_with fail
     go_ret
     rw [ES.out]
     exact ⟨rfl,HF.out,HK.out⟩
set_option maxRecDepth 100000 in
set_option maxHeartbeats 3200000 in
theorem impl_EvenField (W H:Int) (b off n cap:Nat) (xs:List Int) (m:Int) (w:World) (hn:xs.length=n) (ha:Rd w (some ⟨b,off,none⟩) xs) (hl:n≤1048576):
   Calls Tryz.prog 129 #[.agg #[.int .i64 W, .int .i64 H, .slice (some ⟨b,off,none⟩) n cap], .int .i64 m] w (EvenOut w W H n (evenR W H xs m)):=by
 have HN:=Lib.hid hn
 have HA:=Lib.hid ha
 clear hn ha
 go_enter Tryz.func129,Tryz.ntmps129
 go_wp2_with fail
 have KP:=Lib.hid ((Blk.new w 27 #[.int .i64 W, .int .i64 H, .slice (some ⟨b,off,none⟩) n cap]).alloc (.cells #[.int .i64 0, .int .i64 0, .slice none 0 0] 27))
 have KZ:=Lib.hid (Blk.new' (g:=w.heap.size+1) (w:=w.alloc (.cells #[.int .i64 W, .int .i64 H, .slice (some ⟨b,off,none⟩) n cap] 27)) 27 #[.int .i64 0, .int .i64 0, .slice none 0 0] (by simp))
 have HB:=Lib.hid (bAlloc (bAlloc (Below.refl w.heap.size w) (.cells #[.int .i64 W, .int .i64 H, .slice (some ⟨b,off,none⟩) n cap] 27)) (.cells #[.int .i64 0, .int .i64 0, .slice none 0 0] 27))
 have RP:=Lib.hid ((HA.out.alloc (.cells #[.int .i64 W, .int .i64 H, .slice (some ⟨b,off,none⟩) n cap] 27)).alloc (.cells #[.int .i64 0, .int .i64 0, .slice none 0 0] 27))
 obtain ⟨wo,hwo⟩: ∃wo:World,wo=(w.alloc (.cells #[.int .i64 W, .int .i64 H, .slice (some ⟨b,off,none⟩) n cap] 27)).alloc (.cells #[.int .i64 0, .int .i64 0, .slice none 0 0] 27):=⟨_,rfl⟩
 have ZO:Hid (wo.heap.size=w.heap.size+1+1):=Lib.hid (by rw [hwo];simp)
 rw [←hwo] at KP KZ HB RP⊢
 clear hwo
 obtain ⟨l0,o0,o1,o2⟩:=KP.out.c3
 refine (impl_IsField W H _ n cap xs _ HN.out (by exact RP.out) (by omega)).mono ?_
 rintro e w4 ⟨rfl,hb⟩
 have KP:=Lib.hid (KP.out.below' hb)
 have KZ:=Lib.hid (KZ.out.below' hb)
 have RP:=Lib.hid (RP.out.below hb)
 have ZB:Hid (wo.heap.size≤w4.heap.size):=Lib.hid hb.size
 have HB:=Lib.hid (bTrans HB.out hb)
 clear hb l0 o0 o1 o2
 obtain ⟨l0,o0,o1,o2⟩:=KP.out.c3
 by_cases hok:fieldOk W H xs=true
 case neg=>
   have ER:Hid (evenR W H xs m=(xs,0)):=Lib.hid (by unfold evenR;rw [if_neg (fun h=>hok h.1)])
   have hok2:fieldOk W H xs=false:=by simpa using hok
   rw [hok2]
   clear hok hok2
   go_wp2_with fail
   refine (impl_unchanged W H b off n cap xs _ HN.out (by exact RP.out) hl).mono ?_
   rintro e w5 ⟨oa,oc,rfl,ho,hb⟩
   have ZW:Hid (w.heap.size+1<w4.heap.size):=Lib.hid KZ.out.lt
   have KZ:=Lib.hid (KZ.out.below' hb)
   have HB:=Lib.hid (bTrans HB.out hb)
   have HO:=Lib.hid ho
   clear hb ho l0 o0 o1 o2
   obtain ⟨z0,r0,r1,r2⟩:=KZ.out.c3
   obtain ⟨f0,f1,f2⟩:=KZ.out.f3
   go_wp2_with fail
   exact bodyPost_ret (v:= .tuple #[.agg #[.int .i64 W, .int .i64 H, .slice oa n oc], .int .i64 0]) (by simp [results,Tryz.results129,go_sem,r0,r1,r2]) rfl
     ⟨_,_,by rw [ER.out],by rw [ER.out];exact (((HO.out.other (by simp;(try have:=ZW.out);omega) _).other (by simp;(try have:=ZW.out);omega) _).other (by simp;(try have:=ZW.out);omega) _).mono (by have:=ZW.out;omega),
       ((HB.out.setCell (by first | (simp;done) | (simp;omega)) _).setCell (by first | (simp;done) | (simp;omega)) _).setCell (by first | (simp;done) | (simp;omega)) _⟩
 case pos=>
   have HOK:=Lib.hid hok
   rw [hok]
   by_cases hm:0≤m∧m≤64
   case neg=>
     have ER:Hid (evenR W H xs m=(xs,0)):=Lib.hid (by unfold evenR;rw [if_neg (fun h=>hm h.2)])
     clear hok
     by_cases h0:m<0
     · clear hm
       go_wp2_with fail
       refine (impl_unchanged W H b off n cap xs _ HN.out (by exact RP.out) hl).mono ?_
       rintro e w5 ⟨oa,oc,rfl,ho,hb⟩
       have ZW:Hid (w.heap.size+1<w4.heap.size):=Lib.hid KZ.out.lt
       have KZ:=Lib.hid (KZ.out.below' hb)
       have HB:=Lib.hid (bTrans HB.out hb)
       have HO:=Lib.hid ho
       clear hb ho l0 o0 o1 o2
       obtain ⟨z0,r0,r1,r2⟩:=KZ.out.c3
       obtain ⟨f0,f1,f2⟩:=KZ.out.f3
       go_wp2_with fail
       exact bodyPost_ret (v:= .tuple #[.agg #[.int .i64 W, .int .i64 H, .slice oa n oc], .int .i64 0]) (by simp [results,Tryz.results129,go_sem,r0,r1,r2]) rfl
         ⟨_,_,by rw [ER.out],by rw [ER.out];exact (((HO.out.other (by simp;(try have:=ZW.out);omega) _).other (by simp;(try have:=ZW.out);omega) _).other (by simp;(try have:=ZW.out);omega) _).mono (by have:=ZW.out;omega),
           ((HB.out.setCell (by first | (simp;done) | (simp;omega)) _).setCell (by first | (simp;done) | (simp;omega)) _).setCell (by first | (simp;done) | (simp;omega)) _⟩
     · have h1:0≤m:=by omega
       have h2:64<m:=by omega
       clear hm h0
       go_wp2_with fail
       all_goals (try (exfalso;omega))
       refine (impl_unchanged W H b off n cap xs _ HN.out (by exact RP.out) hl).mono ?_
       rintro e w5 ⟨oa,oc,rfl,ho,hb⟩
       have ZW:Hid (w.heap.size+1<w4.heap.size):=Lib.hid KZ.out.lt
       have KZ:=Lib.hid (KZ.out.below' hb)
       have HB:=Lib.hid (bTrans HB.out hb)
       have HO:=Lib.hid ho
       clear hb ho l0 o0 o1 o2
       obtain ⟨z0,r0,r1,r2⟩:=KZ.out.c3
       obtain ⟨f0,f1,f2⟩:=KZ.out.f3
       go_wp2_with fail
       exact bodyPost_ret (v:= .tuple #[.agg #[.int .i64 W, .int .i64 H, .slice oa n oc], .int .i64 0]) (by simp [results,Tryz.results129,go_sem,r0,r1,r2]) rfl
         ⟨_,_,by rw [ER.out],by rw [ER.out];exact (((HO.out.other (by simp;(try have:=ZW.out);omega) _).other (by simp;(try have:=ZW.out);omega) _).other (by simp;(try have:=ZW.out);omega) _).mono (by have:=ZW.out;omega),
           ((HB.out.setCell (by first | (simp;done) | (simp;omega)) _).setCell (by first | (simp;done) | (simp;omega)) _).setCell (by first | (simp;done) | (simp;omega)) _⟩
   case pos=>
     obtain ⟨M,hM⟩: ∃M:Nat,m=M:=⟨m.toNat,by omega⟩
     subst hM
     have hm64:M≤64:=by omega
     have hm65:(M:Int)≤64:=by omega
     have hm0:0≤(M:Int):=by omega
     have ER:Hid (evenR W H xs M=((evenG W H M xs).1,((evenG W H M xs).2:Int))):=Lib.hid (by unfold evenR;rw [if_pos ⟨hok,hm⟩];rfl)
     clear hok hm
     go_wp2_with fail
     all_goals (try (exfalso;omega))
     refine (impl_crowded W H _ n cap xs _ HN.out (by exact RP.out) HOK.out).mono ?_
     rintro e w5 ⟨f,gi,gc,rfl,hf,hb⟩
     have HF:=Lib.hid (hf.mono ZB.out)
     have KZ:=Lib.hid (KZ.out.below' hb)
     have HB:=Lib.hid (bTrans HB.out hb)
     have HG:Hid (wo.heap.size≤gi∧wo.heap.size≤gc):=Lib.hid ⟨HF.out.hi,HF.out.hc⟩
     clear hf hb l0 o0 o1 o2
     go_wp2_with fail
     go_loopw [7] (fun s wr=> ∃(k:Nat) (cur:List Int),k≤M∧s= .int .i64 k∧Hid (evenG W H M xs=((evenG W H (M - k) cur).1,(evenG W H (M - k) cur).2+k))∧Hid (fieldOk W H cur=true)∧Hid (FSt wr wo.heap.size f gi gc W H n cur (gen n (crowdG W H cur)))∧Hid (Keep6 (Duo gi gc) w5 wr)) (fun s _=>M - (intOf s).toNat)
     case atStart=>exact ⟨0,xs,Nat.zero_le _,rfl,Lib.hid (by simp),HOK,HF,Lib.hid (Keep6.refl _ _)⟩
     case round=>
       clear HF
       obtain ⟨k,cur,hk,rfl,HE,HFO,HF,HK⟩:=hrel
       by_cases hlt:k<M
       · go_wp2_with fail
         refine (impl_swap HF.out HFO.out).mono ?_
         rintro e w6 ⟨rfl,hf,hkk⟩
         have HK6:=Lib.hid (HK.out.trans hkk)
         have HF6:=Lib.hid hf
         have HFO6:=Lib.hid (field_swap HFO.out)
         clear hf hkk
         by_cases hs:(swapG W H cur).2=true
         · have EE:Hid (evenG W H M xs=((evenG W H (M - (k+1)) (swapG W H cur).1).1,(evenG W H (M - (k+1)) (swapG W H cur).1).2+(k+1))):=Lib.hid (by
             rw [HE.out,show M - k=M - (k+1)+1 by omega,even_yes hs]
             simp only []
             congr 1
             omega)
           rw [hs]
           clear hs
           go_wp2_with fail
           go_roundw
           case rel=>exact ⟨k+1,(swapG W H cur).1,by omega,by go_num,Lib.hid (by have e:=EE.out;push_cast at e⊢;exact e),HFO6,HF6,HK6⟩
           case measure=>simp [intOf];omega
         · have hs2:(swapG W H cur).2=false:=by simpa using hs
           have EE:Hid (evenR W H xs M=(cur,(k:Int))):=Lib.hid (by
             rw [ER.out,HE.out,even_no _ hs2]
             simp)
           rw [hs2]
           have HF:Hid (FSt w6 wo.heap.size f gi gc W H n cur (gen n (crowdG W H (swapG W H cur).1))):=Lib.hid (by have h:=HF6.out;rw [swap_same hs2] at h⊢;exact h)
           have ER:=EE
           have KZ:=Lib.hid (HK6.out.blk KZ.out (by have:=HG.out;have:=ZO.out;unfold Duo;omega))
           have HB:=Lib.hid (HB.out.trans (HK6.out.below (B:=w.heap.size) (fun i hi=>by have:=HG.out;have:=ZO.out;unfold Duo at hi;omega) HB.out.size))
           clear hs hs2
           obtain ⟨z0,r0,r1,r2⟩:=KZ.out.c3
           obtain ⟨f0,f1,f2⟩:=KZ.out.f3
           obtain ⟨lf,p0,p1,p2,p3⟩:=HF.out.cells
           go_wp2_with fail
           exact bodyPost_ret (v:= .tuple #[.agg #[.int .i64 W, .int .i64 H, .slice (some ⟨gi,0,none⟩) n n], .int .i64 k]) (by simp [results,Tryz.results129,go_sem,r0,r1,r2]) rfl
             ⟨_,_,by rw [ER.out],by rw [ER.out];exact ((((OwnA.mk HF.out.ink HF.out.hi).other (by simp;(try have:=ZO.out);omega) _).other (by simp;(try have:=ZO.out);omega) _).other (by simp;(try have:=ZO.out);omega) _).mono (by have:=ZO.out;omega),
               ((HB.out.setCell (by first | (simp;done) | (simp;omega)) _).setCell (by first | (simp;done) | (simp;omega)) _).setCell (by first | (simp;done) | (simp;omega)) _⟩
       · obtain rfl:k=M:=by omega
         have EE:Hid (evenR W H xs k=(cur,(k:Int))):=Lib.hid (by
           rw [ER.out,HE.out,Nat.sub_self]
           simp [evenG])
         have ER:=EE
         have KZ:=Lib.hid (HK.out.blk KZ.out (by have:=HG.out;have:=ZO.out;unfold Duo;omega))
         have HB:=Lib.hid (HB.out.trans (HK.out.below (B:=w.heap.size) (fun i hi=>by have:=HG.out;have:=ZO.out;unfold Duo at hi;omega) HB.out.size))
         obtain ⟨z0,r0,r1,r2⟩:=KZ.out.c3
         obtain ⟨f0,f1,f2⟩:=KZ.out.f3
         obtain ⟨lf,p0,p1,p2,p3⟩:=HF.out.cells
         go_wp2_with fail
         exact bodyPost_ret (v:= .tuple #[.agg #[.int .i64 W, .int .i64 H, .slice (some ⟨gi,0,none⟩) n n], .int .i64 k]) (by simp [results,Tryz.results129,go_sem,r0,r1,r2]) rfl
           ⟨_,_,by rw [ER.out],by rw [ER.out];exact ((((OwnA.mk HF.out.ink HF.out.hi).other (by simp;(try have:=ZO.out);omega) _).other (by simp;(try have:=ZO.out);omega) _).other (by simp;(try have:=ZO.out);omega) _).mono (by have:=ZO.out;omega),
             ((HB.out.setCell (by first | (simp;done) | (simp;omega)) _).setCell (by first | (simp;done) | (simp;omega)) _).setCell (by first | (simp;done) | (simp;omega)) _⟩
def Trip (a b c:Nat) (i:Nat):Prop:=i=a∨i=b∨i=c
def KeepL (S:Nat→Prop) (w v:World):Prop:=Hid (Keep6 S w v)
namespace KeepL
variable {S : Nat → Prop} {w v v' : World}
theorem out (h:KeepL S w v):Keep6 S w v:=Hid.out h
theorem mk (h:Keep6 S w v):KeepL S w v:=Lib.hid h
theorem start (S:Nat→Prop) (w:World):KeepL S w w.drew:=mk (Keep6.refl S w).drew
theorem call (h:KeepL S w v) (hq:Below v.heap.size v v'):KeepL S w v':=mk (h.out.call hq)
theorem trans (h:KeepL S w v) (hq:Keep6 S v v'):KeepL S w v':=mk (h.out.trans hq)
end KeepL
theorem FSt.other {w:World} {B f gi gc:Nat} {W H:Int} {n:Nat} {xs cs:List Int} (h:FSt w B f gi gc W H n xs cs) {a:Addr} (h1:a.block≠f) (h2:a.block≠gi) (h3:a.block≠gc) (u:Value):FSt (w.setCell a u) B f gi gc W H n xs cs:=
 ⟨h.hf,h.hi,h.hc,h.n1,h.n2,h.n3,h.box.other h1 u,h.ink.other h2 u,h.crowds.other h3 u⟩
set_option maxRecDepth 100000 in
set_option maxHeartbeats 1600000 in
theorem impl_RankField (W H:Int) (b off n cap:Nat) (xs:List Int) (w:World) (hn:xs.length=n) (ha:Rd w (some ⟨b,off,none⟩) xs) (hl:n≤1048576):
   Calls Tryz.prog 130 #[.agg #[.int .i64 W, .int .i64 H, .slice (some ⟨b,off,none⟩) n cap]] w (MatOut2 w (rankF W H xs)):=by
 have HN:=Lib.hid hn
 have HA:=Lib.hid ha
 clear hn ha
 go_enter Tryz.func130,Tryz.ntmps130
 go_wp2_with fail
 have KP:=Lib.hid ((Blk.new w 27 #[.int .i64 W, .int .i64 H, .slice (some ⟨b,off,none⟩) n cap]).alloc (.cells #[.int .i64 0, .int .i64 0, .slice none 0 0] 31))
 have KZ:=Lib.hid (Blk.new' (g:=w.heap.size+1) (w:=w.alloc (.cells #[.int .i64 W, .int .i64 H, .slice (some ⟨b,off,none⟩) n cap] 27)) 31 #[.int .i64 0, .int .i64 0, .slice none 0 0] (by simp))
 have HB:=Lib.hid (bAlloc (bAlloc (Below.refl w.heap.size w) (.cells #[.int .i64 W, .int .i64 H, .slice (some ⟨b,off,none⟩) n cap] 27)) (.cells #[.int .i64 0, .int .i64 0, .slice none 0 0] 31))
 have RP:=Lib.hid ((HA.out.alloc (.cells #[.int .i64 W, .int .i64 H, .slice (some ⟨b,off,none⟩) n cap] 27)).alloc (.cells #[.int .i64 0, .int .i64 0, .slice none 0 0] 31))
 obtain ⟨wo,hwo⟩: ∃wo:World,wo=(w.alloc (.cells #[.int .i64 W, .int .i64 H, .slice (some ⟨b,off,none⟩) n cap] 27)).alloc (.cells #[.int .i64 0, .int .i64 0, .slice none 0 0] 31):=⟨_,rfl⟩
 have ZO:Hid (wo.heap.size=w.heap.size+1+1):=Lib.hid (by rw [hwo];simp)
 rw [←hwo] at KP KZ HB RP⊢
 clear hwo
 obtain ⟨l0,o0,o1,o2⟩:=KP.out.c3
 refine (impl_IsField W H _ n cap xs _ HN.out (by exact RP.out) (by omega)).mono ?_
 rintro e w4 ⟨rfl,hb⟩
 have KP:=Lib.hid (KP.out.below' hb)
 have KZ:=Lib.hid (KZ.out.below' hb)
 have RP:=Lib.hid (RP.out.below hb)
 have HB:=Lib.hid (bTrans HB.out hb)
 have ZB:Hid (w.heap.size+1<w4.heap.size):=Lib.hid (by have:=hb.size;have:=ZO.out;omega)
 clear hb l0 o0 o1 o2
 by_cases hok:fieldOk W H xs=true
 case neg=>
   have ER:Hid (rankF W H xs=(noMat,false)):=Lib.hid (by unfold rankF;rw [if_neg hok])
   have hok2:fieldOk W H xs=false:=by simpa using hok
   rw [hok2]
   clear hok hok2
   obtain ⟨z0,r0,r1,r2⟩:=KZ.out.c3
   obtain ⟨f0,f1,f2⟩:=KZ.out.f3
   go_wp2_with fail
   exact bodyPost_ret (v:= .tuple #[.agg #[.int .i64 0, .int .i64 0, .slice none 0 0], .bool false]) (by simp [results,Tryz.results130,go_sem,r0,r1,r2]) rfl
     (by rw [ER.out];exact ⟨none,0,0,rfl,OwnA.none _ _,by omega,by first | exact HB.out | exact ((HB.out.setCell (by first | (simp;done) | (simp;omega)) _).setCell (by first | (simp;done) | (simp;omega)) _).setCell (by first | (simp;done) | (simp;omega)) _⟩)
 case pos=>
   have ER:Hid (rankF W H xs=(⟨W,H,ranksG W H xs⟩,true)):=Lib.hid (by unfold rankF;rw [if_pos hok])
   obtain ⟨b1,b2,b3,b4,b5,b6,b7,b8,b9⟩:=field_bd HN.out hok
   have B5:=Lib.hid b5
   have B8:=Lib.hid b8
   have B9:=Lib.hid b9
   clear b5 b8 b9
   have HOK:=Lib.hid hok
   have CC:Hid (sumF W H xs=(icount 1 xs:Int)):=Lib.hid (by
     unfold sumF
     rw [if_pos (picOk_le (by unfold fieldOk at hok;simp only [Bool.and_eq_true] at hok;exact hok.1))]
     exact isum_dots (dots_of B8.out))
   have dn:icount 1 xs≤n:=by rw [←HN.out];exact icount_le _ _
   obtain ⟨u,hu⟩: ∃u,n - icount 1 xs=u:=⟨_,rfl⟩
   have ER2:Hid (ranksG W H xs=(upG W H xs (icount 1 xs) (downG W H xs (icount 1 xs) (List.replicate n 0) (icount 1 xs)).2 u).2):=Lib.hid (by unfold ranksG;rw [HN.out,hu])
   have DI:=Lib.hid (fun k (hk:k≤icount 1 xs)=>down_inv HOK.out (List.replicate n 0) k hk)
   have UI:=Lib.hid (fun k (hk:icount 1 xs+k≤xs.length)=>up_inv HOK.out (icount 1 xs) (downG W H xs (icount 1 xs) (List.replicate n 0) (icount 1 xs)).2 k hk)
   obtain ⟨d,hd⟩: ∃d,icount 1 xs=d:=⟨_,rfl⟩
   rw [hd] at CC dn hu ER2 DI UI
   have HU:Hid (d+u=n):=Lib.hid (by omega)
   have HMS:Hid (matSize W H=true):=Lib.hid (matSize_mk b1 b3 (by rw [←B5.out];omega))
   rw [hok]
   clear hok hd hu
   obtain ⟨l0,o0,o1,o2⟩:=KP.out.c3
   go_wp2_with fail
   refine (impl_blankM W H n _ HMS.out B5.out).mono ?_
   rintro e w5 ⟨mg,rfl,hmg,hom,hb⟩
   have HG0:Hid (w.heap.size+1<mg∧mg<w5.heap.size):=Lib.hid ⟨by have:=ZB.out;omega,hom.lt⟩
   have KP:=Lib.hid ((KP.out.below' hb).alloc (.cells #[.int .i64 W, .int .i64 H, .slice (some ⟨mg,0,none⟩) n n] 31))
   have KZ:=Lib.hid ((KZ.out.below' hb).alloc (.cells #[.int .i64 W, .int .i64 H, .slice (some ⟨mg,0,none⟩) n n] 31))
   have RP:=Lib.hid ((RP.out.below hb).alloc (.cells #[.int .i64 W, .int .i64 H, .slice (some ⟨mg,0,none⟩) n n] 31))
   have HB:=Lib.hid (bAlloc (bTrans HB.out hb) (.cells #[.int .i64 W, .int .i64 H, .slice (some ⟨mg,0,none⟩) n n] 31))
   have KM:=Lib.hid (Blk.new w5 31 #[.int .i64 W, .int .i64 H, .slice (some ⟨mg,0,none⟩) n n])
   have HM:=Lib.hid (hom.alloc (.cells #[.int .i64 W, .int .i64 H, .slice (some ⟨mg,0,none⟩) n n] 31))
   obtain ⟨w6,hw6⟩: ∃w6,w6=w5.alloc (.cells #[.int .i64 W, .int .i64 H, .slice (some ⟨mg,0,none⟩) n n] 31):=⟨_,rfl⟩
   have Z6:Hid (w6.heap.size=w5.heap.size+1):=Lib.hid (by rw [hw6];simp)
   obtain ⟨mb,hmb⟩: ∃mb,mb=w5.heap.size:=⟨_,rfl⟩
   clear hmg hom hb l0 o0 o1 o2
   go_upto_region 4 with fail
   rw [←hw6] at KP KZ RP HB KM HM⊢
   rw [←hmb] at KM HG0 Z6⊢
   clear hw6 hmb
   obtain ⟨l0,o0,o1,o2⟩:=KP.out.c3
   have MK:Hid (∀v,BelowL w6 v→v.cell? ⟨w.heap.size,0,none⟩=some (.int .i64 W)∧v.cell? ⟨w.heap.size,1,none⟩=some (.int .i64 H)∧v.cell? ⟨w.heap.size,2,none⟩=some (.slice (some ⟨b,off,none⟩) n cap)∧BelowL w6 v):=Lib.hid (fun v hB=>⟨(hB.out.cell l0).trans o0,(hB.out.cell l0).trans o1,(hB.out.cell l0).trans o2,hB⟩)
   refine wp_region_held_drew (S:=fun v=>v.cell? ⟨w.heap.size,0,none⟩=some (.int .i64 W)∧v.cell? ⟨w.heap.size,1,none⟩=some (.int .i64 H)∧v.cell? ⟨w.heap.size,2,none⟩=some (.slice (some ⟨b,off,none⟩) n cap)∧BelowL w6 v) (by kernel_rfl) (MK.out _ (BelowL.start _)) ?_
   intro hHeld
   have hb0:=limb4 hHeld
   refine hTake 0 ?_
   refine hTake 2 ?_
   refine hTake 4 ?_
   refine hOne 1 (fun K hK=>?_)
   go_simp
   go_at_call 160
   ((with_reducible refine (impl_crowded W H _ n cap xs _ HN.out (by exact RP.out.below hb0.out) HOK.out).mono ?_);rintro e v1 ⟨f1,i1,c1,rfl,hf1,hq1⟩)
   have hb1:=BelowL.call hb0 hq1
   go_wp2_with fail
   refine hK.out _ _ (by (try dsimp only);exact MK.out _ hb1) (fun hHeld=>?_)
   clear hK K
   refine hOne 3 (fun K hK=>?_)
   go_simp
   go_at_call 160
   ((with_reducible refine (impl_crowded W H _ n cap xs _ HN.out (by exact RP.out.below hb1.out) HOK.out).mono ?_);rintro e v2 ⟨f2,i2,c2,rfl,hf2,hq2⟩)
   have hb2:=BelowL.call hb1 hq2
   go_wp2_with fail
   refine hK.out _ _ (by (try dsimp only);exact MK.out _ hb2) (fun hHeld=>?_)
   clear hK K
   refine hOne 5 (fun K hK=>?_)
   go_simp
   go_at_call 27
   ((with_reducible refine (impl_SumInk W H _ n cap xs _ HN.out (by exact RP.out.below hb2.out) (by omega)).mono ?_);rw [CC.out];rintro e v3 ⟨rfl,hq3⟩)
   have hb3:=BelowL.call hb2 hq3
   go_wp2_with fail
   refine hK.out _ _ (by (try dsimp only);exact MK.out _ hb3) (fun hHeld=>?_)
   clear hK K
   refine hTake 6 ?_
   refine hTake 7 ?_
   refine hTake 8 ?_
   refine wpAnyH_done (by kernel_rfl) ?_ _
   (try go_simp)
   have E1:Hid (FSt v3 w6.heap.size f1 i1 c1 W H n xs (gen n (crowdG W H xs))):=Lib.hid ((hf1.below hq2).below hq3)
   have E2:Hid (FSt v3 v1.heap.size f2 i2 c2 W H n xs (gen n (crowdG W H xs))):=Lib.hid (hf2.below hq3)
   have KP:=Lib.hid (KP.out.below' hb3.out)
   have KZ:=Lib.hid (KZ.out.below' hb3.out)
   have KM:=Lib.hid (KM.out.below' hb3.out)
   have HM:=Lib.hid (HM.out.below hb3.out HM.out.lt)
   have HB:=Lib.hid (bTrans HB.out hb3.out)
   have HG:Hid (w.heap.size+1<mg∧mg<mb∧mb<f1∧mb<i1∧mb<c1∧f1<v1.heap.size∧i1<v1.heap.size∧c1<v1.heap.size∧v1.heap.size≤f2∧v1.heap.size≤i2∧v1.heap.size≤c2):=Lib.hid (by
     have z:=Z6.out
     have g:=HG0.out
     have l:=hf1.lts
     have a1:=E1.out.hf
     have a2:=E1.out.hi
     have a3:=E1.out.hc
     exact ⟨g.1,g.2,by omega,by omega,by omega,l.1,l.2.1,l.2.2,hf2.hf,hf2.hi,hf2.hc⟩)
   clear hf1 hf2 hq1 hq2 hq3 hb0 hb1 hb2 hb3 hHeld MK l0 o0 o1 o2
   obtain ⟨l0,o0,o1,o2⟩:=KP.out.c3
   go_wp2_with fail
   go_loopw [8] (fun s wr=> ∃(k:Nat) (L:Int),k≤d∧s= .int .i64 L∧Hid (L+k+1=d)∧-1≤L∧Hid (FSt wr w6.heap.size f1 i1 c1 W H n (downG W H xs d (List.replicate n 0) k).1 (gen n (crowdG W H (downG W H xs d (List.replicate n 0) k).1)))∧Hid (Own wr mg n n (downG W H xs d (List.replicate n 0) k).2)∧Hid (Keep6 (Trip i1 c1 mg) v3 wr)) (fun s _=>(intOf s+1).toNat)
   case atStart=>exact ⟨0,(d:Int) - 1,Nat.zero_le _,rfl,Lib.hid (by omega),by omega,E1,HM,Lib.hid (Keep6.refl _ _)⟩
   case round=>
     clear E1 HM
     obtain ⟨k,L,hk,rfl,HL,hL1,E1,HM,HK⟩:=hrel
     by_cases hlt:0≤L
     · have hk1:k<d:=by have:=HL.out;omega
       have hLd:L<d:=by have:=HL.out;omega
       obtain ⟨F1,F2,F3,F4⟩:=DI.out k (by omega)
       obtain ⟨i,j1,j2,j3⟩:=tight_some (W:=W) (H:=H) (xs:=(downG W H xs d (List.replicate n 0) k).1) (by omega)
       have DE:Hid (downG W H xs d (List.replicate n 0) (k+1)=((downG W H xs d (List.replicate n 0) k).1.set i (1 - 1),(downG W H xs d (List.replicate n 0) k).2.set i L)):=Lib.hid (by
         rw [downG,flipT,j1,show (d:Int) - 1 - k=L by have:=HL.out;omega]
         rfl)
       have hin:i<n:=by rw [F2,HN.out] at j2;exact j2
       have HF1:=Lib.hid F1
       have HJ:=Lib.hid (And.intro j1 (And.intro j2 j3))
       clear F1 F2 F3 F4 j1 j2 j3
       obtain ⟨cur,hcur⟩: ∃c,(downG W H xs d (List.replicate n 0) k).1=c:=⟨_,rfl⟩
       obtain ⟨rk,hrk⟩: ∃c,(downG W H xs d (List.replicate n 0) k).2=c:=⟨_,rfl⟩
       rw [hcur] at E1 HF1 HJ DE
       rw [hrk] at HM DE
       clear hcur hrk
       have KMr:=Lib.hid (HK.out.blk KM.out (by have:=HG.out;unfold Trip;omega))
       have MK:Hid (∀v,KeepL (Trip i1 c1 mg) wr v→v.cell? ⟨mb,2,none⟩=some (.slice (some ⟨mg,0,none⟩) n n)∧KeepL (Trip i1 c1 mg) wr v):=Lib.hid (fun v hB=>⟨by rw [(hB.out.blk KMr.out (by have:=HG.out;unfold Trip;omega)).cell];rfl,hB⟩)
       go_upto_region 8 with fail
       refine wp_region_T 7 (fun v=>v.cell? ⟨mb,2,none⟩=some (.slice (some ⟨mg,0,none⟩) n n)∧KeepL (Trip i1 c1 mg) wr v) (by kernel_rfl) (MK.out _ (KeepL.start _ _)) ?_
       intro hHeld
       have hb0:=limb2 hHeld
       have HJ1:Hid (bestTo cur 1 (fun j=>keyT (crowdG W H cur j)) cur.length=i):=Lib.hid HJ.out.1
       refine tTake 0 ?_
       refine tTake 1 ?_
       refine tTake 2 ?_
       refine tTake 5 ?_
       refine tOne 3 (fun K hK=>?_)
       go_simp
       go_at_call 163
       ((with_reducible refine (impl_tightest _).mono ?_);rintro e x1 ⟨rfl,hq1⟩)
       have hb1:=KeepL.call hb0 hq1
       go_wp2_with fail
       refine hK.out _ _ (fun _=>by (try dsimp only);exact MK.out _ hb1) (fun hH2=>?_)
       clear hK K hHeld
       have hHeld:=hH2 (by decide)
       have EA:Hid (FSt x1 w6.heap.size f1 i1 c1 W H n cur (gen n (crowdG W H cur))):=Lib.hid (E1.out.below (below_undrew hq1))
       have HMA:=Lib.hid (HM.out.below (below_undrew hq1) HM.out.lt)
       refine tOne 4 (fun K hK=>?_)
       go_simp
       go_at_call 162
       ((with_reducible refine (impl_flip 199 keyT 1 (Or.inr rfl) entT ordT EA.out HF1.out i HJ1.out HJ.out.2.1 HJ.out.2.2).mono ?_);rintro e x2 ⟨rfl,he2,hk2⟩)
       have hb2:=KeepL.trans hb1 (hk2.mono (fun a ha=>by unfold Duo at ha;unfold Trip;omega))
       go_wp2_with fail
       refine hK.out _ _ (fun _=>by (try dsimp only);exact MK.out _ hb2) (fun hH3=>?_)
       clear hK K hHeld
       have hHeld:=hH3 (by decide)
       have HM2:=Lib.hid (hk2.own HMA.out (by have:=HG.out;unfold Duo;omega))
       have EE2:=Lib.hid (he2.other (a:=⟨mg,i,none⟩) (by have:=HG.out;simp;omega) (by have:=HG.out;simp;omega) (by have:=HG.out;simp;omega) (.int .i64 L))
       have HKK:=Lib.hid (HK.out.trans hb2.out)
       have g1:=HM2.out.cell hin
       have g2:=HM2.out.frozen i
       clear he2 hk2
       refine tTake 6 ?_
       refine tOne 7 (fun K hK=>?_)
       go_simp
       refine hK.out _ _ (fun h=>absurd h (by decide)) (fun hH4=>?_)
       clear hK K hH4 hH3 hH2 hHeld
       refine wpAnyT_done (by kernel_rfl) ?_ _
       (try go_simp)
       go_wp2_with fail
       go_roundw
       case rel=>exact ⟨k+1,L - 1,by omega,by go_num,Lib.hid (by have:=HL.out;push_cast;omega),by omega,Lib.hid (by rw [DE.out];exact EE2.out),Lib.hid (by rw [DE.out];exact HM2.out.set i L),Lib.hid (HKK.out.set (Or.inr (Or.inr rfl)) _)⟩
       case measure=>simp [intOf];omega
     · obtain rfl:k=d:=by have:=HL.out;omega
       have hL0:L<0:=by omega
       obtain ⟨RK,hRK⟩: ∃R,(downG W H xs k (List.replicate n 0) k).2=R:=⟨_,rfl⟩
       rw [hRK] at HM ER2 UI
       have KM:=Lib.hid (HK.out.blk KM.out (by have:=HG.out;unfold Trip;omega))
       have KP:=Lib.hid (HK.out.blk KP.out (by have:=HG.out;unfold Trip;omega))
       have KZ:=Lib.hid (HK.out.blk KZ.out (by have:=HG.out;unfold Trip;omega))
       have E2:=Lib.hid (E2.out.keep HK.out (by have:=HG.out;unfold Trip;omega) (by have:=HG.out;unfold Trip;omega) (by have:=HG.out;unfold Trip;omega))
       have HB:=Lib.hid (HB.out.trans (HK.out.below (B:=w.heap.size) (fun i hi=>by have:=HG.out;unfold Trip at hi;omega) HB.out.size))
       clear hRK E1 HK hlt l0 o0 o1 o2
       go_wp2_with fail
       go_loopw [9] (fun s wz=> ∃(q:Nat) (L:Int),q≤u∧s= .int .i64 L∧Hid (L=(k:Int)+q)∧0≤L∧Hid (FSt wz v1.heap.size f2 i2 c2 W H n (upG W H xs k RK q).1 (gen n (crowdG W H (upG W H xs k RK q).1)))∧Hid (Own wz mg n n (upG W H xs k RK q).2)∧Hid (Keep6 (Trip i2 c2 mg) wr wz)) (fun s _=>n - (intOf s).toNat)
       case atStart=>exact ⟨0,(k:Int),Nat.zero_le _,rfl,Lib.hid (by omega),by omega,E2,HM,Lib.hid (Keep6.refl _ _)⟩
       case round=>
         clear E2 HM
         obtain ⟨q,L,hq,rfl,HL,hL1,E2,HM,HK⟩:=hrel
         have KPr:=Lib.hid (HK.out.blk KP.out (by have:=HG.out;unfold Trip;omega))
         obtain ⟨l0,o0,o1,o2⟩:=KPr.out.c3
         by_cases hlt:L<n
         · have hk1:q<u:=by have:=HL.out;have:=HU.out;omega
           obtain ⟨F1,F2,F3,F4⟩:=UI.out q (by have:=HU.out;rw [HN.out];omega)
           obtain ⟨i,j1,j2,j3⟩:=wide_some (W:=W) (H:=H) (xs:=(upG W H xs k RK q).1) (dots_of (field_bd rfl F1).2.2.2.2.2.2.2.1) (by rw [F2,HN.out];have:=HU.out;omega)
           have DE:Hid (upG W H xs k RK (q+1)=((upG W H xs k RK q).1.set i (1 - 0),(upG W H xs k RK q).2.set i L)):=Lib.hid (by
             rw [upG,flipW,j1,show (k:Int)+q=L by have:=HL.out;omega]
             rfl)
           have hin:i<n:=by rw [F2,HN.out] at j2;exact j2
           have HF1:=Lib.hid F1
           have HJ:=Lib.hid (And.intro j1 (And.intro j2 j3))
           clear F1 F2 F3 F4 j1 j2 j3
           obtain ⟨cur,hcur⟩: ∃c,(upG W H xs k RK q).1=c:=⟨_,rfl⟩
           obtain ⟨rk,hrk⟩: ∃c,(upG W H xs k RK q).2=c:=⟨_,rfl⟩
           rw [hcur] at E2 HF1 HJ DE
           rw [hrk] at HM DE
           clear hcur hrk
           have KMr:=Lib.hid (HK.out.blk KM.out (by have:=HG.out;unfold Trip;omega))
           have MK:Hid (∀v,KeepL (Trip i2 c2 mg) wr v→v.cell? ⟨mb,2,none⟩=some (.slice (some ⟨mg,0,none⟩) n n)∧KeepL (Trip i2 c2 mg) wr v):=Lib.hid (fun v hB=>⟨by rw [(hB.out.blk KMr.out (by have:=HG.out;unfold Trip;omega)).cell];rfl,hB⟩)
           go_upto_region 12 with fail
           refine wp_region_T 7 (fun v=>v.cell? ⟨mb,2,none⟩=some (.slice (some ⟨mg,0,none⟩) n n)∧KeepL (Trip i2 c2 mg) wr v) (by kernel_rfl) (MK.out _ (KeepL.start _ _)) ?_
           intro hHeld
           have hb0:=limb2 hHeld
           have HJ1:Hid (bestTo cur 0 (fun j=>keyW (crowdG W H cur j)) cur.length=i):=Lib.hid HJ.out.1
           refine tTake 0 ?_
           refine tTake 1 ?_
           refine tTake 2 ?_
           refine tTake 5 ?_
           refine tOne 3 (fun K hK=>?_)
           go_simp
           go_at_call 164
           ((with_reducible refine (impl_widest _).mono ?_);rintro e x1 ⟨rfl,hq1⟩)
           have hb1:=KeepL.call hb0 hq1
           go_wp2_with fail
           refine hK.out _ _ (fun _=>by (try dsimp only);exact MK.out _ hb1) (fun hH2=>?_)
           clear hK K hHeld
           have hHeld:=hH2 (by decide)
           have EA:Hid (FSt x1 v1.heap.size f2 i2 c2 W H n cur (gen n (crowdG W H cur))):=Lib.hid (E2.out.below (below_undrew hq1))
           have HMA:=Lib.hid (HM.out.below (below_undrew hq1) HM.out.lt)
           refine tOne 4 (fun K hK=>?_)
           go_simp
           go_at_call 162
           ((with_reducible refine (impl_flip 127 keyW 0 (Or.inl rfl) entW ordW EA.out HF1.out i HJ1.out HJ.out.2.1 HJ.out.2.2).mono ?_);rintro e x2 ⟨rfl,he2,hk2⟩)
           have hb2:=KeepL.trans hb1 (hk2.mono (fun a ha=>by unfold Duo at ha;unfold Trip;omega))
           go_wp2_with fail
           refine hK.out _ _ (fun _=>by (try dsimp only);exact MK.out _ hb2) (fun hH3=>?_)
           clear hK K hHeld
           have hHeld:=hH3 (by decide)
           have HM2:=Lib.hid (hk2.own HMA.out (by have:=HG.out;unfold Duo;omega))
           have EE2:=Lib.hid (he2.other (a:=⟨mg,i,none⟩) (by have:=HG.out;simp;omega) (by have:=HG.out;simp;omega) (by have:=HG.out;simp;omega) (.int .i64 L))
           have HKK:=Lib.hid (HK.out.trans hb2.out)
           have g1:=HM2.out.cell hin
           have g2:=HM2.out.frozen i
           clear he2 hk2
           refine tTake 6 ?_
           refine tOne 7 (fun K hK=>?_)
           go_simp
           refine hK.out _ _ (fun h=>absurd h (by decide)) (fun hH4=>?_)
           clear hK K hH4 hH3 hH2 hHeld
           refine wpAnyT_done (by kernel_rfl) ?_ _
           (try go_simp)
           go_wp2_with fail
           go_roundw
           case rel=>exact ⟨q+1,L+1,by omega,by go_num,Lib.hid (by have:=HL.out;push_cast;omega),by omega,Lib.hid (by rw [DE.out];exact EE2.out),Lib.hid (by rw [DE.out];exact HM2.out.set i L),Lib.hid (HKK.out.set (Or.inr (Or.inr rfl)) _)⟩
           case measure=>simp [intOf];omega
         · obtain rfl:q=u:=by have:=HL.out;have:=HU.out;omega
           have hnl:(n:Int)≤L:=by omega
           have KM:=Lib.hid (HK.out.blk KM.out (by have:=HG.out;unfold Trip;omega))
           have KZ:=Lib.hid (HK.out.blk KZ.out (by have:=HG.out;unfold Trip;omega))
           have HB:=Lib.hid (HB.out.trans (HK.out.below (B:=w.heap.size) (fun i hi=>by have:=HG.out;unfold Trip at hi;omega) HB.out.size))
           obtain ⟨z0,r0,r1,r2⟩:=KZ.out.c3
           obtain ⟨f0,f1,f2⟩:=KZ.out.f3
           obtain ⟨lm,m0,m1,m2⟩:=KM.out.c3
           clear hlt
           go_wp2_with fail
           exact bodyPost_ret (v:= .tuple #[.agg #[.int .i64 W, .int .i64 H, .slice (some ⟨mg,0,none⟩) n n], .bool true]) (by simp [results,Tryz.results130,go_sem,r0,r1,r2]) rfl
             (by
               rw [ER.out]
               refine ⟨_,_,_,rfl,OwnA.mk (g:=mg) ?_ (by have:=HG.out;omega),by omega,?_⟩
               · show Own _ mg n n (ranksG W H xs)
                 rw [ER2.out]
                 exact ((HM.out.other (by have:=HG.out;simp;omega) _).other (by have:=HG.out;simp;omega) _).other (by have:=HG.out;simp;omega) _
               · exact ((HB.out.setCell (by first | (simp;done) | (simp;omega)) _).setCell (by first | (simp;done) | (simp;omega)) _).setCell (by first | (simp;done) | (simp;omega)) _)
end Go.Proofs.YtanccoopbgamdaaGreatDoor
