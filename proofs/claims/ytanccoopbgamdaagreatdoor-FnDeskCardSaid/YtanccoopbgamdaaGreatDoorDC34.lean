/-
  Contracts and plain facts on which the theorem of this claim rests, text 34.
-/
import Derived.Test.YtanccoopbgamdaaGreatDoorDC6
import Derived.Test.YtanccoopbgamdaaGreatDoorDC31
import Derived.Test.YtanccoopbgamdaaGreatDoorDC33
namespace Go.Proofs.YtanccoopbgamdaaGreatDoor
open Go.RowKit
set_option linter.unusedVariables false
set_option linter.unusedSimpArgs false
theorem limbS6 {a b c d e f:Prop} (h:a∧b∧c∧d∧e∧f):f:=h.2.2.2.2.2
def OrdBy (h:Nat) (key:Int→Int):Prop:= ∀(a b:Int) (u:World),Calls Tryz.prog h #[.int .i64 a, .int .i64 b] u fun e u'=> ∃c:Int,e= .returned (.int .i64 c)∧(c<0↔key a<key b)∧Below u.heap.size u u'
def keyT (a:Int):Int:=-(1*a)
def keyW (a:Int):Int:=-(-1*a)
theorem ordW:OrdBy 127 keyW:=fun a b u=>(cmp6 a b u).mono (fun e u' ⟨c,h1,h2,h3⟩=>⟨c,h1,by unfold keyW;omega,by rw [←h3];exact Below.refl _ _⟩)
theorem ordT:OrdBy 199 keyT:=fun a b u=>by
 go_enter Tryz.func199,Tryz.ntmps199
 go_wp2_with fail
 refine (cmp6 b a _).mono ?_
 rintro e w1 ⟨c,rfl,hc,rfl⟩
 go_wp2_with fail
 go_ret
 exact ⟨c,rfl,by unfold keyT;omega,Below.refl _ _⟩
theorem entT: ∀args w,(callFunc 199 args).run Tryz.prog w= .ok (.enter 199 args) w:=enters6 _ _ _ Tryz.func199 (by kernel_rfl) rfl
theorem entW: ∀args w,(callFunc 127 args).run Tryz.prog w= .ok (.enter 127 args) w:=enters6 _ _ _ Tryz.func127 (by kernel_rfl) rfl
set_option maxHeartbeats 400000 in
theorem impl_tightest (w:World):Calls Tryz.prog 163 #[] w fun e w'=>e= .returned (.agg #[.int .i64 1, .func (.func 199) #[] #[]])∧Below w.heap.size w w':=by
 have hst:=fun (v:World) (a:Addr) (m:Mode)=>run_store Tryz.prog v a (.func (.func 199) #[] #[]) m rfl
 go_enter Tryz.func163,Tryz.ntmps163
 go_wp2_with fail
 exact bodyPost_ret (v:= .agg #[.int .i64 1, .func (.func 199) #[] #[]]) (by simp [results,Tryz.results163,go_sem]) rfl ⟨rfl,by first | exact Joins.below_alloc1 _ _ | exact ((Joins.below_alloc1 _ _).setCell (by simp) _).setCell (by simp) _⟩
set_option maxHeartbeats 400000 in
theorem impl_widest (w:World):Calls Tryz.prog 164 #[] w fun e w'=>e= .returned (.agg #[.int .i64 0, .func (.func 127) #[] #[]])∧Below w.heap.size w w':=by
 have hst:=fun (v:World) (a:Addr) (m:Mode)=>run_store Tryz.prog v a (.func (.func 127) #[] #[]) m rfl
 go_enter Tryz.func164,Tryz.ntmps164
 go_wp2_with fail
 exact bodyPost_ret (v:= .agg #[.int .i64 0, .func (.func 127) #[] #[]]) (by simp [results,Tryz.results164,go_sem]) rfl ⟨rfl,by first | exact Joins.below_alloc1 _ _ | exact ((Joins.below_alloc1 _ _).setCell (by simp) _).setCell (by simp) _⟩
set_option maxRecDepth 100000 in
set_option maxHeartbeats 1600000 in
theorem chosenC (h:Nat) (bc bf fb gc n i k:Nat) (X Y:Int) (K:Prop) (w:World) (eh: ∀args w,(callFunc h args).run Tryz.prog w= .ok (.enter h args) w)
   (cc:w.cell? ⟨bc,1,none⟩=some (.func (.func h) #[] #[])) (cf:w.cell? ⟨bf,0,none⟩=some (.pointer (some ⟨fb,0,none⟩))) (cs:w.cell? ⟨fb,3,none⟩=some (.slice (some ⟨gc,0,none⟩) n n)) (ci:w.cell? ⟨gc,i,none⟩=some (.int .i64 X)) (ck:w.cell? ⟨gc,k,none⟩=some (.int .i64 Y))
   (zc:bc<w.heap.size) (zf:bf<w.heap.size) (zb:fb<w.heap.size) (zg:gc<w.heap.size) (hi:i<n) (hk:k<n)
   (hord: ∀v,Calls Tryz.prog h #[.int .i64 X, .int .i64 Y] v fun e v'=> ∃c:Int,e= .returned (.int .i64 c)∧(c<0↔K)∧Below v.heap.size v v'):
   Calls Tryz.prog 218 #[.int .i64 i, .int .i64 k, .pointer (some ⟨bc,0,none⟩), .pointer (some ⟨bf,0,none⟩)] w fun e w'=> ∃c:Int,e= .returned (.int .i64 c)∧(c<0↔K)∧Below w.heap.size w w':=by
 have MK:Hid (∀v,BelowL w v→v.cell? ⟨bc,1,none⟩=some (.func (.func h) #[] #[])∧v.cell? ⟨bf,0,none⟩=some (.pointer (some ⟨fb,0,none⟩))∧v.cell? ⟨fb,3,none⟩=some (.slice (some ⟨gc,0,none⟩) n n)∧v.cell? ⟨gc,i,none⟩=some (.int .i64 X)∧v.cell? ⟨gc,k,none⟩=some (.int .i64 Y)∧BelowL w v):=Lib.hid (fun v hh=>⟨(hh.out.cell zc).trans cc,(hh.out.cell zf).trans cf,(hh.out.cell zb).trans cs,(hh.out.cell zg).trans ci,(hh.out.cell zg).trans ck,hh⟩)
 have CC:=Lib.hid hord
 have pi:(i:Int)<(n:Int):=by omega
 have pk:(k:Int)<(n:Int):=by omega
 clear hord
 go_enter Tryz.func218,Tryz.ntmps218
 go_wp2_with fail
 go_region_held3 (fun v=>v.cell? ⟨bc,1,none⟩=some (.func (.func h) #[] #[])∧v.cell? ⟨bf,0,none⟩=some (.pointer (some ⟨fb,0,none⟩))∧v.cell? ⟨fb,3,none⟩=some (.slice (some ⟨gc,0,none⟩) n n)∧v.cell? ⟨gc,i,none⟩=some (.int .i64 X)∧v.cell? ⟨gc,k,none⟩=some (.int .i64 Y)∧BelowL w v)
   (first | exact MK.out _ hb1 | exact MK.out _ (BelowL.start _))
   (first
     | (go_at_fn h;((with_reducible refine (CC.out _).mono ?_);rintro e v1 ⟨cc,rfl,hcc,hq1⟩;have hb1:=BelowL.call (limbS6 (by assumption)) hq1)))
 have HC:=Lib.hid hcc
 have HBF:=Lib.hid hb1
 clear hcc hb1 MK CC
 go_wp2_with fail
 go_ret
 exact ⟨cc,rfl,HC.out,HBF.out.out⟩
set_option maxRecDepth 100000 in
set_option maxHeartbeats 3200000 in
theorem impl_chosen (h:Nat) (key:Int→Int) (v:Int) {w:World} {B f gi gc:Nat} {W H:Int} {n:Nat} {xs cs:List Int} (eh: ∀args w,(callFunc h args).run Tryz.prog w= .ok (.enter h args) w) (ho:OrdBy h key) (F:FSt w B f gi gc W H n xs cs) (hn:n≤256):
   Calls Tryz.prog 197 #[.pointer (some ⟨f,0,none⟩), .agg #[.int .i64 v, .func (.func h) #[] #[]]] w fun e w'=>e= .returned (.int .i64 (bestTo xs v (fun j=>key (cs.getD j 0)) n))∧Below w.heap.size w w':=by
 have HO:=Lib.hid ho
 have EH:=Lib.hid eh
 have F2:=Lib.hid ((F.alloc (.cells #[.pointer (some ⟨f,0,none⟩)] 182)).alloc (.cells #[.int .i64 v, .func (.func h) #[] #[]] 189))
 have KF:=Lib.hid ((Blk.new w 182 #[.pointer (some ⟨f,0,none⟩)]).alloc (.cells #[.int .i64 v, .func (.func h) #[] #[]] 189))
 have KC:=Lib.hid (Blk.new' (g:=w.heap.size+1) (w:=w.alloc (.cells #[.pointer (some ⟨f,0,none⟩)] 182)) 189 #[.int .i64 v, .func (.func h) #[] #[]] (by simp))
 have HB:=Lib.hid (bAlloc (bAlloc (Below.refl w.heap.size w) (.cells #[.pointer (some ⟨f,0,none⟩)] 182)) (.cells #[.int .i64 v, .func (.func h) #[] #[]] 189))
 clear F ho eh
 go_enter Tryz.func197,Tryz.ntmps197
 go_upto_region 1 with fail
 obtain ⟨wo,hwo⟩: ∃wo:World,wo=(w.alloc (.cells #[.pointer (some ⟨f,0,none⟩)] 182)).alloc (.cells #[.int .i64 v, .func (.func h) #[] #[]] 189):=⟨_,rfl⟩
 have ZO:Hid (wo.heap.size=w.heap.size+1+1):=Lib.hid (by rw [hwo];simp)
 rw [←hwo] at F2 KF KC HB⊢
 clear hwo
 obtain ⟨lf,p0,p1,p2,p3⟩:=F2.out.cells
 have lk:=KF.out.lt
 have k0:wo.cell? ⟨w.heap.size,0,none⟩=some (.pointer (some ⟨f,0,none⟩)):=by rw [KF.out.cell];rfl
 go_wp2_with fail
 go_loopw [5,15] (fun r i wr=> ∃(k d cp:Nat) (a:Option Addr),k≤n∧i= .int .i64 k∧r= .slice a d cp∧(placesTo xs v k).length=d∧OwnA wr wo.heap.size a d cp (placesTo xs v k)∧Below wo.heap.size wo wr) (fun _ i _=>n - (intOf i).toNat)
 case atStart=>exact ⟨0,0,0,none,Nat.zero_le _,rfl,rfl,rfl,OwnA.none _ _,Below.refl _ _⟩
 case round=>
   obtain ⟨k,d,cp,a,hk,rfl,rfl,hd,ho,hwr⟩:=hrel
   have HD:=Lib.hid hd
   have HOW:=Lib.hid ho
   have HWr:=Lib.hid hwr
   have KCr:=Lib.hid (KC.out.below' hwr)
   have Fr:=Lib.hid (F2.out.below hwr)
   have KFr:=Lib.hid (KF.out.below' hwr)
   have dle:d≤k:=by rw [←hd];exact places_len _ _ _
   clear hwr hd ho
   by_cases hlt:k<n
   · have g1:=Fr.out.ink.cell hlt
     obtain ⟨V,hV⟩: ∃V,xs.getD k 0=V:=⟨_,rfl⟩
     rw [hV] at g1
     have HV:=Lib.hid hV
     have lc:=KCr.out.lt
     have c0:wr.cell? ⟨w.heap.size+1,0,none⟩=some (.int .i64 v):=by rw [KCr.out.cell];rfl
     clear hV p0 p1 p2 p3 k0 lf lk
     by_cases hv1:V=v
     · subst hv1
       have EQ:Hid (placesTo xs V (k+1)=placesTo xs V k++ [(k:Int)]):=Lib.hid (places_yes HV.out)
       go_wp2_with (at_builtin;refine wp_append _ rfl (.tmp 24) (.tmp 26) rfl wo.heap.size d cp a _ rfl (HOW.out.alloc _) wr.heap.size (k:Int) rfl (by go_simp) (by omega) (by have:=HWr.out.size;simp;omega) ?_;intro ad2 cap2 w5 ho5 hg5)
       have HW5:=Lib.hid ((HWr.out.alloc HWr.out.size _).grown hg5 (by have:=HWr.out.size;simp;omega) (fun b hb=>by have:=HOW.out.bd b hb;omega))
       have HO5:=Lib.hid ho5
       clear ho5 hg5
       go_roundw
       case rel=>exact ⟨k+1,d+1,cap2,ad2,by omega,by go_num,rfl,by rw [EQ.out,List.length_append,HD.out];rfl,by rw [EQ.out];exact HO5.out,HW5.out⟩
       case measure=>simp [intOf];omega
     · have EQ:Hid (placesTo xs v (k+1)=placesTo xs v k):=Lib.hid (places_no (by rw [HV.out];exact hv1))
       go_wp2_with fail
       go_roundw
       case rel=>exact ⟨k+1,d,cp,a,by omega,by go_num,rfl,by rw [EQ.out];exact HD.out,by rw [EQ.out];exact HOW.out,HWr.out⟩
       case measure=>simp [intOf];omega
   · obtain rfl:k=n:=by omega
     have HBF:=Lib.hid (bTrans HB.out HWr.out)
     clear p0 p1 p2 p3 k0 lf lk
     by_cases hd0:d=0
     · subst hd0
       have E:Hid (bestTo xs v (fun j=>key (cs.getD j 0)) k=-1):=Lib.hid (by
         rcases best_cases xs v (fun j=>key (cs.getD j 0)) k with h | ⟨i,h1,h2,h3⟩
         · exact h.1
         · obtain ⟨q,hq,_⟩:=places_on h2 h3
           have:=HD.out
           omega)
       go_wp2_with fail
       go_ret
       exact ⟨ret_int E.out.symm,HBF.out⟩
     · have hd1:0<d:=by omega
       obtain ⟨ga,rfl,hgB,hog⟩: ∃g,a=some ⟨g,0,none⟩∧wo.heap.size≤g∧Own wr g d cp (placesTo xs v k):=by
         rcases HOW.out with ⟨_,h,_⟩ | h
         · omega
         · exact h
       have HG:=Lib.hid hog
       have hq0:((d:Int)==0)=false:=by simp;omega
       have EG:Hid (∀args w,(callFunc 218 args).run Tryz.prog w= .ok (.enter 218 args) w):=Lib.hid (enters6 _ _ _ Tryz.func218 (by kernel_rfl) rfl)
       clear hog hd0
       go_wp2_with fail
       refine (seq6 218 #[.pointer (some ⟨w.heap.size+1,0,none⟩), .pointer (some ⟨w.heap.size,0,none⟩)] ga d cp (fun t=>(placesTo xs v k).getD t 0) (fun t=>key (cs.getD ((placesTo xs v k).getD t.toNat 0).toNat 0)) wr EG.out (by omega) hd1 (fun t ht=>HG.out.cell ht) HG.out.lt (by
         intro u hu i j hi hj
         obtain ⟨I,i1,i2,i3⟩:=places_at (xs:=xs) (v:=v) (k:=k) (j:=i) (by rw [HD.out];exact hi)
         obtain ⟨J,j1,j2,j3⟩:=places_at (xs:=xs) (v:=v) (k:=k) (j:=j) (by rw [HD.out];exact hj)
         simp only [Int.toNat_natCast]
         rw [i1,j1]
         simp only [Int.toNat_natCast]
         have Fu:=Fr.out.below hu
         have Ku:=KFr.out.below' hu
         have Cu:=KCr.out.below' hu
         exact chosenC h (w.heap.size+1) w.heap.size f gc k I J (cs.getD I 0) (cs.getD J 0) _ u EH.out (by rw [Cu.cell];rfl) (by rw [Ku.cell];rfl) Fu.cells.2.2.2.2 (Fu.crowds.cell i2) (Fu.crowds.cell j2) Cu.lt Ku.lt Fu.lts.1 Fu.lts.2.2 i2 j2 (fun y=>HO.out (cs.getD I 0) (cs.getD J 0) y))).mono ?_
       rintro e w2 ⟨fq,blk,rfl,hbk,hob,hgd,hb⟩
       have HGD:=Lib.hid hgd
       obtain ⟨q0,q1⟩:=hgd.2 0 (Nat.le_refl _) hd1
       obtain ⟨q,hq⟩: ∃q:Nat,fq 0=(q:Int):=⟨(fq 0).toNat,by simp at q0;omega⟩
       have hqd:q<d:=by rw [hq] at q1;omega
       have s0:=hob.cell hd1
       rw [gen_get _ _ _ hd1,hq] at s0
       have s1:=(HG.out.below hb HG.out.lt).cell hqd
       have HB2:=Lib.hid (bTrans HBF.out hb)
       have HQ:=Lib.hid hq
       have E:Hid ((placesTo xs v k).getD q 0=bestTo xs v (fun j=>key (cs.getD j 0)) k):=Lib.hid (by
         have h:=sorted_best (c:=fun j=>key (cs.getD j 0)) HD.out hd1 HGD.out
         rw [HQ.out,Int.toNat_natCast] at h
         exact h.one (best_is _ _ _ _))
       obtain ⟨R,hR⟩: ∃R,(placesTo xs v k).getD q 0=R:=⟨_,rfl⟩
       rw [hR] at s1 E
       clear hR hb hgd q0 q1 hq hob
       go_wp2_with fail
       go_ret
       exact ⟨ret_int E.out,HB2.out⟩
theorem best_gen {W H:Int} {xs:List Int} {n:Nat} {key:Int→Int} {v:Int} (hn:xs.length=n):bestTo xs v (fun j=>key ((gen n (crowdG W H xs)).getD j 0)) n=bestTo xs v (fun j=>key (crowdG W H xs j)) xs.length:=by
 rw [hn]
 exact ((best_is xs v (fun j=>key ((gen n (crowdG W H xs)).getD j 0)) n).congr (fun j hj=>by simp only [gen_get _ _ _ hj])).one (best_is xs v _ n)
theorem filled_old (ys xs:List Int) (k:Nat) (h:k<xs.length) (hl:xs.length=ys.length):(filled ys xs k).getD k 0=xs.getD k 0:=by
 have e:(ys.take k).length=k:=by rw [List.length_take];omega
 unfold filled
 simp only [List.getD]
 rw [List.getElem?_append_right (by omega),e,Nat.sub_self,List.getElem?_drop]
 simp
theorem crowd_flip {W H:Int} {xs:List Int} {i:Nat} {v:Int} (hv:v=0∨v=1) (hi:i<xs.length) (h:xs.getD i 0=v) (k:Nat):crowdG W H (xs.set i (1 - v)) k=crowdG W H xs k+(1 - 2*v)*wtG W H k i:=by
 rcases hv with rfl | rfl
 · have:=crowd_put (W:=W) (H:=H) k hi h
   simp only [Int.sub_zero,Int.mul_zero,Int.one_mul]
   exact this
 · have:=crowd_take (W:=W) (H:=H) k hi h
   rw [show (1:Int) - 1=0 by decide,this]
   omega
set_option maxRecDepth 100000 in
set_option maxHeartbeats 3200000 in
theorem impl_flip (h:Nat) (key:Int→Int) (v:Int) {w:World} {B f gi gc:Nat} {W H:Int} {n:Nat} {xs:List Int} (hv:v=0∨v=1) (eh: ∀args w,(callFunc h args).run Tryz.prog w= .ok (.enter h args) w) (ho:OrdBy h key) (F:FSt w B f gi gc W H n xs (gen n (crowdG W H xs))) (hok:fieldOk W H xs=true)
   (i:Nat) (hb:bestTo xs v (fun j=>key (crowdG W H xs j)) xs.length=i) (hi:i<xs.length) (hx:xs.getD i 0=v):
   Calls Tryz.prog 162 #[.pointer (some ⟨f,0,none⟩), .agg #[.int .i64 v, .func (.func h) #[] #[]]] w fun e w'=>e= .returned (.int .i64 i)∧FSt w' B f gi gc W H n (xs.set i (1 - v)) (gen n (crowdG W H (xs.set i (1 - v))))∧Keep6 (Duo gi gc) w w':=by
 have HN:=Lib.hid F.ink.len
 obtain ⟨b1,b2,b3,b4,b5,b6,b7,b8,b9⟩:=field_bd HN.out hok
 have B5:=Lib.hid b5
 have B8:=Lib.hid b8
 have B9:=Lib.hid b9
 clear b5 b8 b9
 have HOK:=Lib.hid hok
 have HX:=Lib.hid hx
 have EB:Hid (bestTo xs v (fun j=>key ((gen n (crowdG W H xs)).getD j 0)) n=i):=Lib.hid (by rw [best_gen HN.out];exact hb)
 have hin:i<n:=by rw [←HN.out];exact hi
 have HO:=Lib.hid ho
 have EH:=Lib.hid eh
 have HV:=Lib.hid hv
 obtain ⟨V2,hV2⟩: ∃x,2*v=x:=⟨_,rfl⟩
 obtain ⟨CH,hCH⟩: ∃x,1 - V2=x:=⟨_,rfl⟩
 obtain ⟨NV,hNV⟩: ∃x,1 - v=x:=⟨_,rfl⟩
 have a1:IntKind.i64.wrap (2*v)=V2:=by rw [hV2];exact IntWalk.i64_in _ (by omega)
 have a2:IntKind.i64.wrap (1 - V2)=CH:=by rw [hCH];exact IntWalk.i64_in _ (by omega)
 have a3:IntKind.i64.wrap (v+CH)=NV:=by rw [show v+CH=NV by omega];exact IntWalk.i64_in _ (by omega)
 have HCH:Hid (CH=1∨CH=-1):=Lib.hid (by omega)
 have HCV:Hid (CH=1 - 2*v):=Lib.hid (by omega)
 have HNV:Hid (1 - v=NV):=Lib.hid hNV
 have CF:Hid (∀k,crowdG W H (xs.set i NV) k=crowdG W H xs k+CH*wtG W H k i):=Lib.hid (fun k=>by rw [←HNV.out,crowd_flip HV.out hi HX.out,HCV.out])
 have OK2:Hid (fieldOk W H (xs.set i NV)=true):=Lib.hid (field_set hok i (by omega))
 rw [hNV]
 have KB:=Lib.hid ((Blk.new w 189 #[.int .i64 v, .func (.func h) #[] #[]]))
 have HF:=Lib.hid (F.alloc (.cells #[.int .i64 v, .func (.func h) #[] #[]] 189))
 have HB:=Lib.hid (Joins.below_alloc1 w (.cells #[.int .i64 v, .func (.func h) #[] #[]] 189))
 have HLT:=Lib.hid F.lts
 clear F hok hx hb hi ho eh hv hV2 hCH hNV
 go_enter Tryz.func162,Tryz.ntmps162
 go_upto_region 1 with fail
 obtain ⟨wo,hwo⟩: ∃wo:World,wo=w.alloc (.cells #[.int .i64 v, .func (.func h) #[] #[]] 189):=⟨_,rfl⟩
 rw [←hwo] at KB HF HB⊢
 clear hwo
 have lb:=KB.out.lt
 have k0:wo.cell? ⟨w.heap.size,0,none⟩=some (.int .i64 v):=by rw [KB.out.cell];rfl
 have k1:wo.cell? ⟨w.heap.size,1,none⟩=some (.func (.func h) #[] #[]):=by rw [KB.out.cell];rfl
 go_wp2_with fail
 refine (impl_chosen h key v EH.out HO.out HF.out b6).mono ?_
 rw [EB.out]
 rintro e w4 ⟨rfl,hb⟩
 have KB:=Lib.hid (KB.out.below' hb)
 have HF:=Lib.hid (HF.out.below hb)
 have HB:=Lib.hid (bTrans HB.out hb)
 clear hb lb k0 k1
 have hi0:0≤(i:Int):=by omega
 obtain ⟨lf,p0,p1,p2,p3⟩:=HF.out.cells
 have lb:=KB.out.lt
 have k0:w4.cell? ⟨w.heap.size,0,none⟩=some (.int .i64 v):=by rw [KB.out.cell];rfl
 have g1:=HF.out.ink.cell hin
 rw [HX.out] at g1
 have g2:=HF.out.ink.frozen i
 have HS:=Lib.hid (HF.out.ink.set i NV)
 go_upto_region 6 with fail
 obtain ⟨w5,hw5⟩: ∃w5:World,w5=w4.setCell ⟨gi,i,none⟩ (.int .i64 NV):=⟨_,rfl⟩
 have KF5:Hid (Blk w5 f 186 #[.int .i64 W, .int .i64 H, .slice (some ⟨gi,0,none⟩) n n, .slice (some ⟨gc,0,none⟩) n n]):=Lib.hid (by rw [hw5];exact HF.out.box.other (by exact fun e=>HF.out.n1 e.symm) _)
 have KG5:Hid (Own w5 gc n n (gen n (crowdG W H xs))):=Lib.hid (by rw [hw5];exact HF.out.crowds.other (by exact HF.out.n3) _)
 have KI5:Hid (Own w5 gi n n (xs.set i NV)):=Lib.hid (by rw [hw5];exact HS.out)
 have KK5:Hid (Keep6 (Duo gi gc) w w5):=Lib.hid (by rw [hw5];exact (Keep6.ofBelow HB.out).set (Or.inl rfl) _)
 have N1:=Lib.hid HF.out.n1
 have N2:=Lib.hid HF.out.n2
 have N3:=Lib.hid HF.out.n3
 have HH:=Lib.hid (And.intro HF.out.hf (And.intro HF.out.hi HF.out.hc))
 rw [←hw5]
 clear hw5 lf p0 p1 p2 p3 lb k0 g1 g2 HS KB HF HB HO EH EB
 have lf:=KF5.out.lt
 have p3:w5.cell? ⟨f,3,none⟩=some (.slice (some ⟨gc,0,none⟩) n n):=by rw [KF5.out.cell];rfl
 have CI:=Lib.hid (fun (k:Nat) (hk:k<n) (v:World)=>impl_cellOf W H (some ⟨gi,0,none⟩) n n k v b1 (by omega) B5.out b6 hk)
 have CW:=Lib.hid (fun (k:Nat) (hk:k<n) (v:World)=>impl_weightOfPair W H (some ⟨gi,0,none⟩) n n i k v b1 (by omega) b3 (by omega) B5.out b6 hin hk)
 go_wp2_with fail
 go_loopw [33] (fun s wr=> ∃k:Nat,k≤n∧s= .int .i64 k∧Hid (Own wr gc n n (filled (gen n (crowdG W H (xs.set i NV))) (gen n (crowdG W H xs)) k))∧Hid (Keep6 (fun i=>i=gc) w5 wr)) (fun s _=>n - (intOf s).toNat)
 case atStart=>exact ⟨0,Nat.zero_le _,rfl,Lib.hid (by rw [filled_zero];exact KG5.out),Lib.hid (Keep6.refl _ _)⟩
 case round=>
   obtain ⟨k,hk,rfl,HO,HK⟩:=hrel
   have KFr:=Lib.hid (HK.out.blk KF5.out N2.out)
   by_cases hlt:k<n
   · have C1:=Lib.hid (CI.out i hin)
     have C2:=Lib.hid (CI.out k hlt)
     have C3:=Lib.hid (CW.out k hlt)
     obtain ⟨P,hP⟩: ∃P,(i:Int) % W=P:=⟨_,rfl⟩
     obtain ⟨Q,hQ⟩: ∃Q,(i:Int)/W=Q:=⟨_,rfl⟩
     obtain ⟨P',hP'⟩: ∃P,(k:Int) % W=P:=⟨_,rfl⟩
     obtain ⟨Q',hQ'⟩: ∃Q,(k:Int)/W=Q:=⟨_,rfl⟩
     rw [hP,hQ] at C1 C3
     rw [hP',hQ'] at C2 C3
     have hs:=filled_succ (gen n (crowdG W H (xs.set i NV))) (gen n (crowdG W H xs)) k _ (by rw [gen_len];exact hlt) (by rw [gen_len];exact hlt) (gen_get _ _ _ hlt)
     have h2c:=HO.out.cell hlt
     rw [filled_old _ _ _ (by rw [gen_len];exact hlt) (by rw [gen_len,gen_len]),gen_get _ _ _ hlt] at h2c
     have h3c:=HO.out.frozen k
     obtain ⟨c1,c2⟩:=crowdG_bd HN.out HOK.out k
     obtain ⟨d1,d2⟩:=crowdG_bd (n:=n) (by rw [List.length_set];exact HN.out) OK2.out k
     obtain ⟨t1,t2⟩:=wt_bd b1 b3 i k
     have hcf:=CF.out k
     rw [wt_symm b1 b3 k i] at hcf
     obtain ⟨C,hC⟩: ∃C,crowdG W H xs k=C:=⟨_,rfl⟩
     obtain ⟨D,hD⟩: ∃D,crowdG W H (xs.set i NV) k=D:=⟨_,rfl⟩
     obtain ⟨T,hT⟩: ∃T,wtG W H i k=T:=⟨_,rfl⟩
     rw [hC] at c1 c2 h2c hcf
     rw [hD] at d1 d2 hs hcf
     rw [hT] at t1 t2 C3 hcf
     obtain ⟨X,hX⟩: ∃X,CH*T=X:=⟨_,rfl⟩
     rw [hX] at hcf
     have x1:-4096≤X∧X≤4096:=by rcases HCH.out with e | e <;>rw [e] at hX <;>omega
     have u1:IntKind.i64.wrap (CH*T)=X:=by rw [hX];exact IntWalk.i64_in _ (by omega)
     have u2:IntKind.i64.wrap (C+X)=D:=by rw [hcf];exact IntWalk.i64_in _ (by omega)
     have HS:=Lib.hid hs
     clear hs hP hQ hP' hQ' hC hD hT hX hcf lf p3 x1
     obtain ⟨lf,p0,p1,p2,p3⟩:f<wr.heap.size∧wr.cell? ⟨f,0,none⟩=some (.int .i64 W)∧wr.cell? ⟨f,1,none⟩=some (.int .i64 H)∧wr.cell? ⟨f,2,none⟩=some (.slice (some ⟨gi,0,none⟩) n n)∧wr.cell? ⟨f,3,none⟩=some (.slice (some ⟨gc,0,none⟩) n n):=⟨KFr.out.lt,by rw [KFr.out.cell];rfl,by rw [KFr.out.cell];rfl,by rw [KFr.out.cell];rfl,by rw [KFr.out.cell];rfl⟩
     have lg:=HO.out.lt
     go_upto_region 9 with fail
     have MK:Hid (∀v,BelowL wr v→v.cell? ⟨f,0,none⟩=some (.int .i64 W)∧v.cell? ⟨f,1,none⟩=some (.int .i64 H)∧v.cell? ⟨f,2,none⟩=some (.slice (some ⟨gi,0,none⟩) n n)∧v.cell? ⟨f,3,none⟩=some (.slice (some ⟨gc,0,none⟩) n n)∧v.cell? ⟨gc,k,none⟩=some (.int .i64 C)∧BelowL wr v):=Lib.hid (fun v hB=>⟨(hB.out.cell lf).trans p0,(hB.out.cell lf).trans p1,(hB.out.cell lf).trans p2,(hB.out.cell lf).trans p3,(hB.out.cell lg).trans h2c,hB⟩)
     refine wp_region_T 28 (fun v=>v.cell? ⟨f,0,none⟩=some (.int .i64 W)∧v.cell? ⟨f,1,none⟩=some (.int .i64 H)∧v.cell? ⟨f,2,none⟩=some (.slice (some ⟨gi,0,none⟩) n n)∧v.cell? ⟨f,3,none⟩=some (.slice (some ⟨gc,0,none⟩) n n)∧v.cell? ⟨gc,k,none⟩=some (.int .i64 C)∧BelowL wr v) (by kernel_rfl) (MK.out _ (BelowL.start _)) ?_
     intro hHeld
     have hb0:=limbS6 hHeld
     refine tTake 0 ?_
     refine tTake 1 ?_
     refine tTake 2 ?_
     refine tTake 3 ?_
     refine tTake 4 ?_
     refine tTake 5 ?_
     refine tTake 6 ?_
     refine tTake 7 ?_
     refine tTake 8 ?_
     refine tTake 9 ?_
     refine tTake 10 ?_
     refine tTake 11 ?_
     refine tTake 12 ?_
     refine tTake 13 ?_
     refine tTake 14 ?_
     refine tTake 15 ?_
     refine tTake 16 ?_
     refine tTake 18 ?_
     refine tTake 19 ?_
     refine tTake 20 ?_
     refine tTake 21 ?_
     refine tTake 22 ?_
     refine tOne 17 (fun K hK=>?_)
     go_simp
     go_at_call 196
     ((with_reducible refine (C1.out _).mono ?_);rintro e v1 ⟨rfl,hq1⟩)
     have hb1:=BelowL.call hb0 hq1
     go_wp2_with fail
     refine hK.out _ _ (fun _=>by (try dsimp only);exact MK.out _ hb1) (fun hH2=>?_)
     clear hK K hHeld
     have hHeld:=hH2 (by decide)
     refine tOne 23 (fun K hK=>?_)
     go_simp
     go_at_call 196
     ((with_reducible refine (C2.out _).mono ?_);rintro e v2 ⟨rfl,hq2⟩)
     have hb2:=BelowL.call hb1 hq2
     go_wp2_with fail
     refine hK.out _ _ (fun _=>by (try dsimp only);exact MK.out _ hb2) (fun hH3=>?_)
     clear hK K hHeld
     have hHeld:=hH3 (by decide)
     refine tOne 24 (fun K hK=>?_)
     go_simp
     go_at_call 198
     ((with_reducible refine (C3.out _).mono ?_);rintro e v3 ⟨rfl,hq3⟩)
     have hb3:=BelowL.call hb2 hq3
     go_wp2_with fail
     refine hK.out _ _ (fun _=>by (try dsimp only);exact MK.out _ hb3) (fun hH4=>?_)
     clear hK K hHeld
     have hHeld:=hH4 (by decide)
     have HOv:=Lib.hid (HO.out.below hb3.out HO.out.lt)
     have HKv:=Lib.hid (HK.out.call hb3.out)
     have h4c:=hHeld.2.2.2.2.1
     have h5c:=HOv.out.frozen k
     refine tTake 25 ?_
     refine tTake 26 ?_
     refine tTake 27 ?_
     refine tOne 28 (fun K hK=>?_)
     go_simp
     refine hK.out _ _ (fun h=>absurd h (by decide)) (fun hH5=>?_)
     clear hK K hH5 hH4 hH3 hH2 hHeld
     refine wpAnyT_done (by kernel_rfl) ?_ _
     (try go_simp)
     go_wp2_with fail
     go_roundw
     case rel=>exact ⟨k+1,by omega,by go_num,Lib.hid (by rw [←HS.out];exact HOv.out.set k D),Lib.hid (HKv.out.set rfl _)⟩
     case measure=>simp [intOf];omega
   · obtain rfl:k=n:=by omega
     have HO2:Hid (Own wr gc k k (gen k (crowdG W H (xs.set i NV)))):=Lib.hid (by have h:=HO.out;rwa [filled_at _ _ _ (gen_len _ _) (gen_len _ _)] at h)
     have HR:Hid (FSt wr B f gi gc W H k (xs.set i NV) (gen k (crowdG W H (xs.set i NV)))):=Lib.hid ⟨HH.out.1,HH.out.2.1,HH.out.2.2,N1.out,N2.out,N3.out,KFr.out,HK.out.own KI5.out N3.out,HO2.out⟩
     have HKR:=Lib.hid (KK5.out.trans (HK.out.mono (fun i hi=>Or.inr hi)))
     go_wp2_with fail
     go_ret
     exact ⟨rfl,HR.out,HKR.out⟩
end Go.Proofs.YtanccoopbgamdaaGreatDoor
