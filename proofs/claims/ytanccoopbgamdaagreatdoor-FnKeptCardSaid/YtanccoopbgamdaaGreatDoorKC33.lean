/-
  Contracts and plain facts on which the theorem of this claim rests, text 33.
-/
import Derived.BigRegion
import Derived.Deep.Cut
import Derived.Deep.RegionHeld3
import Derived.Laws.CopyOwn
import Derived.Test.YtanccoopbgamdaaGreatDoorKC5
import Derived.Test.YtanccoopbgamdaaGreatDoorKC6
import Derived.Test.YtanccoopbgamdaaGreatDoorKC7
import Derived.Test.YtanccoopbgamdaaGreatDoorKC14
import Derived.Test.YtanccoopbgamdaaGreatDoorKC32
namespace Go.Proofs.YtanccoopbgamdaaGreatDoor
open Go.RowKit
set_option linter.unusedVariables false
set_option linter.unusedSimpArgs false
def PlateB (p:Pic):Prop:=p.ink=[]∨(1≤p.W∧p.W≤256∧1≤p.H∧p.H≤256∧(p.ink.length:Int)=p.W*p.H∧p.ink.length≤256)
theorem step_appendC {P:Program} (w:World) {ops:Array Oper} {o:Oper} {a:Act} {K:Act→World→Prop} {Q:Exit→Act→World→Prop} {E:Prop}
   (hgd:o.guard=none) (t e sz bytes:Nat) (ht:P.underlying t=some (.slice e)) (hi0:(P.info? e).map (fun i=>(i.zero,i.size,i.bytes))=some (some (zeros sz),sz,bytes)) (hsz:1≤sz) (hby:bytes≤4096)
   (s x:Operand) (hop:o.op= .call {callee:= .builtin .append,args:=#[s,x],argTypes:=#[t,t]})
   (B n cap:Nat) (ad:Option Addr) (xs:List Int) (hs:a.eval s= .slice ad n cap) (ho:RowA w e sz B ad n cap xs) (g:Nat) (vs:List Int) (hx:a.eval x= .slice (some ⟨g,0,none⟩) 1 1)
   (hv:vs.length=sz) (hc: ∀j,j<sz→w.cell? ⟨g,j,none⟩=some (.int .i64 (vs.getD j 0))) (hn:n≤1048576) (hB:B≤w.heap.size)
   (hK: ∀ad' cap' w',RowA w' e sz B ad' (n+1) cap' (xs++vs)→w.grownBy w' (blockOf ad)→K (a.put o.dst (.slice ad' (n+1) cap')) w'):
   if Region.wanted o (yielded ops a.tmps)=true then Oper.wp P o a w K Q else E:=by
 have hw:Region.wanted o (yielded ops a.tmps)=true:=by simp [Region.wanted,hgd]
 rw [if_pos hw]
 obtain ⟨i,hi,hz0,hz1,hz2⟩:=info_parts hi0
 have m1:(n+1)*bytes≤1048577*4096:=Nat.mul_le_mul (by omega) hby
 refine wp_append_own w s x t hop B e i (zeros sz) sz bytes ht hi hz0 hz1 hz2 (by simp [zeros,Value.cells]) (by omega) _ n (xs.map (Value.int .i64)) hs ho.toRow ⟨g,0,none⟩ 1 1 (vs.map (Value.int .i64)) hx (by simp [hv]) ?_ ?_ (by unfold maxLen;omega) (by omega) hB ?_
 · intro j u hj
   by_cases hjs:j<sz
   · have:=hc j hjs
     rw [List.getElem?_map,List.getElem?_eq_getElem (by omega)] at hj
     simp only [Option.map_some,Option.some.injEq] at hj
     subst hj
     rw [show (Addr.mk g 0 none).add j=⟨g,j,none⟩ by rw [Addr.add_lit];simp,this]
     simp [List.getD,List.getElem?_eq_getElem (show j<vs.length by omega)]
   · rw [List.getElem?_eq_none (by simp;omega)] at hj;cases hj
 · intro u hu
   obtain ⟨x,_,rfl⟩:=List.mem_map.1 hu
   rfl
 · intro v' w' h2 h3 _
   have h4:w'.ownsRow B e sz v' (n+1) ((xs++vs).map (Value.int .i64)):=by simpa using h2
   obtain ⟨ad',cap',rfl,h5⟩:=RowA.ofRow h4
   rw [blockOf_ownT] at h3
   exact hK ad' cap' w' h5 h3
def onesTo (xs:List Int) (k:Nat):List Nat:=(List.range k).filter (fun i=>decide (xs.getD i 0=1))
def flatC (W:Int) (ls:List Nat):List Int:=ls.flatMap (fun (i:Nat)=> [(i:Int) % W,(i:Int)/W])
theorem ones_yes {xs:List Int} {k:Nat} (h:xs.getD k 0=1):onesTo xs (k+1)=onesTo xs k++ [k]:=by
 unfold onesTo
 rw [List.range_succ,List.filter_append]
 simp [List.getD] at h⊢
 simp [h]
theorem ones_no {xs:List Int} {k:Nat} (h: ¬xs.getD k 0=1):onesTo xs (k+1)=onesTo xs k:=by
 unfold onesTo
 rw [List.range_succ,List.filter_append]
 simp [List.getD] at h⊢
 simp [h]
theorem ones_mem {xs:List Int} {k i:Nat}:i ∈ onesTo xs k↔i<k∧xs.getD i 0=1:=by
 unfold onesTo;simp
theorem ones_len (xs:List Int) (k:Nat):(onesTo xs k).length≤k:=by
 unfold onesTo
 have:=List.length_filter_le (fun i=>decide (xs.getD i 0=1)) (List.range k)
 simpa using this
theorem flatC_len (W:Int) (ls:List Nat):(flatC W ls).length=ls.length*2:=by
 induction ls with
 | nil=>rfl
 | cons a r ih=>unfold flatC at ih⊢;simp only [List.flatMap_cons,List.length_append,ih];simp;omega
theorem flatC_snoc (W:Int) (ls:List Nat) (k:Nat):flatC W (ls++ [k])=flatC W ls++ [(k:Int) % W,(k:Int)/W]:=by
 unfold flatC;simp
theorem flatC_at (W:Int): ∀(ls:List Nat) (k:Nat),k<ls.length→(flatC W ls).getD (k*2) 0=((ls.getD k 0:Nat):Int) % W∧(flatC W ls).getD (k*2+1) 0=((ls.getD k 0:Nat):Int)/W
 | [],k,h=>by simp at h
 | a::r,0,h=>by simp [flatC]
 | a::r,k+1,h=>by
   have ih:=flatC_at W r k (by simpa using h)
   have e1:(k+1)*2=k*2+1+1:=by omega
   have e2:flatC W (a::r)=(a:Int) % W::(a:Int)/W::flatC W r:=by simp [flatC]
   rw [e2,e1]
   simpa using ih
theorem rd_place {w:World} {ad:Option Addr} {W:Int} {ls:List Nat} (h:Rd w ad (flatC W ls)) {k:Nat} (hk:k<ls.length):
   ∃b off,ad=some ⟨b,off,none⟩∧b<w.heap.size∧w.cell? ⟨b,off+k*2,none⟩=some (.int .i64 (((ls.getD k 0:Nat):Int) % W))∧w.cell? ⟨b,off+k*2+1,none⟩=some (.int .i64 (((ls.getD k 0:Nat):Int)/W)):=by
 have hl:=flatC_len W ls
 obtain ⟨b,off,h1,h2,h3⟩:=h.at (by omega)
 obtain ⟨e1,e2⟩:=flatC_at W ls k hk
 refine ⟨b,off,h1,h2,?_,?_⟩
 · rw [←e1];exact h3 _ (by omega)
 · rw [←e2,Nat.add_assoc];exact h3 _ (by omega)
set_option maxRecDepth 100000 in
set_option maxHeartbeats 3200000 in
theorem impl_dotsOf (W H:Int) (ad:Option Addr) (n cap:Nat) (xs:List Int) (w:World) (hn:xs.length=n) (ha:Rd w ad xs) (hp:PlateB ⟨W,H,xs⟩):
   Calls Tryz.prog 194 #[.agg #[.int .i64 W, .int .i64 H, .slice ad n cap]] w fun e w'=>
     ∃a d c,e= .returned (.slice a d c)∧(onesTo xs n).length=d∧RowA w' 149 2 w.heap.size a d c (flatC W (onesTo xs n))∧Below w.heap.size w w':=by
 have HN:=Lib.hid hn
 have HP:=Lib.hid hp
 have RD2:=Lib.hid (ha.alloc (.cells #[.int .i64 W, .int .i64 H, .slice ad n cap] 27))
 have KM2:=Lib.hid (Blk.new w 27 #[.int .i64 W, .int .i64 H, .slice ad n cap])
 have HB2:=Lib.hid (Joins.below_alloc1 w (.cells #[.int .i64 W, .int .i64 H, .slice ad n cap] 27))
 have nb:n≤256:=by
   rcases hp with h | ⟨h1,h2,h3,h4,h5,h6⟩
   · simp only [] at h;rw [h] at hn;simp at hn;omega
   · simp only [] at h6;omega
 clear hn ha hp
 go_enter Tryz.func194,Tryz.ntmps194
 obtain ⟨w2,hw2⟩: ∃w2,w2=w.alloc (.cells #[.int .i64 W, .int .i64 H, .slice ad n cap] 27):=⟨_,rfl⟩
 have HSZ:Hid (w.heap.size<w2.heap.size):=Lib.hid (by rw [hw2];exact KM2.out.lt)
 rw [←hw2] at RD2 KM2 HB2
 go_wp2_with fail
 rw [←hw2]
 clear hw2
 go_loopw [3,9] (fun r i wr=> ∃(k d cp:Nat) (a:Option Addr),k≤n∧i= .int .i64 k∧r= .slice a d cp∧(onesTo xs k).length=d∧RowA wr 149 2 w2.heap.size a d cp (flatC W (onesTo xs k))∧Below w2.heap.size w2 wr) (fun _ i _=>n - (intOf i).toNat)
 case atStart=>exact ⟨0,0,0,none,Nat.zero_le _,rfl,rfl,rfl,RowA.none _ _ _ _,Below.refl _ _⟩
 case round=>
   obtain ⟨k,d,cp,a,hk,rfl,rfl,hd,ho,hwr⟩:=hrel
   have HD:=Lib.hid hd
   have HO:=Lib.hid ho
   have HWr:=Lib.hid hwr
   have KMr:=Lib.hid (KM2.out.below' hwr)
   have RDr:=Lib.hid (RD2.out.below hwr)
   clear hwr hd ho
   obtain ⟨l0,o0,o1,o2⟩:=KMr.out.c3
   by_cases hlt:k<n
   · obtain ⟨ba,oa,hae,hal,hac⟩:=RDr.out.at (by have:=HN.out;omega)
     subst hae
     have g1:=hac k (by have:=HN.out;omega)
     obtain ⟨V,hV⟩: ∃V,xs.getD k 0=V:=⟨_,rfl⟩
     rw [hV] at g1
     have HV:=Lib.hid hV
     clear hV hac
     by_cases hv1:V=1
     · subst hv1
       obtain ⟨b1,b2,b3,b4,b5,b6⟩:1≤W∧W≤256∧1≤H∧H≤256∧(n:Int)=W*H∧n≤256:=by
         rcases HP.out with h | ⟨h1,h2,h3,h4,h5,h6⟩
         · have:=HN.out;simp only [] at h;rw [h] at this;simp at this;omega
         · have:=HN.out;simp only [] at h5 h6;rw [this] at h5 h6;exact ⟨h1,h2,h3,h4,h5,h6⟩
       have B5:=Lib.hid b5
       obtain ⟨P,Q,hP,hQ,tP,tQ,p0,p1,q0,q1⟩:=place_bd b1 b2 b5 b6 hlt
       clear b5
       have u1:IntKind.i64.wrap P=P:=IntWalk.i64_in _ (by omega)
       have u2:IntKind.i64.wrap Q=Q:=IntWalk.i64_in _ (by omega)
       have z1: ¬W=0:=by omega
       have z2:(W==0)=false:=by simp;omega
       have EQ:Hid (flatC W (onesTo xs (k+1))=flatC W (onesTo xs k)++ [P,Q]):=Lib.hid (by rw [ones_yes HV.out,flatC_snoc,hP,hQ])
       have EL:Hid ((onesTo xs (k+1)).length=d+1):=Lib.hid (by rw [ones_yes HV.out,List.length_append,HD.out];rfl)
       have dle:d≤k:=by rw [←HD.out];exact ones_len _ _
       clear hP hQ
       have SZr:=Lib.hid HWr.out.size
       go_upto_region 6 with fail
       refine wp_region_held_drew (S:=fun v=>v.cell? ⟨w.heap.size,0,none⟩=some (.int .i64 W)) (by kernel_rfl) o0 ?_
       intro hHeld
       refine hTake 0 ?_
       refine hTake 1 ?_
       refine hTake 2 ?_
       refine hTake 3 ?_
       refine hTake 4 ?_
       refine hTake 5 ?_
       refine hTake 6 ?_
       refine hTake 7 ?_
       refine hTake 8 ?_
       refine hTake 9 ?_
       refine hOne 10 (fun K hK=>?_)
       go_simp
       refine hK.out _ _ (by (try dsimp only);exact cell_al o0) (fun hHeld=>?_)
       clear hK K
       refine hOne 11 (fun K hK=>?_)
       refine step_appendC _ rfl 214 149 2 16 Tryz.underlying214 infoCell (by decide) (by decide) (.tmp 16) (.tmp 26) rfl w2.heap.size d cp a (flatC W (onesTo xs k)) rfl ((HO.out.alloc _).drew) _ [P,Q] rfl rfl (fun j hj=>by
         refine ((Blk.new wr 149 #[.int .i64 P, .int .i64 Q]).cell j).trans ?_
         match j,hj with
         | 0,_=>rfl
         | 1,_=>rfl) (by omega) (by have:=SZr.out;simp;omega) ?_
       intro ad3 cp3 w4 ho3 hg3
       have KM4:=((KMr.out.alloc (.cells #[.int .i64 P, .int .i64 Q] 149)).drew).grownS hg3 (fun b hb=>by have:=HO.out.bd b hb;have:=HSZ.out;omega)
       have HB4:=Lib.hid (((HWr.out.alloc SZr.out (.cells #[.int .i64 P, .int .i64 Q] 149)).drew).grown hg3 (by have:=SZr.out;simp;omega) (fun b hb=>(HO.out.bd b hb).1))
       obtain ⟨m0,y0,y1,y2⟩:=KM4.c3
       (try dsimp only)
       refine hK.out _ _ (by (try dsimp only);exact y0) (fun hHeld=>?_)
       clear hK K
       refine hTake 12 ?_
       refine wpAnyH_done (by kernel_rfl) ?_ _
       (try go_simp)
       go_wp2_with fail
       go_roundw
       case rel=>exact ⟨k+1,d+1,cp3,ad3,by omega,by go_num,rfl,EL.out,by rw [EQ.out];exact ho3,HB4.out⟩
       case measure=>simp [intOf];omega
     · have EQ:Hid (onesTo xs (k+1)=onesTo xs k):=Lib.hid (ones_no (fun h=>hv1 (HV.out.symm.trans h)))
       go_wp2_with fail
       go_roundw
       case rel=>exact ⟨k+1,d,cp,a,by omega,by go_num,rfl,by rw [EQ.out];exact HD.out,by rw [EQ.out];exact HO.out,HWr.out⟩
       case measure=>simp [intOf];omega
   · obtain rfl:n=k:=by omega
     go_wp2_with fail
     go_ret
     exact ⟨_,_,_,rfl,HD.out,HO.out.mono HB2.out.size,bTrans HB2.out HWr.out⟩
def sumW (W H:Int) (i:Nat) (ls:List Nat):Int:=isum (ls.map (fun k=>wtG W H i k))
theorem sumW_snoc (W H:Int) (i:Nat) (ls:List Nat) (k:Nat):sumW W H i (ls++ [k])=sumW W H i ls+wtG W H i k:=by
 unfold sumW
 rw [List.map_append,isum_append]
 simp [isum]
theorem sumW_ones (W H:Int) (xs:List Int) (i k:Nat):sumW W H i (onesTo xs k)=crowdTo W H xs i k:=by
 induction k with
 | zero=>rfl
 | succ k ih=>
   unfold crowdTo
   by_cases h:xs.getD k 0=1
   · rw [ones_yes h,sumW_snoc,ih,if_pos h]
   · rw [ones_no h,ih,if_neg h];omega
theorem sumW_bd {W H:Int} (hW:1≤W) (hH:1≤H) (i:Nat) (ls:List Nat):0≤sumW W H i ls∧sumW W H i ls≤4096*ls.length:=by
 induction ls with
 | nil=>exact ⟨Int.le_refl _,by simp [sumW,isum]⟩
 | cons a r ih=>
   have:=wt_bd hW hH i a
   unfold sumW at ih⊢
   simp only [List.map_cons,isum,List.length_cons]
   omega
theorem sumW_take {W H:Int} (i:Nat) {ls:List Nat} {k:Nat} (h:k<ls.length):sumW W H i (ls.take (k+1))=sumW W H i (ls.take k)+wtG W H i (ls.getD k 0):=by
 rw [List.take_succ_eq_append_getElem h,sumW_snoc]
 simp [List.getD,List.getElem?_eq_getElem h]
set_option maxHeartbeats 400000 in
theorem impl_cellOf (W H:Int) (ad:Option Addr) (n cap i:Nat) (w:World) (hW:1≤W) (hW2:W≤256) (hn:(n:Int)=W*H) (hn2:n≤256) (hi:i<n):
   Calls Tryz.prog 196 #[.agg #[.int .i64 W, .int .i64 H, .slice ad n cap], .int .i64 i] w fun e w'=>e= .returned (.agg #[.int .i64 ((i:Int) % W), .int .i64 ((i:Int)/W)])∧Below w.heap.size w w':=by
 obtain ⟨P,Q,hP,hQ,tP,tQ,p0,p1,q0,q1⟩:=place_bd hW hW2 hn hn2 hi
 rw [hP,hQ]
 have u1:IntKind.i64.wrap P=P:=IntWalk.i64_in _ (by omega)
 have u2:IntKind.i64.wrap Q=Q:=IntWalk.i64_in _ (by omega)
 have z1: ¬W=0:=by omega
 have z2:(W==0)=false:=by simp;omega
 have HN:=Lib.hid hn
 clear hn hP hQ
 go_enter Tryz.func196,Tryz.ntmps196
 go_wp2_with fail
 have KP:=Lib.hid ((Blk.new w 27 #[.int .i64 W, .int .i64 H, .slice ad n cap]).alloc (.cells #[.int .i64 0, .int .i64 0] 149))
 have KZ:=Lib.hid (Blk.new' (g:=w.heap.size+1) (w:=w.alloc (.cells #[.int .i64 W, .int .i64 H, .slice ad n cap] 27)) 149 #[.int .i64 0, .int .i64 0] (by simp))
 have HBP:=Lib.hid (bAlloc (bAlloc (Below.refl w.heap.size w) (.cells #[.int .i64 W, .int .i64 H, .slice ad n cap] 27)) (.cells #[.int .i64 0, .int .i64 0] 149))
 obtain ⟨l0,o0,o1,o2⟩:=KP.out.c3
 have r0:=KZ.out.cell 0
 have r1:=KZ.out.cell 1
 have f0:=KZ.out.frozen 0
 have f1:=KZ.out.frozen 1
 simp only [List.getElem?_toArray,List.getElem?_cons_zero,List.getElem?_cons_succ] at r0 r1
 go_region
 all_goals (
   go_wp2_with fail
   exact bodyPost_ret (v:= .agg #[.int .i64 P, .int .i64 Q]) (by simp [results,Tryz.results196,go_sem,r0,r1]) rfl
     ⟨rfl,(bAlloc (bAlloc (Below.refl w.heap.size w) _) _).drew⟩)
set_option maxHeartbeats 800000 in
theorem impl_weightOfPair (W H:Int) (ad:Option Addr) (n cap i k:Nat) (w:World) (hW:1≤W) (hW2:W≤256) (hH:1≤H) (hH2:H≤256) (hn:(n:Int)=W*H) (hn2:n≤256) (hi:i<n) (hk:k<n):
   Calls Tryz.prog 198 #[.agg #[.int .i64 W, .int .i64 H, .slice ad n cap], .agg #[.int .i64 ((i:Int) % W), .int .i64 ((i:Int)/W)], .agg #[.int .i64 ((k:Int) % W), .int .i64 ((k:Int)/W)]] w fun e w'=>e= .returned (.int .i64 (wtG W H i k))∧Below w.heap.size w w':=by
 have E:Hid (wtG W H i k=4096/(1+farG W H i k)):=Lib.hid rfl
 obtain ⟨f0,f1⟩:=far_bd hW hW2 hH hH2 i k
 have FC:=Lib.hid (fun v:World=>impl_torusSquare W H n i k v hW hW2 hH hH2 hn hn2 hi hk)
 obtain ⟨F,hF⟩: ∃F,farG W H i k=F:=⟨_,rfl⟩
 rw [hF] at f0 f1 E FC
 obtain ⟨P,hP⟩: ∃P,(i:Int) % W=P:=⟨_,rfl⟩
 obtain ⟨Q,hQ⟩: ∃Q,(i:Int)/W=Q:=⟨_,rfl⟩
 obtain ⟨P',hP'⟩: ∃P,(k:Int) % W=P:=⟨_,rfl⟩
 obtain ⟨Q',hQ'⟩: ∃Q,(k:Int)/W=Q:=⟨_,rfl⟩
 rw [hP,hQ,hP',hQ'] at FC⊢
 have z1: ¬1+F=0:=by omega
 have z2:(1+F==0)=false:=by simp;omega
 have z3:IntKind.i64.wrap (1+F)=1+F:=IntWalk.i64_in _ (by omega)
 have z4:(4096:Int).tdiv (1+F)=4096/(1+F):=Int.tdiv_eq_ediv_of_nonneg (by omega)
 have z5:0≤4096/(1+F):=Int.ediv_nonneg (by omega) (by omega)
 have z6:4096/(1+F)≤4096:=Int.ediv_le_self _ (by omega)
 clear hn hF hP hQ hP' hQ' hi hk
 go_enter Tryz.func198,Tryz.ntmps198
 go_wp2_with fail
 refine (FC.out _).mono ?_
 rintro e w1 ⟨rfl,hb⟩
 have HB1:=Lib.hid (bTrans (bAlloc (bAlloc (bAlloc (Below.refl w.heap.size w) (.cells #[.int .i64 W, .int .i64 H, .slice ad n cap] 27)) (.cells #[.int .i64 P, .int .i64 Q] 149)) (.cells #[.int .i64 P', .int .i64 Q'] 149)) hb)
 clear hb
 go_wp2_with fail
 go_ret
 exact ⟨ret_int (by rw [E.out]),HB1.out⟩
set_option maxHeartbeats 1600000 in
theorem impl_crowdOf (W H:Int) (ad sa:Option Addr) (n cap d sc i:Nat) (ls:List Nat) (w:World) (hW:1≤W) (hW2:W≤64) (hH:1≤H) (hH2:H≤64) (hn:(n:Int)=W*H) (hn2:n≤256) (hi:i<n) (hls: ∀k,k ∈ ls→k<n) (hd:ls.length=d) (hd2:d≤256) (hr:Rd w sa (flatC W ls)):
   Calls Tryz.prog 195 #[.agg #[.int .i64 W, .int .i64 H, .slice ad n cap], .slice sa d sc, .agg #[.int .i64 ((i:Int) % W), .int .i64 ((i:Int)/W)]] w fun e w'=>e= .returned (.int .i64 (sumW W H i ls))∧Below w.heap.size w w':=by
 have HD:=Lib.hid hd
 have B5:=Lib.hid hn
 have HLS:=Lib.hid hls
 have CW:=Lib.hid (fun (k:Nat) (hk:k<n) (v:World)=>impl_weightOfPair W H ad n cap i k v hW (by omega) hH (by omega) hn hn2 hi hk)
 obtain ⟨P,hP⟩: ∃P,(i:Int) % W=P:=⟨_,rfl⟩
 obtain ⟨Q,hQ⟩: ∃Q,(i:Int)/W=Q:=⟨_,rfl⟩
 rw [hP,hQ] at CW⊢
 have KP:=Lib.hid ((Blk.new w 27 #[.int .i64 W, .int .i64 H, .slice ad n cap]).alloc (.cells #[.int .i64 P, .int .i64 Q] 149))
 have KC:=Lib.hid (Blk.new' (g:=w.heap.size+1) (w:=w.alloc (.cells #[.int .i64 W, .int .i64 H, .slice ad n cap] 27)) 149 #[.int .i64 P, .int .i64 Q] (by simp))
 have HB2:=Lib.hid (bAlloc (bAlloc (Below.refl w.heap.size w) (.cells #[.int .i64 W, .int .i64 H, .slice ad n cap] 27)) (.cells #[.int .i64 P, .int .i64 Q] 149))
 have RD2:=Lib.hid ((hr.alloc (.cells #[.int .i64 W, .int .i64 H, .slice ad n cap] 27)).alloc (.cells #[.int .i64 P, .int .i64 Q] 149))
 clear hd hn hls hP hQ hr
 go_enter Tryz.func195,Tryz.ntmps195
 obtain ⟨w2,hw2⟩: ∃w2,w2=(w.alloc (.cells #[.int .i64 W, .int .i64 H, .slice ad n cap] 27)).alloc (.cells #[.int .i64 P, .int .i64 Q] 149):=⟨_,rfl⟩
 rw [←hw2] at KP KC HB2 RD2
 go_wp2_with fail
 rw [←hw2]
 clear hw2
 go_loopw [7,12] (fun s j wr=> ∃k:Nat,k≤d∧j= .int .i64 k∧s= .int .i64 (sumW W H i (ls.take k))∧Below w2.heap.size w2 wr) (fun _ j _=>d - (intOf j).toNat)
 case atStart=>exact ⟨0,Nat.zero_le _,rfl,rfl,Below.refl _ _⟩
 case round=>
   obtain ⟨k,hk,rfl,rfl,hwr⟩:=hrel
   have HWr:=Lib.hid hwr
   have KPr:=Lib.hid (KP.out.below' hwr)
   have KCr:=Lib.hid (KC.out.below' hwr)
   have RDr:=Lib.hid (RD2.out.below hwr)
   clear hwr
   by_cases hlt:k<d
   · obtain ⟨l0,o0,o1,o2⟩:=KPr.out.c3
     have hm:ls.getD k 0<n:=HLS.out _ (by have:=HD.out;simp [List.getD,List.getElem?_eq_getElem (show k<ls.length by omega)])
     have ET:=Lib.hid (sumW_take (W:=W) (H:=H) i (ls:=ls) (k:=k) (by have:=HD.out;omega))
     obtain ⟨ba,oa,hae,hal,g1,g2⟩:=rd_place RDr.out (k:=k) (by have:=HD.out;omega)
     obtain ⟨A,hA⟩: ∃A,ls.getD k 0=A:=⟨_,rfl⟩
     rw [hA] at g1 g2 hm ET
     have FW:=Lib.hid (CW.out A hm)
     obtain ⟨t1,t2⟩:=wt_bd hW hH i A
     have sb:=sumW_bd hW hH i (ls.take k)
     rw [List.length_take] at sb
     obtain ⟨s1,s2⟩:0≤sumW W H i (ls.take k)∧sumW W H i (ls.take k)≤1048576:=⟨sb.1,by have:=sb.2;omega⟩
     obtain ⟨S,hS⟩: ∃S,sumW W H i (ls.take k)=S:=⟨_,rfl⟩
     obtain ⟨T,hT⟩: ∃T,wtG W H i A=T:=⟨_,rfl⟩
     rw [hT] at t1 t2 FW ET
     rw [hS] at s1 s2 ET
     rw [hS]
     obtain ⟨X,hX⟩: ∃X,(A:Int) % W=X:=⟨_,rfl⟩
     obtain ⟨Y,hY⟩: ∃Y,(A:Int)/W=Y:=⟨_,rfl⟩
     rw [hX] at g1 FW
     rw [hY] at g2 FW
     subst hae
     have l9:=KCr.out.lt
     have d0:=KCr.out.cell 0
     have d1:=KCr.out.cell 1
     simp only [List.getElem?_toArray,List.getElem?_cons_zero,List.getElem?_cons_succ] at d0 d1
     clear sb hS hT hX hY hA
     go_wp2_with fail
     refine (FW.out _).mono ?_
     rintro e w3 ⟨rfl,hb⟩
     have HW3:=Lib.hid (bTrans (bAlloc HWr.out _) hb)
     clear hb
     go_wp2_with fail
     go_roundw
     case rel=>exact ⟨k+1,by omega,by go_num,by rw [ET.out],HW3.out⟩
     case measure=>simp [intOf];omega
   · obtain rfl:d=k:=by omega
     go_wp2_with fail
     go_ret
     exact ⟨ret_int (by rw [List.take_of_length_le (by have:=HD.out;omega)]),bTrans HB2.out HWr.out⟩
theorem mirF_no {W H:Int} {xs:List Int} (h: ¬picOk W H xs 255=true):mirrorF W H xs=noPic:=by unfold mirrorF;rw [if_neg h]
theorem mirF_yes {W H:Int} {xs:List Int} {n:Nat} (h:picOk W H xs 255=true) (hn:(n:Int)=W*H):mirrorF W H xs=⟨W,H,gen n (fun j=>xs.getD (mirT W (j:Nat)).toNat 0)⟩:=by
 unfold mirrorF;rw [if_pos h,←hn];rfl
theorem infoInt1:(Tryz.prog.info? 3).map (·.size)=some 1:=by kernel_rfl
theorem wp_copy (w:World) {ops:Array Oper} {rest:List Oper} {o:Oper} {a:Act} {Q:Exit→Act→World→Prop}
   (hgd:o.guard=none) (d s:Operand) (hop:o.op= .call {callee:= .builtin .copy,args:=#[d,s],argTypes:=#[25,25]})
   (g n cap off dLen dCap:Nat) (ad:Addr) (sLen sCap:Nat) (ys zs:List Int) (hd:a.eval d= .slice (some ⟨g,off,none⟩) dLen dCap) (hs:a.eval s= .slice (some ad) sLen sCap)
   (ho:Own w g n cap ys) (hz:zs.length=Nat.min sLen dLen) (hsrc: ∀j,j<zs.length→w.cell? (ad.add j)=some (.int .i64 (zs.getD j 0))) (hfit:off+zs.length≤n)
   (hK: ∀w',Own w' g n cap (splice ys off zs)→w.grownBy w' (some g)→wpList Tryz.prog ops Q rest (a.put o.dst (goInt zs.length)) w'):
   wpList Tryz.prog ops Q (o::rest) a w:=by
 obtain ⟨hl,cur,hg,h1,h2,h3,ht⟩:=ho
 have hlc:cur.toList.length=cap:=by simp [h3]
 refine wpList_copy_own hgd d s 25 25 hop 3 Tryz.underlying25 infoInt1 g off dLen dCap ad sLen sCap hd hs cur 3 hg (zs.map (Value.int .i64)) (by simpa using hz) ?_ (by simp;omega) (ints_oneCell _ _) ?_
 · intro j v hv
   have hj:j<zs.length:=by have:=(List.getElem?_eq_some_iff.1 hv).1;simpa using this
   rw [hsrc j hj,←hv]
   simp [List.getD,hj]
 · rw [List.length_map]
   refine hK _ ⟨?_,_,setRow_heap w g _ _ _ _ hg,h1,h2,?_,?_⟩ ⟨rfl,rfl,rfl,by simp [World.setRow],fun k hk hne=>setRow_other w g k _ (fun e=>hne (by rw [e]))⟩
   · rw [length_splice _ _ _ (by omega)];exact hl
   · simp;omega
   · simp only [List.length_map]
     have e1:cur.toList.take off=(ys.take off).map (Value.int .i64):=by
       rw [List.map_take,←ht,List.take_take,Nat.min_eq_left (by omega)]
     have e2:(cur.toList.drop (off+zs.length)).take (n - (off+zs.length))=(ys.drop (off+zs.length)).map (Value.int .i64):=by
       rw [List.map_drop,←ht,List.drop_take]
     simp only [splice,List.map_append,←e1,←e2]
     rw [List.take_append,List.take_of_length_le (by simp;omega),List.take_append,List.take_of_length_le (l:=List.map _ zs) (by simp;omega)]
     congr 2
     simp only [List.length_take,List.length_map]
     congr 1;omega
theorem splice_all (ys zs:List Int) (h:zs.length=ys.length):splice ys 0 zs=zs:=by
 simp [splice,List.drop_of_length_le (show ys.length≤zs.length by omega)]
set_option maxHeartbeats 400000 in
theorem impl_copyPicture (W H:Int) (ad:Option Addr) (n cap:Nat) (xs:List Int) (w:World) (hn:xs.length=n) (ha:Rd w ad xs) (hs:sizeOk W H=true) (hq:(n:Int)=W*H):
   Calls Tryz.prog 105 #[.agg #[.int .i64 W, .int .i64 H, .slice ad n cap]] w fun e w'=> ∃g,e= .returned (.agg #[.int .i64 W, .int .i64 H, .slice (some ⟨g,0,none⟩) n n])∧w.heap.size≤g∧Own w' g n n xs∧Below w.heap.size w w':=by
 have HN:=Lib.hid hn
 have HA:=Lib.hid ha
 clear hn ha
 obtain ⟨b1,b2,b3,b4,b5,b6⟩:=sizeOk_bd hs
 have HQ:=Lib.hid hq
 have HS:=Lib.hid hs
 have hn1:1≤n:=by omega
 have hn2:n≤1024:=by omega
 clear hq hs
 go_enter Tryz.func105,Tryz.ntmps105
 go_wp2_with fail
 refine (impl_blank W H n _ HS.out HQ.out).mono ?_
 rintro e w2 ⟨g,rfl,hg,ho,hb⟩
 have HB2:=Lib.hid ((Joins.below_alloc2 _ _ _).trans (hb.mono (by simp;omega)))
 have KP2:=Lib.hid (((Blk.new w 27 #[.int .i64 W, .int .i64 H, .slice ad n cap]).alloc _).below' hb)
 have KR2:Hid (Blk w2 (w.heap.size+1) 27 #[.int .i64 0, .int .i64 0, .slice none 0 0]):=by
   have h:=(Blk.new (w.alloc (.cells #[.int .i64 W, .int .i64 H, .slice ad n cap] 27)) 27 #[.int .i64 0, .int .i64 0, .slice none 0 0]).below' hb
   exact Lib.hid (by simpa using h)
 have HO:=Lib.hid ho
 have HG:Hid (w.heap.size+1+1≤g):=Lib.hid (by simpa using hg)
 clear hb ho hg
 obtain ⟨l2,c0,c1,c2⟩:=KP2.out.c3
 obtain ⟨ba,oa,hae,hal,hac⟩:=(HA.out.below HB2.out).at (by have:=HN.out;omega)
 have HAC:=Lib.hid hac
 subst hae
 clear hac
 go_wp2_with (with_reducible refine wp_copy _ rfl (.tmp 10) (.tmp 12) rfl g n n 0 n n ⟨ba,oa,none⟩ n cap (List.replicate n 0) xs rfl rfl ?_ ?_ ?_ ?_ ?_)
 · exact HO.out.alloc _
 · have:=HN.out;simp [this]
 · intro j hj
   have:=HAC.out j hj
   rw [Addr.add_lit]
   go_simp
 · have:=HN.out;omega
 · intro w3 ho3 hg3
   rw [splice_all _ _ (by simp [HN.out])] at ho3
   have HO3:=Lib.hid ho3
   have HB3:=Lib.hid ((bAlloc HB2.out _).grown hg3 (bAlloc HB2.out _).size (by intro k hk;cases hk;have:=HG.out;omega))
   have KR3:=Lib.hid ((KR2.out.alloc _).grown hg3 (by have:=HG.out;simp;omega))
   have KO3:=Lib.hid ((Blk.new w2 27 #[.int .i64 W, .int .i64 H, .slice (some ⟨g,0,none⟩) n n]).grown hg3 (by have:=HO.out.lt;simp;omega))
   obtain ⟨k0,k1,k2,k3⟩:=KO3.out.c3
   obtain ⟨r0,r1,r2,r3⟩:=KR3.out.c3
   obtain ⟨q0,q1,q2⟩:=KR3.out.f3
   clear ho3 hg3 c0 c1 c2
   go_wp2_with fail
   exact bodyPost_ret (v:= .agg #[.int .i64 W, .int .i64 H, .slice (some ⟨g,0,none⟩) n n]) (by simp [results,Tryz.results105,go_sem,r1,r2,r3]) rfl
     ⟨_,rfl,by have:=HG.out;omega,(((HO3.out.other (by have:=HG.out;simp;omega) _).other (by have:=HG.out;simp;omega) _).other (by have:=HG.out;simp;omega) _),
       ((HB3.out.setCell (by simp) _).setCell (by simp) _).setCell (by simp) _⟩
def revK (ys:List Int) (off m k:Nat):List Int:=
 gen ys.length (fun p=>if off≤p∧p<off+m∧(p<off+k∨off+m<p+1+k) then ys.getD (2*off+m - 1 - p) 0 else ys.getD p 0)
theorem revK_len (ys:List Int) (off m k:Nat):(revK ys off m k).length=ys.length:=gen_len _ _
theorem revK_zero (ys:List Int) (off m:Nat):revK ys off m 0=ys:=by
 symm
 refine gen_ext _ _ _ rfl (fun p hp=>?_)
 rw [if_neg (by omega)]
theorem revK_get (ys:List Int) (off m k p:Nat) (hp:p<ys.length):(revK ys off m k).getD p 0=if off≤p∧p<off+m∧(p<off+k∨off+m<p+1+k) then ys.getD (2*off+m - 1 - p) 0 else ys.getD p 0:=gen_get _ _ _ hp
theorem revK_step (ys:List Int) (off m k j:Nat) (h1:off+m≤ys.length) (h2:k+j+1=m) (h3:k<j):
   ((revK ys off m k).set (off+k) ((revK ys off m k).getD (off+j) 0)).set (off+j) ((revK ys off m k).getD (off+k) 0)=revK ys off m (k+1):=by
 refine gen_ext _ _ _ (by simp [revK_len]) (fun p hp=>?_)
 rw [getD_set _ _ _ _ (by simp [revK_len];omega),getD_set _ _ _ _ (by rw [revK_len];omega),revK_get _ _ _ _ (off+k) (by omega),revK_get _ _ _ _ (off+j) (by omega),revK_get _ _ _ _ p hp]
 by_cases e1:off+j=p
 · subst e1
   rw [if_pos rfl,if_neg (by omega),if_pos (by omega)]
   congr 1;omega
 · rw [if_neg e1]
   by_cases e2:off+k=p
   · subst e2
     rw [if_pos rfl,if_neg (by omega),if_pos (by omega)]
     congr 1;omega
   · rw [if_neg e2]
     by_cases c:off≤p∧p<off+m∧(p<off+k∨off+m<p+1+k)
     · rw [if_pos c,if_pos (by omega)]
     · rw [if_neg c,if_neg (by omega)]
set_option maxHeartbeats 800000 in
theorem lib_Reverse (g n cap off m c:Nat) (ys:List Int) (w:World) (ho:Own w g n cap ys) (h1:off+m≤n) (h2:1≤m) (h3:n≤1048576):
   Calls Tryz.prog 106 #[.slice (some ⟨g,off,none⟩) m c] w fun e w'=>e= .returned (.tuple #[])∧(∃k,m≤2*k+1∧k≤m∧Own w' g n cap (revK ys off m k))∧w.grownBy w' (some g):=by
 have HO:=Lib.hid ho
 clear ho
 go_enter Tryz.func106,Tryz.ntmps106
 go_wp2_with fail
 go_loopw [2,3] (fun i j wr=> ∃k q:Nat,k+q+1≤m∧m≤k+q+1∧i= .int .i64 k∧j= .int .i64 q∧Own wr g n cap (revK ys off m k)∧w.grownBy wr (some g)) (fun i _ _=>m - (intOf i).toNat)
 case atStart=>exact ⟨0,m - 1,by omega,by omega,rfl,by go_num,by rw [revK_zero];exact HO.out,grown_refl _ _⟩
 case round=>
   obtain ⟨k,q,hk1,hk2,rfl,rfl,ho,hg⟩:=hrel
   by_cases hlt:k<q
   · have c1:wr.cell? ⟨g,off+k,none⟩=some (.int .i64 ((revK ys off m k).getD (off+k) 0)):=ho.cell (by omega)
     have c2:wr.cell? ⟨g,off+q,none⟩=some (.int .i64 ((revK ys off m k).getD (off+q) 0)):=ho.cell (by omega)
     have f1:wr.frozen? ⟨g,off+k,none⟩=false:=ho.frozen _
     have f2:wr.frozen? ⟨g,off+q,none⟩=false:=ho.frozen _
     have hne:off+k≠off+q:=by omega
     have hs:=(ho.set (off+k) ((revK ys off m k).getD (off+q) 0)).set (off+q) ((revK ys off m k).getD (off+k) 0)
     rw [revK_step ys off m k q (by have:=HO.out.len;omega) (by omega) hlt] at hs
     have HSt:=Lib.hid hs
     have hgs:=grown_set (j:=off+q) (grown_set (j:=off+k) hg (.int .i64 ((revK ys off m k).getD (off+q) 0))) (.int .i64 ((revK ys off m k).getD (off+k) 0))
     have HGs:=Lib.hid hgs
     clear hs ho hgs hg
     go_wp2_with fail
     go_region
     go_wp2_with fail
     go_roundw
     case rel=>exact ⟨k+1,q - 1,by omega,by omega,by go_num,by go_num,(by first | exact HSt.out.drewN 1 | (have h:=HSt.out;simp at h;exact h.drewN 1)),(by first | exact grown_drewN HGs.out 1 | (have h:=HGs.out;simp at h;exact grown_drewN h 1))⟩
     case measure=>simp [intOf];omega
   · go_wp2_with fail
     go_end0
     exact ⟨rfl,⟨k,by omega,by omega,ho⟩,hg⟩
end Go.Proofs.YtanccoopbgamdaaGreatDoor
