/-
  Contracts and plain facts on which the theorem of this claim rests, text 32.
-/
import Derived.Deep.Cut
import Derived.Deep.RegionHeld3
import Derived.Test.YtanccoopbgamdaaGreatDoorDC2
import Derived.Test.YtanccoopbgamdaaGreatDoorDC3
import Derived.Test.YtanccoopbgamdaaGreatDoorDC6
import Derived.Test.YtanccoopbgamdaaGreatDoorDC7
import Derived.Test.YtanccoopbgamdaaGreatDoorDC12
namespace Go.Proofs.YtanccoopbgamdaaGreatDoor
open Go.RowKit
set_option linter.unusedVariables false
set_option linter.unusedSimpArgs false
set_option maxHeartbeats 400000 in
theorem impl_shorterWay (a b n:Int) (w:World) (h1:1≤n) (h2:n≤256) (h3:0≤a) (h4:a≤256) (h5:0≤b) (h6:b≤256):
   Calls Tryz.prog 225 #[.int .i64 a, .int .i64 b, .int .i64 n] w fun e w'=>e= .returned (.int .i64 (wayG (b - a) n))∧w=w':=by
 have b1:=Int.emod_nonneg (b - a) (show n≠0 by omega)
 have b2:=Int.emod_lt_of_pos (b - a) (show 0<n by omega)
 go_enter Tryz.func225,Tryz.ntmps225
 go_wp2_with fail
 refine (impl_remainder _ _ _ h1 (by omega)).mono ?_
 rintro e w2 ⟨rfl,rfl⟩
 go_wp2_with fail
 all_goals (go_ret;exact ⟨ret_int (by unfold wayG;omega),rfl⟩)
theorem place_bd {W H:Int} {n i:Nat} (hW:1≤W) (hW2:W≤256) (hn:(n:Int)=W*H) (hn2:n≤256) (hi:i<n): ∃P Q:Int,(i:Int) % W=P∧(i:Int)/W=Q∧(i:Int).tmod W=P∧(i:Int).tdiv W=Q∧0≤P∧P≤255∧0≤Q∧Q≤255:=by
 refine ⟨_,_,rfl,rfl,Int.tmod_eq_emod_of_nonneg (by omega),Int.tdiv_eq_ediv_of_nonneg (by omega),Int.emod_nonneg _ (by omega),?_,Int.ediv_nonneg (by omega) (by omega),?_⟩
 · have:=Int.emod_lt_of_pos (i:Int) (show 0<W by omega);omega
 · have:=Int.ediv_le_self (b:=W) (show 0≤(i:Int) by omega);omega
set_option maxHeartbeats 800000 in
theorem impl_torusSquare (W H:Int) (n i k:Nat) (w:World) (hW:1≤W) (hW2:W≤256) (hH:1≤H) (hH2:H≤256) (hn:(n:Int)=W*H) (hn2:n≤256) (hi:i<n) (hk:k<n):
   Calls Tryz.prog 213 #[.int .i64 W, .int .i64 H, .agg #[.int .i64 ((i:Int) % W), .int .i64 ((i:Int)/W)], .agg #[.int .i64 ((k:Int) % W), .int .i64 ((k:Int)/W)]] w fun e w'=>e= .returned (.int .i64 (farG W H i k))∧Below w.heap.size w w':=by
 rw [farG_symm hW hH]
 obtain ⟨P,Q,hP,hQ,tP,tQ,p0,p1,q0,q1⟩:=place_bd hW hW2 hn hn2 hi
 obtain ⟨P',Q',hP',hQ',tP',tQ',p0',p1',q0',q1'⟩:=place_bd hW hW2 hn hn2 hk
 have HE:Hid (farG W H k i=wayG (P' - P) W*wayG (P' - P) W+wayG (Q' - Q) H*wayG (Q' - Q) H):=Lib.hid (by unfold farG;rw [hP,hQ,hP',hQ'])
 rw [hP,hQ,hP',hQ']
 obtain ⟨x1,x2⟩:=wayG_bd (d:=P' - P) hW
 obtain ⟨y1,y2⟩:=wayG_bd (d:=Q' - Q) hH
 obtain ⟨X,hX⟩: ∃X,wayG (P' - P) W=X:=⟨_,rfl⟩
 obtain ⟨Y,hY⟩: ∃Y,wayG (Q' - Q) H=Y:=⟨_,rfl⟩
 rw [hX] at x1 x2
 rw [hY] at y1 y2
 have m1:=Int.mul_le_mul x2 x2 x1 (by omega)
 have m2:=Int.mul_le_mul y2 y2 y1 (by omega)
 have m3:=Int.mul_le_mul hW2 hW2 (by omega) (by omega)
 have m4:=Int.mul_le_mul hH2 hH2 (by omega) (by omega)
 have m5:=sq_nn x1
 have m6:=sq_nn y1
 have u7:IntKind.i64.wrap (X*X)=X*X:=IntWalk.i64_in _ (by omega)
 have u8:IntKind.i64.wrap (Y*Y)=Y*Y:=IntWalk.i64_in _ (by omega)
 have u9:IntKind.i64.wrap (X*X+Y*Y)=X*X+Y*Y:=IntWalk.i64_in _ (by omega)
 rw [hX,hY] at HE
 have HX:=Lib.hid hX
 have HY:=Lib.hid hY
 clear hP hQ hP' hQ' tP tQ tP' tQ' hX hY m1 m2 m3 m4 m5 m6 hn hi hk
 go_enter Tryz.func213,Tryz.ntmps213
 go_wp2_with fail
 have ka:=(Blk.new w 149 #[.int .i64 P, .int .i64 Q]).alloc (.cells #[.int .i64 P', .int .i64 Q'] 149)
 have kb:=Blk.new' (g:=w.heap.size+1) (w:=w.alloc (.cells #[.int .i64 P, .int .i64 Q] 149)) 149 #[.int .i64 P', .int .i64 Q'] (by simp)
 have a0:=ka.cell 0
 have a1:=ka.cell 1
 have b0:=kb.cell 0
 have b1:=kb.cell 1
 simp only [List.getElem?_toArray,List.getElem?_cons_zero,List.getElem?_cons_succ] at a0 a1 b0 b1
 go_region_held3 (fun v=>v.cell? ⟨w.heap.size,0,none⟩=some (.int .i64 P)∧v.cell? ⟨w.heap.size,1,none⟩=some (.int .i64 Q)∧v.cell? ⟨w.heap.size+1,0,none⟩=some (.int .i64 P')∧v.cell? ⟨w.heap.size+1,1,none⟩=some (.int .i64 Q'))
   (first | exact ⟨a0,a1,b0,b1⟩)
   (first
     | (go_at_call 225;((with_reducible refine (impl_shorterWay _ _ _ _ (by omega) (by omega) (by omega) (by omega) (by omega) (by omega)).mono ?_);rintro e v1 ⟨rfl,rfl⟩;first | rw [HX.out] | rw [HY.out])))
 all_goals (
   go_wp2_with fail
   go_ret
   exact ⟨ret_int HE.out.symm,((Joins.below_alloc2 w _ _).drew)⟩)
set_option maxHeartbeats 400000 in
theorem impl_IsField (W H:Int) (ad:Option Addr) (n cap:Nat) (xs:List Int) (w:World) (hn:xs.length=n) (ha:Rd w ad xs) (hl:n≤9223372036854775807):
   Calls Tryz.prog 159 #[.agg #[.int .i64 W, .int .i64 H, .slice ad n cap]] w fun e w'=>e= .returned (.bool (fieldOk W H xs))∧Below w.heap.size w w':=by
 have HN:=Lib.hid hn
 have HA:=Lib.hid ha
 clear hn ha
 go_enter Tryz.func159,Tryz.ntmps159
 go_wp2_with fail
 refine (impl_IsPlate _ _ _ _ _ xs _ HN.out (by exact HA.out.alloc _) hl).mono ?_
 rintro e w1 ⟨rfl,hb⟩
 have HB1:=Lib.hid ((Joins.below_alloc1 _ _).trans (hb.mono (by simp)))
 have KP1:=Lib.hid ((Blk.new w 27 #[.int .i64 W, .int .i64 H, .slice ad n cap]).below' hb)
 obtain ⟨l1,c0,c1,c2⟩:=KP1.out.c3
 clear hb
 have E:Hid (fieldOk W H xs=(picOk W H xs 1 && decide (n≤256))):=Lib.hid (by unfold fieldOk;rw [HN.out])
 obtain ⟨P,hP⟩: ∃P,picOk W H xs 1=P:=⟨_,rfl⟩
 rw [hP] at E⊢
 clear hP
 cases P
 · go_wp2_with fail
   go_ret
   exact ⟨ret_bool (by rw [E.out];rfl),HB1.out⟩
 · go_wp2_with fail
   go_ret
   exact ⟨ret_bool (by rw [E.out,Bool.true_and];exact decide_eq_decide.2 (by omega)),HB1.out⟩
theorem far_bd {W H:Int} (hW:1≤W) (hW2:W≤256) (hH:1≤H) (hH2:H≤256) (i k:Nat):0≤farG W H i k∧farG W H i k≤131072:=by
 refine ⟨far_nn hW hH i k,?_⟩
 unfold farG
 obtain ⟨x1,x2⟩:=wayG_bd (d:=(i:Int) % W - (k:Int) % W) hW
 obtain ⟨y1,y2⟩:=wayG_bd (d:=(i:Int)/W - (k:Int)/W) hH
 have m1:=Int.mul_le_mul (show wayG ((i:Int) % W - (k:Int) % W) W≤256 by omega) (show wayG ((i:Int) % W - (k:Int) % W) W≤256 by omega) x1 (by omega)
 have m2:=Int.mul_le_mul (show wayG ((i:Int)/W - (k:Int)/W) H≤256 by omega) (show wayG ((i:Int)/W - (k:Int)/W) H≤256 by omega) y1 (by omega)
 omega
def PlateB (p:Pic):Prop:=p.ink=[]∨(1≤p.W∧p.W≤256∧1≤p.H∧p.H≤256∧(p.ink.length:Int)=p.W*p.H∧p.ink.length≤256)
theorem step_appendC {P:Program} (w:World) {ops:Array Oper} {o:Oper} {a:Act} {K:Act→World→Prop} {Q:Exit→Act→World→Prop} {E:Prop}
   (hgd:o.guard=none) (t e sz bytes:Nat) (ht:P.underlying t=some (.slice e)) (hi0:(P.info? e).map (fun i=>(i.zero,i.size,i.bytes))=some (some (zeros sz),sz,bytes)) (hsz:1≤sz) (hby:bytes≤4096)
   (s x:Operand) (hop:o.op= .call {callee:= .builtin .append,args:=#[s,x],argTypes:=#[t,t]})
   (B n cap:Nat) (ad:Option Addr) (xs:List Int) (hs:a.eval s= .slice ad n cap) (ho:RowA w e sz B ad n cap xs) (g:Nat) (vs:List Int) (hx:a.eval x= .slice (some ⟨g,0,none⟩) 1 1)
   (hv:vs.length=sz) (hc: ∀j,j<sz→w.cell? ⟨g,j,none⟩=some (.int .i64 (vs.getD j 0))) (hn:n≤1048576) (hB:B≤w.heap.size)
   (hK: ∀ad' cap' w',RowA w' e sz B ad' (n+1) cap' (xs++vs)→w.grownBy w' (blockOf ad)→K (a.put o.dst (.slice ad' (n+1) cap')) w'):
   if Region.wanted o (yielded ops a.tmps)=true then Oper.wp P o a w K Q else E:=by
 have hw:Region.wanted o (yielded ops a.tmps)=true:=by simp [Region.wanted,hgd]
 rw [if_pos hw]
 obtain ⟨i,hi,hz0,hz1,hz2⟩:=info_parts hi0
 have m1:(n+1)*bytes≤1048577*4096:=Nat.mul_le_mul (by omega) hby
 refine wp_append_own w s x t hop B e i (zeros sz) sz bytes ht hi hz0 hz1 hz2 (by simp [zeros,Value.cells]) (by omega) _ n (xs.map (Value.int .i64)) hs ho.toRow ⟨g,0,none⟩ 1 1 (vs.map (Value.int .i64)) hx (by simp [hv]) ?_ ?_ (by unfold maxLen;omega) (by omega) hB ?_
 · intro j u hj
   by_cases hjs:j<sz
   · have:=hc j hjs
     rw [List.getElem?_map,List.getElem?_eq_getElem (by omega)] at hj
     simp only [Option.map_some,Option.some.injEq] at hj
     subst hj
     rw [show (Addr.mk g 0 none).add j=⟨g,j,none⟩ by rw [Addr.add_lit];simp,this]
     simp [List.getD,List.getElem?_eq_getElem (show j<vs.length by omega)]
   · rw [List.getElem?_eq_none (by simp;omega)] at hj;cases hj
 · intro u hu
   obtain ⟨x,_,rfl⟩:=List.mem_map.1 hu
   rfl
 · intro v' w' h2 h3 _
   have h4:w'.ownsRow B e sz v' (n+1) ((xs++vs).map (Value.int .i64)):=by simpa using h2
   obtain ⟨ad',cap',rfl,h5⟩:=RowA.ofRow h4
   rw [blockOf_ownT] at h3
   exact hK ad' cap' w' h5 h3
def onesTo (xs:List Int) (k:Nat):List Nat:=(List.range k).filter (fun i=>decide (xs.getD i 0=1))
def flatC (W:Int) (ls:List Nat):List Int:=ls.flatMap (fun (i:Nat)=> [(i:Int) % W,(i:Int)/W])
theorem ones_yes {xs:List Int} {k:Nat} (h:xs.getD k 0=1):onesTo xs (k+1)=onesTo xs k++ [k]:=by
 unfold onesTo
 rw [List.range_succ,List.filter_append]
 simp [List.getD] at h⊢
 simp [h]
theorem ones_no {xs:List Int} {k:Nat} (h: ¬xs.getD k 0=1):onesTo xs (k+1)=onesTo xs k:=by
 unfold onesTo
 rw [List.range_succ,List.filter_append]
 simp [List.getD] at h⊢
 simp [h]
theorem ones_mem {xs:List Int} {k i:Nat}:i ∈ onesTo xs k↔i<k∧xs.getD i 0=1:=by
 unfold onesTo;simp
theorem ones_len (xs:List Int) (k:Nat):(onesTo xs k).length≤k:=by
 unfold onesTo
 have:=List.length_filter_le (fun i=>decide (xs.getD i 0=1)) (List.range k)
 simpa using this
theorem flatC_len (W:Int) (ls:List Nat):(flatC W ls).length=ls.length*2:=by
 induction ls with
 | nil=>rfl
 | cons a r ih=>unfold flatC at ih⊢;simp only [List.flatMap_cons,List.length_append,ih];simp;omega
theorem flatC_snoc (W:Int) (ls:List Nat) (k:Nat):flatC W (ls++ [k])=flatC W ls++ [(k:Int) % W,(k:Int)/W]:=by
 unfold flatC;simp
theorem flatC_at (W:Int): ∀(ls:List Nat) (k:Nat),k<ls.length→(flatC W ls).getD (k*2) 0=((ls.getD k 0:Nat):Int) % W∧(flatC W ls).getD (k*2+1) 0=((ls.getD k 0:Nat):Int)/W
 | [],k,h=>by simp at h
 | a::r,0,h=>by simp [flatC]
 | a::r,k+1,h=>by
   have ih:=flatC_at W r k (by simpa using h)
   have e1:(k+1)*2=k*2+1+1:=by omega
   have e2:flatC W (a::r)=(a:Int) % W::(a:Int)/W::flatC W r:=by simp [flatC]
   rw [e2,e1]
   simpa using ih
theorem rd_place {w:World} {ad:Option Addr} {W:Int} {ls:List Nat} (h:Rd w ad (flatC W ls)) {k:Nat} (hk:k<ls.length):
   ∃b off,ad=some ⟨b,off,none⟩∧b<w.heap.size∧w.cell? ⟨b,off+k*2,none⟩=some (.int .i64 (((ls.getD k 0:Nat):Int) % W))∧w.cell? ⟨b,off+k*2+1,none⟩=some (.int .i64 (((ls.getD k 0:Nat):Int)/W)):=by
 have hl:=flatC_len W ls
 obtain ⟨b,off,h1,h2,h3⟩:=h.at (by omega)
 obtain ⟨e1,e2⟩:=flatC_at W ls k hk
 refine ⟨b,off,h1,h2,?_,?_⟩
 · rw [←e1];exact h3 _ (by omega)
 · rw [←e2,Nat.add_assoc];exact h3 _ (by omega)
set_option maxRecDepth 100000 in
set_option maxHeartbeats 3200000 in
theorem impl_dotsOf (W H:Int) (ad:Option Addr) (n cap:Nat) (xs:List Int) (w:World) (hn:xs.length=n) (ha:Rd w ad xs) (hp:PlateB ⟨W,H,xs⟩):
   Calls Tryz.prog 194 #[.agg #[.int .i64 W, .int .i64 H, .slice ad n cap]] w fun e w'=>
     ∃a d c,e= .returned (.slice a d c)∧(onesTo xs n).length=d∧RowA w' 149 2 w.heap.size a d c (flatC W (onesTo xs n))∧Below w.heap.size w w':=by
 have HN:=Lib.hid hn
 have HP:=Lib.hid hp
 have RD2:=Lib.hid (ha.alloc (.cells #[.int .i64 W, .int .i64 H, .slice ad n cap] 27))
 have KM2:=Lib.hid (Blk.new w 27 #[.int .i64 W, .int .i64 H, .slice ad n cap])
 have HB2:=Lib.hid (Joins.below_alloc1 w (.cells #[.int .i64 W, .int .i64 H, .slice ad n cap] 27))
 have nb:n≤256:=by
   rcases hp with h | ⟨h1,h2,h3,h4,h5,h6⟩
   · simp only [] at h;rw [h] at hn;simp at hn;omega
   · simp only [] at h6;omega
 clear hn ha hp
 go_enter Tryz.func194,Tryz.ntmps194
 obtain ⟨w2,hw2⟩: ∃w2,w2=w.alloc (.cells #[.int .i64 W, .int .i64 H, .slice ad n cap] 27):=⟨_,rfl⟩
 have HSZ:Hid (w.heap.size<w2.heap.size):=Lib.hid (by rw [hw2];exact KM2.out.lt)
 rw [←hw2] at RD2 KM2 HB2
 go_wp2_with fail
 rw [←hw2]
 clear hw2
 go_loopw [3,9] (fun r i wr=> ∃(k d cp:Nat) (a:Option Addr),k≤n∧i= .int .i64 k∧r= .slice a d cp∧(onesTo xs k).length=d∧RowA wr 149 2 w2.heap.size a d cp (flatC W (onesTo xs k))∧Below w2.heap.size w2 wr) (fun _ i _=>n - (intOf i).toNat)
 case atStart=>exact ⟨0,0,0,none,Nat.zero_le _,rfl,rfl,rfl,RowA.none _ _ _ _,Below.refl _ _⟩
 case round=>
   obtain ⟨k,d,cp,a,hk,rfl,rfl,hd,ho,hwr⟩:=hrel
   have HD:=Lib.hid hd
   have HO:=Lib.hid ho
   have HWr:=Lib.hid hwr
   have KMr:=Lib.hid (KM2.out.below' hwr)
   have RDr:=Lib.hid (RD2.out.below hwr)
   clear hwr hd ho
   obtain ⟨l0,o0,o1,o2⟩:=KMr.out.c3
   by_cases hlt:k<n
   · obtain ⟨ba,oa,hae,hal,hac⟩:=RDr.out.at (by have:=HN.out;omega)
     subst hae
     have g1:=hac k (by have:=HN.out;omega)
     obtain ⟨V,hV⟩: ∃V,xs.getD k 0=V:=⟨_,rfl⟩
     rw [hV] at g1
     have HV:=Lib.hid hV
     clear hV hac
     by_cases hv1:V=1
     · subst hv1
       obtain ⟨b1,b2,b3,b4,b5,b6⟩:1≤W∧W≤256∧1≤H∧H≤256∧(n:Int)=W*H∧n≤256:=by
         rcases HP.out with h | ⟨h1,h2,h3,h4,h5,h6⟩
         · have:=HN.out;simp only [] at h;rw [h] at this;simp at this;omega
         · have:=HN.out;simp only [] at h5 h6;rw [this] at h5 h6;exact ⟨h1,h2,h3,h4,h5,h6⟩
       have B5:=Lib.hid b5
       obtain ⟨P,Q,hP,hQ,tP,tQ,p0,p1,q0,q1⟩:=place_bd b1 b2 b5 b6 hlt
       clear b5
       have u1:IntKind.i64.wrap P=P:=IntWalk.i64_in _ (by omega)
       have u2:IntKind.i64.wrap Q=Q:=IntWalk.i64_in _ (by omega)
       have z1: ¬W=0:=by omega
       have z2:(W==0)=false:=by simp;omega
       have EQ:Hid (flatC W (onesTo xs (k+1))=flatC W (onesTo xs k)++ [P,Q]):=Lib.hid (by rw [ones_yes HV.out,flatC_snoc,hP,hQ])
       have EL:Hid ((onesTo xs (k+1)).length=d+1):=Lib.hid (by rw [ones_yes HV.out,List.length_append,HD.out];rfl)
       have dle:d≤k:=by rw [←HD.out];exact ones_len _ _
       clear hP hQ
       have SZr:=Lib.hid HWr.out.size
       go_upto_region 6 with fail
       refine wp_region_held_drew (S:=fun v=>v.cell? ⟨w.heap.size,0,none⟩=some (.int .i64 W)) (by kernel_rfl) o0 ?_
       intro hHeld
       refine hTake 0 ?_
       refine hTake 1 ?_
       refine hTake 2 ?_
       refine hTake 3 ?_
       refine hTake 4 ?_
       refine hTake 5 ?_
       refine hTake 6 ?_
       refine hTake 7 ?_
       refine hTake 8 ?_
       refine hTake 9 ?_
       refine hOne 10 (fun K hK=>?_)
       go_simp
       refine hK.out _ _ (by (try dsimp only);exact cell_al o0) (fun hHeld=>?_)
       clear hK K
       refine hOne 11 (fun K hK=>?_)
       refine step_appendC _ rfl 214 149 2 16 Tryz.underlying214 infoCell (by decide) (by decide) (.tmp 16) (.tmp 26) rfl w2.heap.size d cp a (flatC W (onesTo xs k)) rfl ((HO.out.alloc _).drew) _ [P,Q] rfl rfl (fun j hj=>by
         refine ((Blk.new wr 149 #[.int .i64 P, .int .i64 Q]).cell j).trans ?_
         match j,hj with
         | 0,_=>rfl
         | 1,_=>rfl) (by omega) (by have:=SZr.out;simp;omega) ?_
       intro ad3 cp3 w4 ho3 hg3
       have KM4:=((KMr.out.alloc (.cells #[.int .i64 P, .int .i64 Q] 149)).drew).grownS hg3 (fun b hb=>by have:=HO.out.bd b hb;have:=HSZ.out;omega)
       have HB4:=Lib.hid (((HWr.out.alloc SZr.out (.cells #[.int .i64 P, .int .i64 Q] 149)).drew).grown hg3 (by have:=SZr.out;simp;omega) (fun b hb=>(HO.out.bd b hb).1))
       obtain ⟨m0,y0,y1,y2⟩:=KM4.c3
       (try dsimp only)
       refine hK.out _ _ (by (try dsimp only);exact y0) (fun hHeld=>?_)
       clear hK K
       refine hTake 12 ?_
       refine wpAnyH_done (by kernel_rfl) ?_ _
       (try go_simp)
       go_wp2_with fail
       go_roundw
       case rel=>exact ⟨k+1,d+1,cp3,ad3,by omega,by go_num,rfl,EL.out,by rw [EQ.out];exact ho3,HB4.out⟩
       case measure=>simp [intOf];omega
     · have EQ:Hid (onesTo xs (k+1)=onesTo xs k):=Lib.hid (ones_no (fun h=>hv1 (HV.out.symm.trans h)))
       go_wp2_with fail
       go_roundw
       case rel=>exact ⟨k+1,d,cp,a,by omega,by go_num,rfl,by rw [EQ.out];exact HD.out,by rw [EQ.out];exact HO.out,HWr.out⟩
       case measure=>simp [intOf];omega
   · obtain rfl:n=k:=by omega
     go_wp2_with fail
     go_ret
     exact ⟨_,_,_,rfl,HD.out,HO.out.mono HB2.out.size,bTrans HB2.out HWr.out⟩
def sumW (W H:Int) (i:Nat) (ls:List Nat):Int:=isum (ls.map (fun k=>wtG W H i k))
theorem sumW_snoc (W H:Int) (i:Nat) (ls:List Nat) (k:Nat):sumW W H i (ls++ [k])=sumW W H i ls+wtG W H i k:=by
 unfold sumW
 rw [List.map_append,isum_append]
 simp [isum]
theorem sumW_ones (W H:Int) (xs:List Int) (i k:Nat):sumW W H i (onesTo xs k)=crowdTo W H xs i k:=by
 induction k with
 | zero=>rfl
 | succ k ih=>
   unfold crowdTo
   by_cases h:xs.getD k 0=1
   · rw [ones_yes h,sumW_snoc,ih,if_pos h]
   · rw [ones_no h,ih,if_neg h];omega
theorem sumW_bd {W H:Int} (hW:1≤W) (hH:1≤H) (i:Nat) (ls:List Nat):0≤sumW W H i ls∧sumW W H i ls≤4096*ls.length:=by
 induction ls with
 | nil=>exact ⟨Int.le_refl _,by simp [sumW,isum]⟩
 | cons a r ih=>
   have:=wt_bd hW hH i a
   unfold sumW at ih⊢
   simp only [List.map_cons,isum,List.length_cons]
   omega
theorem sumW_take {W H:Int} (i:Nat) {ls:List Nat} {k:Nat} (h:k<ls.length):sumW W H i (ls.take (k+1))=sumW W H i (ls.take k)+wtG W H i (ls.getD k 0):=by
 rw [List.take_succ_eq_append_getElem h,sumW_snoc]
 simp [List.getD,List.getElem?_eq_getElem h]
set_option maxHeartbeats 400000 in
theorem impl_cellOf (W H:Int) (ad:Option Addr) (n cap i:Nat) (w:World) (hW:1≤W) (hW2:W≤256) (hn:(n:Int)=W*H) (hn2:n≤256) (hi:i<n):
   Calls Tryz.prog 196 #[.agg #[.int .i64 W, .int .i64 H, .slice ad n cap], .int .i64 i] w fun e w'=>e= .returned (.agg #[.int .i64 ((i:Int) % W), .int .i64 ((i:Int)/W)])∧Below w.heap.size w w':=by
 obtain ⟨P,Q,hP,hQ,tP,tQ,p0,p1,q0,q1⟩:=place_bd hW hW2 hn hn2 hi
 rw [hP,hQ]
 have u1:IntKind.i64.wrap P=P:=IntWalk.i64_in _ (by omega)
 have u2:IntKind.i64.wrap Q=Q:=IntWalk.i64_in _ (by omega)
 have z1: ¬W=0:=by omega
 have z2:(W==0)=false:=by simp;omega
 have HN:=Lib.hid hn
 clear hn hP hQ
 go_enter Tryz.func196,Tryz.ntmps196
 go_wp2_with fail
 have KP:=Lib.hid ((Blk.new w 27 #[.int .i64 W, .int .i64 H, .slice ad n cap]).alloc (.cells #[.int .i64 0, .int .i64 0] 149))
 have KZ:=Lib.hid (Blk.new' (g:=w.heap.size+1) (w:=w.alloc (.cells #[.int .i64 W, .int .i64 H, .slice ad n cap] 27)) 149 #[.int .i64 0, .int .i64 0] (by simp))
 have HBP:=Lib.hid (bAlloc (bAlloc (Below.refl w.heap.size w) (.cells #[.int .i64 W, .int .i64 H, .slice ad n cap] 27)) (.cells #[.int .i64 0, .int .i64 0] 149))
 obtain ⟨l0,o0,o1,o2⟩:=KP.out.c3
 have r0:=KZ.out.cell 0
 have r1:=KZ.out.cell 1
 have f0:=KZ.out.frozen 0
 have f1:=KZ.out.frozen 1
 simp only [List.getElem?_toArray,List.getElem?_cons_zero,List.getElem?_cons_succ] at r0 r1
 go_region
 all_goals (
   go_wp2_with fail
   exact bodyPost_ret (v:= .agg #[.int .i64 P, .int .i64 Q]) (by simp [results,Tryz.results196,go_sem,r0,r1]) rfl
     ⟨rfl,(bAlloc (bAlloc (Below.refl w.heap.size w) _) _).drew⟩)
set_option maxHeartbeats 800000 in
theorem impl_weightOfPair (W H:Int) (ad:Option Addr) (n cap i k:Nat) (w:World) (hW:1≤W) (hW2:W≤256) (hH:1≤H) (hH2:H≤256) (hn:(n:Int)=W*H) (hn2:n≤256) (hi:i<n) (hk:k<n):
   Calls Tryz.prog 198 #[.agg #[.int .i64 W, .int .i64 H, .slice ad n cap], .agg #[.int .i64 ((i:Int) % W), .int .i64 ((i:Int)/W)], .agg #[.int .i64 ((k:Int) % W), .int .i64 ((k:Int)/W)]] w fun e w'=>e= .returned (.int .i64 (wtG W H i k))∧Below w.heap.size w w':=by
 have E:Hid (wtG W H i k=4096/(1+farG W H i k)):=Lib.hid rfl
 obtain ⟨f0,f1⟩:=far_bd hW hW2 hH hH2 i k
 have FC:=Lib.hid (fun v:World=>impl_torusSquare W H n i k v hW hW2 hH hH2 hn hn2 hi hk)
 obtain ⟨F,hF⟩: ∃F,farG W H i k=F:=⟨_,rfl⟩
 rw [hF] at f0 f1 E FC
 obtain ⟨P,hP⟩: ∃P,(i:Int) % W=P:=⟨_,rfl⟩
 obtain ⟨Q,hQ⟩: ∃Q,(i:Int)/W=Q:=⟨_,rfl⟩
 obtain ⟨P',hP'⟩: ∃P,(k:Int) % W=P:=⟨_,rfl⟩
 obtain ⟨Q',hQ'⟩: ∃Q,(k:Int)/W=Q:=⟨_,rfl⟩
 rw [hP,hQ,hP',hQ'] at FC⊢
 have z1: ¬1+F=0:=by omega
 have z2:(1+F==0)=false:=by simp;omega
 have z3:IntKind.i64.wrap (1+F)=1+F:=IntWalk.i64_in _ (by omega)
 have z4:(4096:Int).tdiv (1+F)=4096/(1+F):=Int.tdiv_eq_ediv_of_nonneg (by omega)
 have z5:0≤4096/(1+F):=Int.ediv_nonneg (by omega) (by omega)
 have z6:4096/(1+F)≤4096:=Int.ediv_le_self _ (by omega)
 clear hn hF hP hQ hP' hQ' hi hk
 go_enter Tryz.func198,Tryz.ntmps198
 go_wp2_with fail
 refine (FC.out _).mono ?_
 rintro e w1 ⟨rfl,hb⟩
 have HB1:=Lib.hid (bTrans (bAlloc (bAlloc (bAlloc (Below.refl w.heap.size w) (.cells #[.int .i64 W, .int .i64 H, .slice ad n cap] 27)) (.cells #[.int .i64 P, .int .i64 Q] 149)) (.cells #[.int .i64 P', .int .i64 Q'] 149)) hb)
 clear hb
 go_wp2_with fail
 go_ret
 exact ⟨ret_int (by rw [E.out]),HB1.out⟩
set_option maxHeartbeats 1600000 in
theorem impl_crowdOf (W H:Int) (ad sa:Option Addr) (n cap d sc i:Nat) (ls:List Nat) (w:World) (hW:1≤W) (hW2:W≤64) (hH:1≤H) (hH2:H≤64) (hn:(n:Int)=W*H) (hn2:n≤256) (hi:i<n) (hls: ∀k,k ∈ ls→k<n) (hd:ls.length=d) (hd2:d≤256) (hr:Rd w sa (flatC W ls)):
   Calls Tryz.prog 195 #[.agg #[.int .i64 W, .int .i64 H, .slice ad n cap], .slice sa d sc, .agg #[.int .i64 ((i:Int) % W), .int .i64 ((i:Int)/W)]] w fun e w'=>e= .returned (.int .i64 (sumW W H i ls))∧Below w.heap.size w w':=by
 have HD:=Lib.hid hd
 have B5:=Lib.hid hn
 have HLS:=Lib.hid hls
 have CW:=Lib.hid (fun (k:Nat) (hk:k<n) (v:World)=>impl_weightOfPair W H ad n cap i k v hW (by omega) hH (by omega) hn hn2 hi hk)
 obtain ⟨P,hP⟩: ∃P,(i:Int) % W=P:=⟨_,rfl⟩
 obtain ⟨Q,hQ⟩: ∃Q,(i:Int)/W=Q:=⟨_,rfl⟩
 rw [hP,hQ] at CW⊢
 have KP:=Lib.hid ((Blk.new w 27 #[.int .i64 W, .int .i64 H, .slice ad n cap]).alloc (.cells #[.int .i64 P, .int .i64 Q] 149))
 have KC:=Lib.hid (Blk.new' (g:=w.heap.size+1) (w:=w.alloc (.cells #[.int .i64 W, .int .i64 H, .slice ad n cap] 27)) 149 #[.int .i64 P, .int .i64 Q] (by simp))
 have HB2:=Lib.hid (bAlloc (bAlloc (Below.refl w.heap.size w) (.cells #[.int .i64 W, .int .i64 H, .slice ad n cap] 27)) (.cells #[.int .i64 P, .int .i64 Q] 149))
 have RD2:=Lib.hid ((hr.alloc (.cells #[.int .i64 W, .int .i64 H, .slice ad n cap] 27)).alloc (.cells #[.int .i64 P, .int .i64 Q] 149))
 clear hd hn hls hP hQ hr
 go_enter Tryz.func195,Tryz.ntmps195
 obtain ⟨w2,hw2⟩: ∃w2,w2=(w.alloc (.cells #[.int .i64 W, .int .i64 H, .slice ad n cap] 27)).alloc (.cells #[.int .i64 P, .int .i64 Q] 149):=⟨_,rfl⟩
 rw [←hw2] at KP KC HB2 RD2
 go_wp2_with fail
 rw [←hw2]
 clear hw2
 go_loopw [7,12] (fun s j wr=> ∃k:Nat,k≤d∧j= .int .i64 k∧s= .int .i64 (sumW W H i (ls.take k))∧Below w2.heap.size w2 wr) (fun _ j _=>d - (intOf j).toNat)
 case atStart=>exact ⟨0,Nat.zero_le _,rfl,rfl,Below.refl _ _⟩
 case round=>
   obtain ⟨k,hk,rfl,rfl,hwr⟩:=hrel
   have HWr:=Lib.hid hwr
   have KPr:=Lib.hid (KP.out.below' hwr)
   have KCr:=Lib.hid (KC.out.below' hwr)
   have RDr:=Lib.hid (RD2.out.below hwr)
   clear hwr
   by_cases hlt:k<d
   · obtain ⟨l0,o0,o1,o2⟩:=KPr.out.c3
     have hm:ls.getD k 0<n:=HLS.out _ (by have:=HD.out;simp [List.getD,List.getElem?_eq_getElem (show k<ls.length by omega)])
     have ET:=Lib.hid (sumW_take (W:=W) (H:=H) i (ls:=ls) (k:=k) (by have:=HD.out;omega))
     obtain ⟨ba,oa,hae,hal,g1,g2⟩:=rd_place RDr.out (k:=k) (by have:=HD.out;omega)
     obtain ⟨A,hA⟩: ∃A,ls.getD k 0=A:=⟨_,rfl⟩
     rw [hA] at g1 g2 hm ET
     have FW:=Lib.hid (CW.out A hm)
     obtain ⟨t1,t2⟩:=wt_bd hW hH i A
     have sb:=sumW_bd hW hH i (ls.take k)
     rw [List.length_take] at sb
     obtain ⟨s1,s2⟩:0≤sumW W H i (ls.take k)∧sumW W H i (ls.take k)≤1048576:=⟨sb.1,by have:=sb.2;omega⟩
     obtain ⟨S,hS⟩: ∃S,sumW W H i (ls.take k)=S:=⟨_,rfl⟩
     obtain ⟨T,hT⟩: ∃T,wtG W H i A=T:=⟨_,rfl⟩
     rw [hT] at t1 t2 FW ET
     rw [hS] at s1 s2 ET
     rw [hS]
     obtain ⟨X,hX⟩: ∃X,(A:Int) % W=X:=⟨_,rfl⟩
     obtain ⟨Y,hY⟩: ∃Y,(A:Int)/W=Y:=⟨_,rfl⟩
     rw [hX] at g1 FW
     rw [hY] at g2 FW
     subst hae
     have l9:=KCr.out.lt
     have d0:=KCr.out.cell 0
     have d1:=KCr.out.cell 1
     simp only [List.getElem?_toArray,List.getElem?_cons_zero,List.getElem?_cons_succ] at d0 d1
     clear sb hS hT hX hY hA
     go_wp2_with fail
     refine (FW.out _).mono ?_
     rintro e w3 ⟨rfl,hb⟩
     have HW3:=Lib.hid (bTrans (bAlloc HWr.out _) hb)
     clear hb
     go_wp2_with fail
     go_roundw
     case rel=>exact ⟨k+1,by omega,by go_num,by rw [ET.out],HW3.out⟩
     case measure=>simp [intOf];omega
   · obtain rfl:d=k:=by omega
     go_wp2_with fail
     go_ret
     exact ⟨ret_int (by rw [List.take_of_length_le (by have:=HD.out;omega)]),bTrans HB2.out HWr.out⟩
theorem mirF_no {W H:Int} {xs:List Int} (h: ¬picOk W H xs 255=true):mirrorF W H xs=noPic:=by unfold mirrorF;rw [if_neg h]
theorem mirF_yes {W H:Int} {xs:List Int} {n:Nat} (h:picOk W H xs 255=true) (hn:(n:Int)=W*H):mirrorF W H xs=⟨W,H,gen n (fun j=>xs.getD (mirT W (j:Nat)).toNat 0)⟩:=by
 unfold mirrorF;rw [if_pos h,←hn];rfl
end Go.Proofs.YtanccoopbgamdaaGreatDoor
