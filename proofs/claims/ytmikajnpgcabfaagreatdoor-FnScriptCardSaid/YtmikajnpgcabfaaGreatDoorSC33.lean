/-
  Contracts and plain facts on which the theorem of this claim rests, text 33.
-/
import Derived.BigRegion
import Derived.Deep.RegionHeld3
import Derived.Laws.CopyOwn
import Derived.Test.YtmikajnpgcabfaaGreatDoorSC5
import Derived.Test.YtmikajnpgcabfaaGreatDoorSC12
import Derived.Test.YtmikajnpgcabfaaGreatDoorSC32
namespace Go.Proofs.YtmikajnpgcabfaaGreatDoor
open Go.RowKit
set_option linter.unusedVariables false
set_option linter.unusedSimpArgs false
def sumW (W H:Int) (i:Nat) (ls:List Nat):Int:=isum (ls.map (fun k=>wtG W H i k))
theorem sumW_snoc (W H:Int) (i:Nat) (ls:List Nat) (k:Nat):sumW W H i (ls++ [k])=sumW W H i ls+wtG W H i k:=by
 unfold sumW
 rw [List.map_append,isum_append]
 simp [isum]
theorem sumW_ones (W H:Int) (xs:List Int) (i k:Nat):sumW W H i (onesTo xs k)=crowdTo W H xs i k:=by
 induction k with
 | zero=>rfl
 | succ k ih=>
   unfold crowdTo
   by_cases h:xs.getD k 0=1
   · rw [ones_yes h,sumW_snoc,ih,if_pos h]
   · rw [ones_no h,ih,if_neg h];omega
theorem sumW_bd {W H:Int} (hW:1≤W) (hH:1≤H) (i:Nat) (ls:List Nat):0≤sumW W H i ls∧sumW W H i ls≤4096*ls.length:=by
 induction ls with
 | nil=>exact ⟨Int.le_refl _,by simp [sumW,isum]⟩
 | cons a r ih=>
   have:=wt_bd hW hH i a
   unfold sumW at ih⊢
   simp only [List.map_cons,isum,List.length_cons]
   omega
theorem sumW_take {W H:Int} (i:Nat) {ls:List Nat} {k:Nat} (h:k<ls.length):sumW W H i (ls.take (k+1))=sumW W H i (ls.take k)+wtG W H i (ls.getD k 0):=by
 rw [List.take_succ_eq_append_getElem h,sumW_snoc]
 simp [List.getD,List.getElem?_eq_getElem h]
set_option maxHeartbeats 400000 in
theorem impl_cellOf (W H:Int) (ad:Option Addr) (n cap i:Nat) (w:World) (hW:1≤W) (hW2:W≤256) (hn:(n:Int)=W*H) (hn2:n≤256) (hi:i<n):
   Calls Tryz.prog 285 #[.agg #[.int .i64 W, .int .i64 H, .slice ad n cap], .int .i64 i] w fun e w'=>e= .returned (.agg #[.int .i64 ((i:Int) % W), .int .i64 ((i:Int)/W)])∧Below w.heap.size w w':=by
 obtain ⟨P,Q,hP,hQ,tP,tQ,p0,p1,q0,q1⟩:=place_bd hW hW2 hn hn2 hi
 rw [hP,hQ]
 have u1:IntKind.i64.wrap P=P:=IntWalk.i64_in _ (by omega)
 have u2:IntKind.i64.wrap Q=Q:=IntWalk.i64_in _ (by omega)
 have z1: ¬W=0:=by omega
 have z2:(W==0)=false:=by simp;omega
 have HN:=Lib.hid hn
 clear hn hP hQ
 go_enter Tryz.func285,Tryz.ntmps285
 go_wp2_with fail
 have KP:=Lib.hid ((Blk.new w 27 #[.int .i64 W, .int .i64 H, .slice ad n cap]).alloc (.cells #[.int .i64 0, .int .i64 0] 191))
 have KZ:=Lib.hid (Blk.new' (g:=w.heap.size+1) (w:=w.alloc (.cells #[.int .i64 W, .int .i64 H, .slice ad n cap] 27)) 191 #[.int .i64 0, .int .i64 0] (by simp))
 have HBP:=Lib.hid (bAlloc (bAlloc (Below.refl w.heap.size w) (.cells #[.int .i64 W, .int .i64 H, .slice ad n cap] 27)) (.cells #[.int .i64 0, .int .i64 0] 191))
 obtain ⟨l0,o0,o1,o2⟩:=KP.out.c3
 have r0:=KZ.out.cell 0
 have r1:=KZ.out.cell 1
 have f0:=KZ.out.frozen 0
 have f1:=KZ.out.frozen 1
 simp only [List.getElem?_toArray,List.getElem?_cons_zero,List.getElem?_cons_succ] at r0 r1
 go_region
 all_goals (
   go_wp2_with fail
   exact bodyPost_ret (v:= .agg #[.int .i64 P, .int .i64 Q]) (by simp [results,Tryz.results285,go_sem,r0,r1]) rfl
     ⟨rfl,(bAlloc (bAlloc (Below.refl w.heap.size w) _) _).drew⟩)
set_option maxHeartbeats 800000 in
theorem impl_weightOfPair (W H:Int) (ad:Option Addr) (n cap i k:Nat) (w:World) (hW:1≤W) (hW2:W≤256) (hH:1≤H) (hH2:H≤256) (hn:(n:Int)=W*H) (hn2:n≤256) (hi:i<n) (hk:k<n):
   Calls Tryz.prog 287 #[.agg #[.int .i64 W, .int .i64 H, .slice ad n cap], .agg #[.int .i64 ((i:Int) % W), .int .i64 ((i:Int)/W)], .agg #[.int .i64 ((k:Int) % W), .int .i64 ((k:Int)/W)]] w fun e w'=>e= .returned (.int .i64 (wtG W H i k))∧Below w.heap.size w w':=by
 have E:Hid (wtG W H i k=4096/(1+farG W H i k)):=Lib.hid rfl
 obtain ⟨f0,f1⟩:=far_bd hW hW2 hH hH2 i k
 have FC:=Lib.hid (fun v:World=>impl_torusSquare W H n i k v hW hW2 hH hH2 hn hn2 hi hk)
 obtain ⟨F,hF⟩: ∃F,farG W H i k=F:=⟨_,rfl⟩
 rw [hF] at f0 f1 E FC
 obtain ⟨P,hP⟩: ∃P,(i:Int) % W=P:=⟨_,rfl⟩
 obtain ⟨Q,hQ⟩: ∃Q,(i:Int)/W=Q:=⟨_,rfl⟩
 obtain ⟨P',hP'⟩: ∃P,(k:Int) % W=P:=⟨_,rfl⟩
 obtain ⟨Q',hQ'⟩: ∃Q,(k:Int)/W=Q:=⟨_,rfl⟩
 rw [hP,hQ,hP',hQ'] at FC⊢
 have z1: ¬1+F=0:=by omega
 have z2:(1+F==0)=false:=by simp;omega
 have z3:IntKind.i64.wrap (1+F)=1+F:=IntWalk.i64_in _ (by omega)
 have z4:(4096:Int).tdiv (1+F)=4096/(1+F):=Int.tdiv_eq_ediv_of_nonneg (by omega)
 have z5:0≤4096/(1+F):=Int.ediv_nonneg (by omega) (by omega)
 have z6:4096/(1+F)≤4096:=Int.ediv_le_self _ (by omega)
 clear hn hF hP hQ hP' hQ' hi hk
 go_enter Tryz.func287,Tryz.ntmps287
 go_wp2_with fail
 refine (FC.out _).mono ?_
 rintro e w1 ⟨rfl,hb⟩
 have HB1:=Lib.hid (bTrans (bAlloc (bAlloc (bAlloc (Below.refl w.heap.size w) (.cells #[.int .i64 W, .int .i64 H, .slice ad n cap] 27)) (.cells #[.int .i64 P, .int .i64 Q] 191)) (.cells #[.int .i64 P', .int .i64 Q'] 191)) hb)
 clear hb
 go_wp2_with fail
 go_ret
 exact ⟨ret_int (by rw [E.out]),HB1.out⟩
set_option maxHeartbeats 1600000 in
theorem impl_crowdOf (W H:Int) (ad sa:Option Addr) (n cap d sc i:Nat) (ls:List Nat) (w:World) (hW:1≤W) (hW2:W≤64) (hH:1≤H) (hH2:H≤64) (hn:(n:Int)=W*H) (hn2:n≤256) (hi:i<n) (hls: ∀k,k ∈ ls→k<n) (hd:ls.length=d) (hd2:d≤256) (hr:Rd w sa (flatC W ls)):
   Calls Tryz.prog 284 #[.agg #[.int .i64 W, .int .i64 H, .slice ad n cap], .slice sa d sc, .agg #[.int .i64 ((i:Int) % W), .int .i64 ((i:Int)/W)]] w fun e w'=>e= .returned (.int .i64 (sumW W H i ls))∧Below w.heap.size w w':=by
 have HD:=Lib.hid hd
 have B5:=Lib.hid hn
 have HLS:=Lib.hid hls
 have CW:=Lib.hid (fun (k:Nat) (hk:k<n) (v:World)=>impl_weightOfPair W H ad n cap i k v hW (by omega) hH (by omega) hn hn2 hi hk)
 obtain ⟨P,hP⟩: ∃P,(i:Int) % W=P:=⟨_,rfl⟩
 obtain ⟨Q,hQ⟩: ∃Q,(i:Int)/W=Q:=⟨_,rfl⟩
 rw [hP,hQ] at CW⊢
 have KP:=Lib.hid ((Blk.new w 27 #[.int .i64 W, .int .i64 H, .slice ad n cap]).alloc (.cells #[.int .i64 P, .int .i64 Q] 191))
 have KC:=Lib.hid (Blk.new' (g:=w.heap.size+1) (w:=w.alloc (.cells #[.int .i64 W, .int .i64 H, .slice ad n cap] 27)) 191 #[.int .i64 P, .int .i64 Q] (by simp))
 have HB2:=Lib.hid (bAlloc (bAlloc (Below.refl w.heap.size w) (.cells #[.int .i64 W, .int .i64 H, .slice ad n cap] 27)) (.cells #[.int .i64 P, .int .i64 Q] 191))
 have RD2:=Lib.hid ((hr.alloc (.cells #[.int .i64 W, .int .i64 H, .slice ad n cap] 27)).alloc (.cells #[.int .i64 P, .int .i64 Q] 191))
 clear hd hn hls hP hQ hr
 go_enter Tryz.func284,Tryz.ntmps284
 obtain ⟨w2,hw2⟩: ∃w2,w2=(w.alloc (.cells #[.int .i64 W, .int .i64 H, .slice ad n cap] 27)).alloc (.cells #[.int .i64 P, .int .i64 Q] 191):=⟨_,rfl⟩
 rw [←hw2] at KP KC HB2 RD2
 go_wp2_with fail
 rw [←hw2]
 clear hw2
 go_loopw [7,12] (fun s j wr=> ∃k:Nat,k≤d∧j= .int .i64 k∧s= .int .i64 (sumW W H i (ls.take k))∧Below w2.heap.size w2 wr) (fun _ j _=>d - (intOf j).toNat)
 case atStart=>exact ⟨0,Nat.zero_le _,rfl,rfl,Below.refl _ _⟩
 case round=>
   obtain ⟨k,hk,rfl,rfl,hwr⟩:=hrel
   have HWr:=Lib.hid hwr
   have KPr:=Lib.hid (KP.out.below' hwr)
   have KCr:=Lib.hid (KC.out.below' hwr)
   have RDr:=Lib.hid (RD2.out.below hwr)
   clear hwr
   by_cases hlt:k<d
   · obtain ⟨l0,o0,o1,o2⟩:=KPr.out.c3
     have hm:ls.getD k 0<n:=HLS.out _ (by have:=HD.out;simp [List.getD,List.getElem?_eq_getElem (show k<ls.length by omega)])
     have ET:=Lib.hid (sumW_take (W:=W) (H:=H) i (ls:=ls) (k:=k) (by have:=HD.out;omega))
     obtain ⟨ba,oa,hae,hal,g1,g2⟩:=rd_place RDr.out (k:=k) (by have:=HD.out;omega)
     obtain ⟨A,hA⟩: ∃A,ls.getD k 0=A:=⟨_,rfl⟩
     rw [hA] at g1 g2 hm ET
     have FW:=Lib.hid (CW.out A hm)
     obtain ⟨t1,t2⟩:=wt_bd hW hH i A
     have sb:=sumW_bd hW hH i (ls.take k)
     rw [List.length_take] at sb
     obtain ⟨s1,s2⟩:0≤sumW W H i (ls.take k)∧sumW W H i (ls.take k)≤1048576:=⟨sb.1,by have:=sb.2;omega⟩
     obtain ⟨S,hS⟩: ∃S,sumW W H i (ls.take k)=S:=⟨_,rfl⟩
     obtain ⟨T,hT⟩: ∃T,wtG W H i A=T:=⟨_,rfl⟩
     rw [hT] at t1 t2 FW ET
     rw [hS] at s1 s2 ET
     rw [hS]
     obtain ⟨X,hX⟩: ∃X,(A:Int) % W=X:=⟨_,rfl⟩
     obtain ⟨Y,hY⟩: ∃Y,(A:Int)/W=Y:=⟨_,rfl⟩
     rw [hX] at g1 FW
     rw [hY] at g2 FW
     subst hae
     have l9:=KCr.out.lt
     have d0:=KCr.out.cell 0
     have d1:=KCr.out.cell 1
     simp only [List.getElem?_toArray,List.getElem?_cons_zero,List.getElem?_cons_succ] at d0 d1
     clear sb hS hT hX hY hA
     go_wp2_with fail
     refine (FW.out _).mono ?_
     rintro e w3 ⟨rfl,hb⟩
     have HW3:=Lib.hid (bTrans (bAlloc HWr.out _) hb)
     clear hb
     go_wp2_with fail
     go_roundw
     case rel=>exact ⟨k+1,by omega,by go_num,by rw [ET.out],HW3.out⟩
     case measure=>simp [intOf];omega
   · obtain rfl:d=k:=by omega
     go_wp2_with fail
     go_ret
     exact ⟨ret_int (by rw [List.take_of_length_le (by have:=HD.out;omega)]),bTrans HB2.out HWr.out⟩
theorem mirF_no {W H:Int} {xs:List Int} (h: ¬picOk W H xs 255=true):mirrorF W H xs=noPic:=by unfold mirrorF;rw [if_neg h]
theorem mirF_yes {W H:Int} {xs:List Int} {n:Nat} (h:picOk W H xs 255=true) (hn:(n:Int)=W*H):mirrorF W H xs=⟨W,H,gen n (fun j=>xs.getD (mirT W (j:Nat)).toNat 0)⟩:=by
 unfold mirrorF;rw [if_pos h,←hn];rfl
theorem infoInt1:(Tryz.prog.info? 3).map (·.size)=some 1:=by kernel_rfl
theorem wp_copy (w:World) {ops:Array Oper} {rest:List Oper} {o:Oper} {a:Act} {Q:Exit→Act→World→Prop}
   (hgd:o.guard=none) (d s:Operand) (hop:o.op= .call {callee:= .builtin .copy,args:=#[d,s],argTypes:=#[25,25]})
   (g n cap off dLen dCap:Nat) (ad:Addr) (sLen sCap:Nat) (ys zs:List Int) (hd:a.eval d= .slice (some ⟨g,off,none⟩) dLen dCap) (hs:a.eval s= .slice (some ad) sLen sCap)
   (ho:Own w g n cap ys) (hz:zs.length=Nat.min sLen dLen) (hsrc: ∀j,j<zs.length→w.cell? (ad.add j)=some (.int .i64 (zs.getD j 0))) (hfit:off+zs.length≤n)
   (hK: ∀w',Own w' g n cap (splice ys off zs)→w.grownBy w' (some g)→wpList Tryz.prog ops Q rest (a.put o.dst (goInt zs.length)) w'):
   wpList Tryz.prog ops Q (o::rest) a w:=by
 obtain ⟨hl,cur,hg,h1,h2,h3,ht⟩:=ho
 have hlc:cur.toList.length=cap:=by simp [h3]
 refine wpList_copy_own hgd d s 25 25 hop 3 Tryz.underlying25 infoInt1 g off dLen dCap ad sLen sCap hd hs cur 3 hg (zs.map (Value.int .i64)) (by simpa using hz) ?_ (by simp;omega) (ints_oneCell _ _) ?_
 · intro j v hv
   have hj:j<zs.length:=by have:=(List.getElem?_eq_some_iff.1 hv).1;simpa using this
   rw [hsrc j hj,←hv]
   simp [List.getD,hj]
 · rw [List.length_map]
   refine hK _ ⟨?_,_,setRow_heap w g _ _ _ _ hg,h1,h2,?_,?_⟩ ⟨rfl,rfl,rfl,by simp [World.setRow],fun k hk hne=>setRow_other w g k _ (fun e=>hne (by rw [e]))⟩
   · rw [length_splice _ _ _ (by omega)];exact hl
   · simp;omega
   · simp only [List.length_map]
     have e1:cur.toList.take off=(ys.take off).map (Value.int .i64):=by
       rw [List.map_take,←ht,List.take_take,Nat.min_eq_left (by omega)]
     have e2:(cur.toList.drop (off+zs.length)).take (n - (off+zs.length))=(ys.drop (off+zs.length)).map (Value.int .i64):=by
       rw [List.map_drop,←ht,List.drop_take]
     simp only [splice,List.map_append,←e1,←e2]
     rw [List.take_append,List.take_of_length_le (by simp;omega),List.take_append,List.take_of_length_le (l:=List.map _ zs) (by simp;omega)]
     congr 2
     simp only [List.length_take,List.length_map]
     congr 1;omega
theorem splice_all (ys zs:List Int) (h:zs.length=ys.length):splice ys 0 zs=zs:=by
 simp [splice,List.drop_of_length_le (show ys.length≤zs.length by omega)]
set_option maxHeartbeats 400000 in
theorem impl_copyPicture (W H:Int) (ad:Option Addr) (n cap:Nat) (xs:List Int) (w:World) (hn:xs.length=n) (ha:Rd w ad xs) (hs:sizeOk W H=true) (hq:(n:Int)=W*H):
   Calls Tryz.prog 179 #[.agg #[.int .i64 W, .int .i64 H, .slice ad n cap]] w fun e w'=> ∃g,e= .returned (.agg #[.int .i64 W, .int .i64 H, .slice (some ⟨g,0,none⟩) n n])∧w.heap.size≤g∧Own w' g n n xs∧Below w.heap.size w w':=by
 have HN:=Lib.hid hn
 have HA:=Lib.hid ha
 clear hn ha
 obtain ⟨b1,b2,b3,b4,b5,b6⟩:=sizeOk_bd hs
 have HQ:=Lib.hid hq
 have HS:=Lib.hid hs
 have hn1:1≤n:=by omega
 have hn2:n≤1024:=by omega
 clear hq hs
 go_enter Tryz.func179,Tryz.ntmps179
 go_wp2_with fail
 refine (impl_blank W H n _ HS.out HQ.out).mono ?_
 rintro e w2 ⟨g,rfl,hg,ho,hb⟩
 have HB2:=Lib.hid ((Joins.below_alloc2 _ _ _).trans (hb.mono (by simp;omega)))
 have KP2:=Lib.hid (((Blk.new w 27 #[.int .i64 W, .int .i64 H, .slice ad n cap]).alloc _).below' hb)
 have KR2:Hid (Blk w2 (w.heap.size+1) 27 #[.int .i64 0, .int .i64 0, .slice none 0 0]):=by
   have h:=(Blk.new (w.alloc (.cells #[.int .i64 W, .int .i64 H, .slice ad n cap] 27)) 27 #[.int .i64 0, .int .i64 0, .slice none 0 0]).below' hb
   exact Lib.hid (by simpa using h)
 have HO:=Lib.hid ho
 have HG:Hid (w.heap.size+1+1≤g):=Lib.hid (by simpa using hg)
 clear hb ho hg
 obtain ⟨l2,c0,c1,c2⟩:=KP2.out.c3
 obtain ⟨ba,oa,hae,hal,hac⟩:=(HA.out.below HB2.out).at (by have:=HN.out;omega)
 have HAC:=Lib.hid hac
 subst hae
 clear hac
 go_wp2_with (with_reducible refine wp_copy _ rfl (.tmp 10) (.tmp 12) rfl g n n 0 n n ⟨ba,oa,none⟩ n cap (List.replicate n 0) xs rfl rfl ?_ ?_ ?_ ?_ ?_)
 · exact HO.out.alloc _
 · have:=HN.out;simp [this]
 · intro j hj
   have:=HAC.out j hj
   rw [Addr.add_lit]
   go_simp
 · have:=HN.out;omega
 · intro w3 ho3 hg3
   rw [splice_all _ _ (by simp [HN.out])] at ho3
   have HO3:=Lib.hid ho3
   have HB3:=Lib.hid ((bAlloc HB2.out _).grown hg3 (bAlloc HB2.out _).size (by intro k hk;cases hk;have:=HG.out;omega))
   have KR3:=Lib.hid ((KR2.out.alloc _).grown hg3 (by have:=HG.out;simp;omega))
   have KO3:=Lib.hid ((Blk.new w2 27 #[.int .i64 W, .int .i64 H, .slice (some ⟨g,0,none⟩) n n]).grown hg3 (by have:=HO.out.lt;simp;omega))
   obtain ⟨k0,k1,k2,k3⟩:=KO3.out.c3
   obtain ⟨r0,r1,r2,r3⟩:=KR3.out.c3
   obtain ⟨q0,q1,q2⟩:=KR3.out.f3
   clear ho3 hg3 c0 c1 c2
   go_wp2_with fail
   exact bodyPost_ret (v:= .agg #[.int .i64 W, .int .i64 H, .slice (some ⟨g,0,none⟩) n n]) (by simp [results,Tryz.results179,go_sem,r1,r2,r3]) rfl
     ⟨_,rfl,by have:=HG.out;omega,(((HO3.out.other (by have:=HG.out;simp;omega) _).other (by have:=HG.out;simp;omega) _).other (by have:=HG.out;simp;omega) _),
       ((HB3.out.setCell (by simp) _).setCell (by simp) _).setCell (by simp) _⟩
def revK (ys:List Int) (off m k:Nat):List Int:=
 gen ys.length (fun p=>if off≤p∧p<off+m∧(p<off+k∨off+m<p+1+k) then ys.getD (2*off+m - 1 - p) 0 else ys.getD p 0)
theorem revK_len (ys:List Int) (off m k:Nat):(revK ys off m k).length=ys.length:=gen_len _ _
theorem revK_zero (ys:List Int) (off m:Nat):revK ys off m 0=ys:=by
 symm
 refine gen_ext _ _ _ rfl (fun p hp=>?_)
 rw [if_neg (by omega)]
theorem revK_get (ys:List Int) (off m k p:Nat) (hp:p<ys.length):(revK ys off m k).getD p 0=if off≤p∧p<off+m∧(p<off+k∨off+m<p+1+k) then ys.getD (2*off+m - 1 - p) 0 else ys.getD p 0:=gen_get _ _ _ hp
theorem revK_step (ys:List Int) (off m k j:Nat) (h1:off+m≤ys.length) (h2:k+j+1=m) (h3:k<j):
   ((revK ys off m k).set (off+k) ((revK ys off m k).getD (off+j) 0)).set (off+j) ((revK ys off m k).getD (off+k) 0)=revK ys off m (k+1):=by
 refine gen_ext _ _ _ (by simp [revK_len]) (fun p hp=>?_)
 rw [getD_set _ _ _ _ (by simp [revK_len];omega),getD_set _ _ _ _ (by rw [revK_len];omega),revK_get _ _ _ _ (off+k) (by omega),revK_get _ _ _ _ (off+j) (by omega),revK_get _ _ _ _ p hp]
 by_cases e1:off+j=p
 · subst e1
   rw [if_pos rfl,if_neg (by omega),if_pos (by omega)]
   congr 1;omega
 · rw [if_neg e1]
   by_cases e2:off+k=p
   · subst e2
     rw [if_pos rfl,if_neg (by omega),if_pos (by omega)]
     congr 1;omega
   · rw [if_neg e2]
     by_cases c:off≤p∧p<off+m∧(p<off+k∨off+m<p+1+k)
     · rw [if_pos c,if_pos (by omega)]
     · rw [if_neg c,if_neg (by omega)]
set_option maxHeartbeats 800000 in
theorem lib_Reverse (g n cap off m c:Nat) (ys:List Int) (w:World) (ho:Own w g n cap ys) (h1:off+m≤n) (h2:1≤m) (h3:n≤1048576):
   Calls Tryz.prog 180 #[.slice (some ⟨g,off,none⟩) m c] w fun e w'=>e= .returned (.tuple #[])∧(∃k,m≤2*k+1∧k≤m∧Own w' g n cap (revK ys off m k))∧w.grownBy w' (some g):=by
 have HO:=Lib.hid ho
 clear ho
 go_enter Tryz.func180,Tryz.ntmps180
 go_wp2_with fail
 go_loopw [2,3] (fun i j wr=> ∃k q:Nat,k+q+1≤m∧m≤k+q+1∧i= .int .i64 k∧j= .int .i64 q∧Own wr g n cap (revK ys off m k)∧w.grownBy wr (some g)) (fun i _ _=>m - (intOf i).toNat)
 case atStart=>exact ⟨0,m - 1,by omega,by omega,rfl,by go_num,by rw [revK_zero];exact HO.out,grown_refl _ _⟩
 case round=>
   obtain ⟨k,q,hk1,hk2,rfl,rfl,ho,hg⟩:=hrel
   by_cases hlt:k<q
   · have c1:wr.cell? ⟨g,off+k,none⟩=some (.int .i64 ((revK ys off m k).getD (off+k) 0)):=ho.cell (by omega)
     have c2:wr.cell? ⟨g,off+q,none⟩=some (.int .i64 ((revK ys off m k).getD (off+q) 0)):=ho.cell (by omega)
     have f1:wr.frozen? ⟨g,off+k,none⟩=false:=ho.frozen _
     have f2:wr.frozen? ⟨g,off+q,none⟩=false:=ho.frozen _
     have hne:off+k≠off+q:=by omega
     have hs:=(ho.set (off+k) ((revK ys off m k).getD (off+q) 0)).set (off+q) ((revK ys off m k).getD (off+k) 0)
     rw [revK_step ys off m k q (by have:=HO.out.len;omega) (by omega) hlt] at hs
     have HSt:=Lib.hid hs
     have hgs:=grown_set (j:=off+q) (grown_set (j:=off+k) hg (.int .i64 ((revK ys off m k).getD (off+q) 0))) (.int .i64 ((revK ys off m k).getD (off+k) 0))
     have HGs:=Lib.hid hgs
     clear hs ho hgs hg
     go_wp2_with fail
     go_region
     go_wp2_with fail
     go_roundw
     case rel=>exact ⟨k+1,q - 1,by omega,by omega,by go_num,by go_num,(by first | exact HSt.out.drewN 1 | (have h:=HSt.out;simp at h;exact h.drewN 1)),(by first | exact grown_drewN HGs.out 1 | (have h:=HGs.out;simp at h;exact grown_drewN h 1))⟩
     case measure=>simp [intOf];omega
   · go_wp2_with fail
     go_end0
     exact ⟨rfl,⟨k,by omega,by omega,ho⟩,hg⟩
end Go.Proofs.YtmikajnpgcabfaaGreatDoor
