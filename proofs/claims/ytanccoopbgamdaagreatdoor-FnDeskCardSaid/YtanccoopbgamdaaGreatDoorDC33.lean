/-
  Contracts and plain facts on which the theorem of this claim rests, text 33.
-/
import Derived.BigRegion
import Derived.Deep.Cut
import Derived.Deep.DeepCutAuto
import Derived.Laws.CopyOwn
import Derived.Test.YtanccoopbgamdaaGreatDoorDC5
import Derived.Test.YtanccoopbgamdaaGreatDoorDC6
import Derived.Test.YtanccoopbgamdaaGreatDoorDC32
namespace Go.Proofs.YtanccoopbgamdaaGreatDoor
open Go.RowKit
set_option linter.unusedVariables false
set_option linter.unusedSimpArgs false
theorem infoInt1:(Tryz.prog.info? 3).map (·.size)=some 1:=by kernel_rfl
theorem wp_copy (w:World) {ops:Array Oper} {rest:List Oper} {o:Oper} {a:Act} {Q:Exit→Act→World→Prop}
   (hgd:o.guard=none) (d s:Operand) (hop:o.op= .call {callee:= .builtin .copy,args:=#[d,s],argTypes:=#[25,25]})
   (g n cap off dLen dCap:Nat) (ad:Addr) (sLen sCap:Nat) (ys zs:List Int) (hd:a.eval d= .slice (some ⟨g,off,none⟩) dLen dCap) (hs:a.eval s= .slice (some ad) sLen sCap)
   (ho:Own w g n cap ys) (hz:zs.length=Nat.min sLen dLen) (hsrc: ∀j,j<zs.length→w.cell? (ad.add j)=some (.int .i64 (zs.getD j 0))) (hfit:off+zs.length≤n)
   (hK: ∀w',Own w' g n cap (splice ys off zs)→w.grownBy w' (some g)→wpList Tryz.prog ops Q rest (a.put o.dst (goInt zs.length)) w'):
   wpList Tryz.prog ops Q (o::rest) a w:=by
 obtain ⟨hl,cur,hg,h1,h2,h3,ht⟩:=ho
 have hlc:cur.toList.length=cap:=by simp [h3]
 refine wpList_copy_own hgd d s 25 25 hop 3 Tryz.underlying25 infoInt1 g off dLen dCap ad sLen sCap hd hs cur 3 hg (zs.map (Value.int .i64)) (by simpa using hz) ?_ (by simp;omega) (ints_oneCell _ _) ?_
 · intro j v hv
   have hj:j<zs.length:=by have:=(List.getElem?_eq_some_iff.1 hv).1;simpa using this
   rw [hsrc j hj,←hv]
   simp [List.getD,hj]
 · rw [List.length_map]
   refine hK _ ⟨?_,_,setRow_heap w g _ _ _ _ hg,h1,h2,?_,?_⟩ ⟨rfl,rfl,rfl,by simp [World.setRow],fun k hk hne=>setRow_other w g k _ (fun e=>hne (by rw [e]))⟩
   · rw [length_splice _ _ _ (by omega)];exact hl
   · simp;omega
   · simp only [List.length_map]
     have e1:cur.toList.take off=(ys.take off).map (Value.int .i64):=by
       rw [List.map_take,←ht,List.take_take,Nat.min_eq_left (by omega)]
     have e2:(cur.toList.drop (off+zs.length)).take (n - (off+zs.length))=(ys.drop (off+zs.length)).map (Value.int .i64):=by
       rw [List.map_drop,←ht,List.drop_take]
     simp only [splice,List.map_append,←e1,←e2]
     rw [List.take_append,List.take_of_length_le (by simp;omega),List.take_append,List.take_of_length_le (l:=List.map _ zs) (by simp;omega)]
     congr 2
     simp only [List.length_take,List.length_map]
     congr 1;omega
theorem splice_all (ys zs:List Int) (h:zs.length=ys.length):splice ys 0 zs=zs:=by
 simp [splice,List.drop_of_length_le (show ys.length≤zs.length by omega)]
set_option maxHeartbeats 400000 in
theorem impl_copyPicture (W H:Int) (ad:Option Addr) (n cap:Nat) (xs:List Int) (w:World) (hn:xs.length=n) (ha:Rd w ad xs) (hs:sizeOk W H=true) (hq:(n:Int)=W*H):
   Calls Tryz.prog 105 #[.agg #[.int .i64 W, .int .i64 H, .slice ad n cap]] w fun e w'=> ∃g,e= .returned (.agg #[.int .i64 W, .int .i64 H, .slice (some ⟨g,0,none⟩) n n])∧w.heap.size≤g∧Own w' g n n xs∧Below w.heap.size w w':=by
 have HN:=Lib.hid hn
 have HA:=Lib.hid ha
 clear hn ha
 obtain ⟨b1,b2,b3,b4,b5,b6⟩:=sizeOk_bd hs
 have HQ:=Lib.hid hq
 have HS:=Lib.hid hs
 have hn1:1≤n:=by omega
 have hn2:n≤1024:=by omega
 clear hq hs
 go_enter Tryz.func105,Tryz.ntmps105
 go_wp2_with fail
 refine (impl_blank W H n _ HS.out HQ.out).mono ?_
 rintro e w2 ⟨g,rfl,hg,ho,hb⟩
 have HB2:=Lib.hid ((Joins.below_alloc2 _ _ _).trans (hb.mono (by simp;omega)))
 have KP2:=Lib.hid (((Blk.new w 27 #[.int .i64 W, .int .i64 H, .slice ad n cap]).alloc _).below' hb)
 have KR2:Hid (Blk w2 (w.heap.size+1) 27 #[.int .i64 0, .int .i64 0, .slice none 0 0]):=by
   have h:=(Blk.new (w.alloc (.cells #[.int .i64 W, .int .i64 H, .slice ad n cap] 27)) 27 #[.int .i64 0, .int .i64 0, .slice none 0 0]).below' hb
   exact Lib.hid (by simpa using h)
 have HO:=Lib.hid ho
 have HG:Hid (w.heap.size+1+1≤g):=Lib.hid (by simpa using hg)
 clear hb ho hg
 obtain ⟨l2,c0,c1,c2⟩:=KP2.out.c3
 obtain ⟨ba,oa,hae,hal,hac⟩:=(HA.out.below HB2.out).at (by have:=HN.out;omega)
 have HAC:=Lib.hid hac
 subst hae
 clear hac
 go_wp2_with (with_reducible refine wp_copy _ rfl (.tmp 10) (.tmp 12) rfl g n n 0 n n ⟨ba,oa,none⟩ n cap (List.replicate n 0) xs rfl rfl ?_ ?_ ?_ ?_ ?_)
 · exact HO.out.alloc _
 · have:=HN.out;simp [this]
 · intro j hj
   have:=HAC.out j hj
   rw [Addr.add_lit]
   go_simp
 · have:=HN.out;omega
 · intro w3 ho3 hg3
   rw [splice_all _ _ (by simp [HN.out])] at ho3
   have HO3:=Lib.hid ho3
   have HB3:=Lib.hid ((bAlloc HB2.out _).grown hg3 (bAlloc HB2.out _).size (by intro k hk;cases hk;have:=HG.out;omega))
   have KR3:=Lib.hid ((KR2.out.alloc _).grown hg3 (by have:=HG.out;simp;omega))
   have KO3:=Lib.hid ((Blk.new w2 27 #[.int .i64 W, .int .i64 H, .slice (some ⟨g,0,none⟩) n n]).grown hg3 (by have:=HO.out.lt;simp;omega))
   obtain ⟨k0,k1,k2,k3⟩:=KO3.out.c3
   obtain ⟨r0,r1,r2,r3⟩:=KR3.out.c3
   obtain ⟨q0,q1,q2⟩:=KR3.out.f3
   clear ho3 hg3 c0 c1 c2
   go_wp2_with fail
   exact bodyPost_ret (v:= .agg #[.int .i64 W, .int .i64 H, .slice (some ⟨g,0,none⟩) n n]) (by simp [results,Tryz.results105,go_sem,r1,r2,r3]) rfl
     ⟨_,rfl,by have:=HG.out;omega,(((HO3.out.other (by have:=HG.out;simp;omega) _).other (by have:=HG.out;simp;omega) _).other (by have:=HG.out;simp;omega) _),
       ((HB3.out.setCell (by simp) _).setCell (by simp) _).setCell (by simp) _⟩
def revK (ys:List Int) (off m k:Nat):List Int:=
 gen ys.length (fun p=>if off≤p∧p<off+m∧(p<off+k∨off+m<p+1+k) then ys.getD (2*off+m - 1 - p) 0 else ys.getD p 0)
theorem revK_len (ys:List Int) (off m k:Nat):(revK ys off m k).length=ys.length:=gen_len _ _
theorem revK_zero (ys:List Int) (off m:Nat):revK ys off m 0=ys:=by
 symm
 refine gen_ext _ _ _ rfl (fun p hp=>?_)
 rw [if_neg (by omega)]
theorem revK_get (ys:List Int) (off m k p:Nat) (hp:p<ys.length):(revK ys off m k).getD p 0=if off≤p∧p<off+m∧(p<off+k∨off+m<p+1+k) then ys.getD (2*off+m - 1 - p) 0 else ys.getD p 0:=gen_get _ _ _ hp
theorem revK_step (ys:List Int) (off m k j:Nat) (h1:off+m≤ys.length) (h2:k+j+1=m) (h3:k<j):
   ((revK ys off m k).set (off+k) ((revK ys off m k).getD (off+j) 0)).set (off+j) ((revK ys off m k).getD (off+k) 0)=revK ys off m (k+1):=by
 refine gen_ext _ _ _ (by simp [revK_len]) (fun p hp=>?_)
 rw [getD_set _ _ _ _ (by simp [revK_len];omega),getD_set _ _ _ _ (by rw [revK_len];omega),revK_get _ _ _ _ (off+k) (by omega),revK_get _ _ _ _ (off+j) (by omega),revK_get _ _ _ _ p hp]
 by_cases e1:off+j=p
 · subst e1
   rw [if_pos rfl,if_neg (by omega),if_pos (by omega)]
   congr 1;omega
 · rw [if_neg e1]
   by_cases e2:off+k=p
   · subst e2
     rw [if_pos rfl,if_neg (by omega),if_pos (by omega)]
     congr 1;omega
   · rw [if_neg e2]
     by_cases c:off≤p∧p<off+m∧(p<off+k∨off+m<p+1+k)
     · rw [if_pos c,if_pos (by omega)]
     · rw [if_neg c,if_neg (by omega)]
set_option maxHeartbeats 800000 in
theorem lib_Reverse (g n cap off m c:Nat) (ys:List Int) (w:World) (ho:Own w g n cap ys) (h1:off+m≤n) (h2:1≤m) (h3:n≤1048576):
   Calls Tryz.prog 106 #[.slice (some ⟨g,off,none⟩) m c] w fun e w'=>e= .returned (.tuple #[])∧(∃k,m≤2*k+1∧k≤m∧Own w' g n cap (revK ys off m k))∧w.grownBy w' (some g):=by
 have HO:=Lib.hid ho
 clear ho
 go_enter Tryz.func106,Tryz.ntmps106
 go_wp2_with fail
 go_loopw [2,3] (fun i j wr=> ∃k q:Nat,k+q+1≤m∧m≤k+q+1∧i= .int .i64 k∧j= .int .i64 q∧Own wr g n cap (revK ys off m k)∧w.grownBy wr (some g)) (fun i _ _=>m - (intOf i).toNat)
 case atStart=>exact ⟨0,m - 1,by omega,by omega,rfl,by go_num,by rw [revK_zero];exact HO.out,grown_refl _ _⟩
 case round=>
   obtain ⟨k,q,hk1,hk2,rfl,rfl,ho,hg⟩:=hrel
   by_cases hlt:k<q
   · have c1:wr.cell? ⟨g,off+k,none⟩=some (.int .i64 ((revK ys off m k).getD (off+k) 0)):=ho.cell (by omega)
     have c2:wr.cell? ⟨g,off+q,none⟩=some (.int .i64 ((revK ys off m k).getD (off+q) 0)):=ho.cell (by omega)
     have f1:wr.frozen? ⟨g,off+k,none⟩=false:=ho.frozen _
     have f2:wr.frozen? ⟨g,off+q,none⟩=false:=ho.frozen _
     have hne:off+k≠off+q:=by omega
     have hs:=(ho.set (off+k) ((revK ys off m k).getD (off+q) 0)).set (off+q) ((revK ys off m k).getD (off+k) 0)
     rw [revK_step ys off m k q (by have:=HO.out.len;omega) (by omega) hlt] at hs
     have HSt:=Lib.hid hs
     have hgs:=grown_set (j:=off+q) (grown_set (j:=off+k) hg (.int .i64 ((revK ys off m k).getD (off+q) 0))) (.int .i64 ((revK ys off m k).getD (off+k) 0))
     have HGs:=Lib.hid hgs
     clear hs ho hgs hg
     go_wp2_with fail
     go_region
     go_wp2_with fail
     go_roundw
     case rel=>exact ⟨k+1,q - 1,by omega,by omega,by go_num,by go_num,(by first | exact HSt.out.drewN 1 | (have h:=HSt.out;simp at h;exact h.drewN 1)),(by first | exact grown_drewN HGs.out 1 | (have h:=HGs.out;simp at h;exact grown_drewN h 1))⟩
     case measure=>simp [intOf];omega
   · go_wp2_with fail
     go_end0
     exact ⟨rfl,⟨k,by omega,by omega,ho⟩,hg⟩
section
variable {P : Program} {ops : Array Oper} {Q : Exit → Act → World → Prop} {md : Region.Mode} {S : World → Prop} {n : Nat}
end
theorem step_make6 (w:World) {ops:Array Oper} {o:Oper} {a:Act} {K:Act→World→Prop} {Q:Exit→Act→World→Prop} {E:Prop}
   (hgd:o.guard=none) (l c:Operand) (hop:o.op=Op.makeSlice 25 l c) (kl kc:IntKind) (n:Nat) (hl:a.eval l= .int kl (n:Int)) (hc:a.eval c= .int kc (n:Int)) (hn:n≤17592186044416)
   (hK: ∀M:Array Value,RowM M n (List.replicate n 0)→K (a.put o.dst (.slice (some ⟨w.heap.size,0,none⟩) n n)) (w.alloc (.cells M 3))):
   if Region.wanted o (yielded ops a.tmps)=true then Oper.wp Tryz.prog o a w K Q else E:=by
 have hw:Region.wanted o (yielded ops a.tmps)=true:=by simp [Region.wanted,hgd]
 rw [if_pos hw]
 obtain ⟨i,hi,hz0,hz1,hz2⟩:=info_parts infoInt
 have hr:=run_make (P:=Tryz.prog) w 25 3 i (.int .i64 0) Tryz.underlying25 hi hz0 kl kc n n (by omega) (Int.le_refl _) (by rw [hz2];omega) (by omega)
 simp only [Int.toNat_natCast,hz1,Nat.mul_one] at hr
 have hm:=RowM.zero n (by unfold maxLen;omega)
 unfold Oper.wp
 simp only [Value.cells] at hr
 simp [execOp,hop,hl,hc,hr,Result.andThen]
 exact hK _ hm
structure Keep6 (S:Nat→Prop) (w w':World):Prop where
 os:w'.os=w.os
 tape:w'.tape=w.tape
 output:w'.output=w.output
 size:w.heap.size≤w'.heap.size
 block: ∀i,i<w.heap.size→ ¬S i→w'.heap[i]? =w.heap[i]?
namespace Keep6
variable {S : Nat → Prop} {w w' w2 : World}
theorem refl (S:Nat→Prop) (w:World):Keep6 S w w:=⟨rfl,rfl,rfl,Nat.le_refl _,fun _ _ _=>rfl⟩
theorem trans (h:Keep6 S w w') (k:Keep6 S w' w2):Keep6 S w w2:=
 ⟨k.os.trans h.os,k.tape.trans h.tape,k.output.trans h.output,Nat.le_trans h.size k.size,fun i hi hs=>(k.block i (Nat.lt_of_lt_of_le hi h.size) hs).trans (h.block i hi hs)⟩
theorem ofBelow (h:Below w.heap.size w w'):Keep6 S w w':=⟨h.os,h.tape,h.output,h.size,fun i hi _=>h.block i hi⟩
theorem below {B:Nat} (h:Keep6 S w w') (hS: ∀i,S i→B≤i) (hB:B≤w.heap.size):Below B w w':=
 ⟨h.os,h.tape,h.output,h.size,fun i hi=>h.block i (by omega) (fun hs=>by have:=hS i hs;omega)⟩
theorem set (h:Keep6 S w w') {a:Addr} (ha:S a.block) (u:Value):Keep6 S w (w'.setCell a u):=
 ⟨h.os,h.tape,h.output,by simpa [World.setCell] using h.size,fun i hi hs=>(Below.heap_setCell w' a u i (fun e=>hs (by rw [e];exact ha))).trans (h.block i hi hs)⟩
theorem alloc (h:Keep6 S w w') (o:Obj):Keep6 S w (w'.alloc o):=h.trans (ofBelow (Joins.below_alloc1 w' o))
theorem drew (h:Keep6 S w w'):Keep6 S w w'.drew:=⟨h.os,h.tape,h.output,h.size,h.block⟩
theorem call (h:Keep6 S w w') (hb:Below w'.heap.size w' w2):Keep6 S w w2:=h.trans (ofBelow hb)
theorem blk {g T:Nat} {cs:Array Value} (h:Keep6 S w w') (hb:Blk w g T cs) (hs: ¬S g):Blk w' g T cs:=hb.of_block (h.block g hb.lt hs)
theorem own {g n cap:Nat} {xs:List Int} (h:Keep6 S w w') (hb:Own w g n cap xs) (hs: ¬S g):Own w' g n cap xs:=hb.of_block (h.block g hb.lt hs)
theorem mono {S2:Nat→Prop} (h:Keep6 S w w') (hs: ∀i,S i→S2 i):Keep6 S2 w w':=⟨h.os,h.tape,h.output,h.size,fun i hi h2=>h.block i hi (fun h3=>h2 (hs i h3))⟩
theorem rd {ad:Option Addr} {xs:List Int} (h:Keep6 S w w') (hr:Rd w ad xs) (hs: ∀a,ad=some a→ ¬S a.block):Rd w' ad xs:=fun k hk=>by
 obtain ⟨b,off,h1,h2,h3⟩:=hr k hk
 exact ⟨b,off,h1,Nat.lt_of_lt_of_le h2 h.size,(World.cell?_of_block (by exact h.block b h2 (hs _ h1))).trans h3⟩
end Keep6
structure FSt (w:World) (B f gi gc:Nat) (W H:Int) (n:Nat) (xs cs:List Int):Prop where
 hf:B≤f
 hi:B≤gi
 hc:B≤gc
 n1:f≠gi
 n2:f≠gc
 n3:gi≠gc
 box:Blk w f 186 #[.int .i64 W, .int .i64 H, .slice (some ⟨gi,0,none⟩) n n, .slice (some ⟨gc,0,none⟩) n n]
 ink:Own w gi n n xs
 crowds:Own w gc n n cs
def Duo (gi gc:Nat) (i:Nat):Prop:=i=gi∨i=gc
namespace FSt
variable {w w' : World} {B f gi gc : Nat} {W H : Int} {n : Nat} {xs cs : List Int}
theorem below (h:FSt w B f gi gc W H n xs cs) (hb:Below w.heap.size w w'):FSt w' B f gi gc W H n xs cs:=
 ⟨h.hf,h.hi,h.hc,h.n1,h.n2,h.n3,h.box.below' hb,h.ink.below hb h.ink.lt,h.crowds.below hb h.crowds.lt⟩
theorem alloc (h:FSt w B f gi gc W H n xs cs) (o:Obj):FSt (w.alloc o) B f gi gc W H n xs cs:=h.below (Joins.below_alloc1 w o)
theorem mono {B2:Nat} (h:FSt w B f gi gc W H n xs cs) (hB:B2≤B):FSt w B2 f gi gc W H n xs cs:=
 ⟨Nat.le_trans hB h.hf,Nat.le_trans hB h.hi,Nat.le_trans hB h.hc,h.n1,h.n2,h.n3,h.box,h.ink,h.crowds⟩
theorem keep {S:Nat→Prop} (h:FSt w B f gi gc W H n xs cs) (hk:Keep6 S w w') (h1: ¬S f) (h2: ¬S gi) (h3: ¬S gc):FSt w' B f gi gc W H n xs cs:=
 ⟨h.hf,h.hi,h.hc,h.n1,h.n2,h.n3,hk.blk h.box h1,hk.own h.ink h2,hk.own h.crowds h3⟩
theorem lts (h:FSt w B f gi gc W H n xs cs):f<w.heap.size∧gi<w.heap.size∧gc<w.heap.size:=⟨h.box.lt,h.ink.lt,h.crowds.lt⟩
theorem cells (h:FSt w B f gi gc W H n xs cs):f<w.heap.size∧w.cell? ⟨f,0,none⟩=some (.int .i64 W)∧w.cell? ⟨f,1,none⟩=some (.int .i64 H)∧w.cell? ⟨f,2,none⟩=some (.slice (some ⟨gi,0,none⟩) n n)∧w.cell? ⟨f,3,none⟩=some (.slice (some ⟨gc,0,none⟩) n n):=
 ⟨h.box.lt,by rw [h.box.cell];rfl,by rw [h.box.cell];rfl,by rw [h.box.cell];rfl,by rw [h.box.cell];rfl⟩
end FSt
set_option maxRecDepth 100000 in
set_option maxHeartbeats 3200000 in
theorem impl_crowded (W H:Int) (ad:Option Addr) (n cap:Nat) (xs:List Int) (w:World) (hn:xs.length=n) (ha:Rd w ad xs) (hok:fieldOk W H xs=true):
   Calls Tryz.prog 160 #[.agg #[.int .i64 W, .int .i64 H, .slice ad n cap]] w fun e w'=> ∃f gi gc,e= .returned (.pointer (some ⟨f,0,none⟩))∧FSt w' w.heap.size f gi gc W H n xs (gen n (crowdG W H xs))∧Below w.heap.size w w':=by
 have HN:=Lib.hid hn
 have HA:=Lib.hid ha
 clear hn ha
 obtain ⟨b1,b2,b3,b4,b5,b6,b7,b8,b9⟩:=field_bd HN.out hok
 have B5:=Lib.hid b5
 have B8:=Lib.hid b8
 have B9:=Lib.hid b9
 clear b5 b8 b9
 clear hok
 go_enter Tryz.func160,Tryz.ntmps160
 go_upto_region 1 with fail
 have KP:=Lib.hid (Blk.new w 27 #[.int .i64 W, .int .i64 H, .slice ad n cap])
 have HB:=Lib.hid (Joins.below_alloc1 w (.cells #[.int .i64 W, .int .i64 H, .slice ad n cap] 27))
 have RP:=Lib.hid (HA.out.alloc (.cells #[.int .i64 W, .int .i64 H, .slice ad n cap] 27))
 obtain ⟨wo,hwo⟩: ∃wo:World,wo=w.alloc (.cells #[.int .i64 W, .int .i64 H, .slice ad n cap] 27):=⟨_,rfl⟩
 have ZO:Hid (wo.heap.size=w.heap.size+1):=Lib.hid (by rw [hwo];simp)
 rw [←hwo] at KP HB RP⊢
 clear hwo
 go_cut [3] (fun s3 wz=> ∃(wx:World) (f gi gc:Nat),wx=wz∧s3= .pointer (some ⟨f,0,none⟩)∧FSt wx wo.heap.size f gi gc W H n xs (List.replicate n 0)∧Below wo.heap.size wo wx)
 case first=>
   obtain ⟨l0,o0,o1,o2⟩:=KP.out.c3
   have MK:Hid (∀v,BelowL wo v→v.cell? ⟨w.heap.size,0,none⟩=some (.int .i64 W)∧v.cell? ⟨w.heap.size,1,none⟩=some (.int .i64 H)∧v.cell? ⟨w.heap.size,2,none⟩=some (.slice ad n cap)∧BelowL wo v):=Lib.hid (fun v hB=>⟨(hB.out.cell l0).trans o0,(hB.out.cell l0).trans o1,(hB.out.cell l0).trans o2,hB⟩)
   refine wp_region_held_drew (S:=fun v=>v.cell? ⟨w.heap.size,0,none⟩=some (.int .i64 W)∧v.cell? ⟨w.heap.size,1,none⟩=some (.int .i64 H)∧v.cell? ⟨w.heap.size,2,none⟩=some (.slice ad n cap)∧BelowL wo v) (by kernel_rfl) (MK.out _ (BelowL.start _)) ?_
   intro hHeld
   have hb0:=limb4 hHeld
   refine hTake 0 ?_
   refine hTake 2 ?_
   refine hTake 3 ?_
   refine hTake 4 ?_
   refine wpAnyH_ready (rs:=[1,5]) (by kernel_rfl) (by simp) ?_
   refine AllReadyH.cons rfl (fun K hK=>?_) (AllReadyH.cons rfl (fun K hK=>?_) AllReadyH.nil)
   · go_simp
     go_at_call 105
     ((with_reducible refine (impl_copyPicture W H ad n cap xs _ HN.out (by exact RP.out.below hb0.out) B9.out B5.out).mono ?_);rintro e v1 ⟨gi,rfl,hgi,hoi,hq1⟩)
     have hb1:=BelowL.call hb0 hq1
     go_wp2_with fail
     refine hK.out _ _ (by (try dsimp only);exact MK.out _ hb1) (fun hHeld=>?_)
     clear hK K
     refine hOne 5 (fun K hK=>?_)
     refine step_make6 _ rfl (.tmp 10) (.tmp 10) rfl .i64 .i64 n rfl rfl (by omega) ?_
     intro M hM
     have hb2:=BelowL.alloc hb1 (.cells M 3)
     refine hK.out _ _ (by (try dsimp only);exact MK.out _ hb2) (fun hHeld=>?_)
     clear hK K
     refine hTake 6 ?_
     refine hOne 7 (fun K hK=>?_)
     go_simp
     have hb3:=BelowL.alloc hb2 (.cells #[.int .i64 W, .int .i64 H, .slice (some ⟨gi,0,none⟩) n n, .slice (some ⟨v1.heap.size,0,none⟩) n n] 186)
     refine hK.out _ _ (by (try dsimp only);exact MK.out _ hb3) (fun hHeld=>?_)
     clear hK K
     refine hTake 8 ?_
     refine wpAnyH_done (by kernel_rfl) ?_ _
     (try go_simp)
     go_wp2_with fail
     go_meet
     have li:=hoi.lt
     have h1:=hb1.le
     refine ⟨_,_,gi,v1.heap.size,rfl,rfl,⟨?_,?_,h1,?_,?_,?_,Blk.new' _ _ (by simp),(hoi.alloc _).alloc _,(hM.own v1).alloc _⟩,hb3.out⟩
     · (try simp);omega
     · exact hgi
     · (try simp);omega
     · (try simp);(try omega)
     · omega
   · refine step_make6 _ rfl (.tmp 10) (.tmp 10) rfl .i64 .i64 n rfl rfl (by omega) ?_
     intro M hM
     have hbS:=BelowL.alloc hb0 (.cells M 3)
     have hb1:BelowL wo (wo.alloc (.cells M 3)).drew:=BelowL.mk (bAlloc (Below.refl wo.heap.size wo) (.cells M 3)).drew
     refine hK.out _ _ (by (try dsimp only);exact MK.out _ hbS) (fun hHeld=>?_)
     clear hK K
     refine hOne 1 (fun K hK=>?_)
     go_simp
     go_at_call 105
     ((with_reducible refine (impl_copyPicture W H ad n cap xs _ HN.out (by exact ((RP.out.alloc (.cells M 3)).drew)) B9.out B5.out).mono ?_);rintro e v1 ⟨gi,rfl,hgi,hoi,hq1⟩)
     have hb2:=BelowL.call hb1 hq1
     go_wp2_with fail
     refine hK.out _ _ (by (try dsimp only);exact MK.out _ hb2) (fun hHeld=>?_)
     clear hK K
     refine hTake 6 ?_
     refine hOne 7 (fun K hK=>?_)
     go_simp
     have hb3:=BelowL.alloc hb2 (.cells #[.int .i64 W, .int .i64 H, .slice (some ⟨gi,0,none⟩) n n, .slice (some ⟨wo.heap.size,0,none⟩) n n] 186)
     refine hK.out _ _ (by (try dsimp only);exact MK.out _ hb3) (fun hHeld=>?_)
     clear hK K
     refine hTake 8 ?_
     refine wpAnyH_done (by kernel_rfl) ?_ _
     (try go_simp)
     go_wp2_with fail
     go_meet
     have li:=hoi.lt
     have h2:=hb2.le
     have zd:(wo.alloc (.cells M 3)).drew.heap.size=wo.heap.size+1:=by show (wo.alloc (.cells M 3)).heap.size=_;simp
     have hm2:=Own.below ((hM.own wo).drewN 1) hq1 (by show wo.heap.size<(wo.alloc (.cells M 3)).drew.heap.size;omega)
     have lm:=hm2.lt
     have hgi2:wo.heap.size+1≤gi:=by rw [←zd];exact hgi
     refine ⟨_,_,gi,wo.heap.size,rfl,rfl,⟨?_,?_,Nat.le_refl _,?_,?_,?_,Blk.new _ _ _,(hoi.alloc _),hm2.alloc _⟩,hb3.out⟩
     · omega
     · omega
     · omega
     · omega
     · omega
 case rest=>
   obtain ⟨wx,f,gi,gc,rfl,rfl,hf,hb⟩:=hcut
   have HF:=Lib.hid hf
   have HWB:=Lib.hid hb
   have KP:=Lib.hid (KP.out.below' hb)
   have RP:=Lib.hid (RP.out.below hb)
   clear hf hb
   obtain ⟨l0,o0,o1,o2⟩:=KP.out.c3
   go_wp2_with fail
   refine (impl_dotsOf W H ad n cap xs _ HN.out (by exact RP.out) (Or.inr ⟨b1,by simp only [];omega,b3,by simp only [];omega,by simp only [];rw [HN.out];exact B5.out,by simp only [];rw [HN.out];exact b6⟩)).mono ?_
   rintro e w3 ⟨sa,d,sc,rfl,hd,ho,hb⟩
   have HD:=Lib.hid hd
   have HFX:Hid (gc<wx.heap.size):=Lib.hid HF.out.lts.2.2
   have HF:=Lib.hid (HF.out.below hb)
   have HWB:=Lib.hid (bTrans HWB.out hb)
   have KP:=Lib.hid (KP.out.below' hb)
   have HBd:Hid (∀a,sa=some a→wx.heap.size≤a.block):=Lib.hid (fun a ha=>(ho.bd a.block (by rw [ha];rfl)).1)
   have RS:=Lib.hid ho.rd
   have CI:=Lib.hid (fun (k:Nat) (hk:k<n) (v:World)=>impl_cellOf W H ad n cap k v b1 (by omega) B5.out b6 hk)
   have CW:=Lib.hid (fun (k:Nat) (hk:k<n) (v:World) hr=>impl_crowdOf W H ad sa n cap d sc k (onesTo xs n) v b1 b2 b3 b4 B5.out b6 hk (fun j hj=>(ones_mem.1 hj).1) HD.out (by have:=ones_len xs n;have:=HD.out;omega) hr)
   have CE:=Lib.hid (fun k=>sumW_ones W H xs k n)
   have CG:Hid (∀k,crowdG W H xs k=crowdTo W H xs k n):=Lib.hid (fun k=>by unfold crowdG;rw [HN.out])
   obtain ⟨ls,hls⟩: ∃ls,onesTo xs n=ls:=⟨_,rfl⟩
   rw [hls] at CW CE RS
   clear hd ho hb hls l0 o0 o1 o2
   obtain ⟨lf,p0,p1,p2,p3⟩:=HF.out.cells
   go_wp2_with fail
   go_loopw [21] (fun i wr=> ∃k:Nat,k≤n∧i= .int .i64 k∧Hid (Own wr gc n n (filled (gen n (crowdG W H xs)) (List.replicate n 0) k))∧Hid (Keep6 (fun i=>i=gc) w3 wr)) (fun i _=>n - (intOf i).toNat)
   case atStart=>exact ⟨0,Nat.zero_le _,rfl,Lib.hid (by rw [filled_zero];exact HF.out.crowds),Lib.hid (Keep6.refl _ _)⟩
   case round=>
     obtain ⟨k,hk,rfl,HO,HK⟩:=hrel
     by_cases hlt:k<n
     · have KPr:=Lib.hid (HK.out.blk KP.out (by have:=HF.out.hc;have:=ZO.out;omega))
       have KFr:=Lib.hid (HK.out.blk HF.out.box HF.out.n2)
       have RSr:=Lib.hid (HK.out.rd RS.out (fun a ha e=>by have:=HBd.out a ha;have:=HFX.out;omega))
       have C1:=Lib.hid (CI.out k hlt)
       have C2:=Lib.hid (CW.out k hlt)
       obtain ⟨P,hP⟩: ∃P,(k:Int) % W=P:=⟨_,rfl⟩
       obtain ⟨Q,hQ⟩: ∃Q,(k:Int)/W=Q:=⟨_,rfl⟩
       rw [hP,hQ] at C1 C2
       have hs:=filled_succ (gen n (crowdG W H xs)) (List.replicate n 0) k _ (by rw [gen_len];exact hlt) (by simp;omega) (gen_get _ _ _ hlt)
       rw [CG.out,←CE.out] at hs
       obtain ⟨C,hC⟩: ∃C,sumW W H k ls=C:=⟨_,rfl⟩
       rw [hC] at hs C2
       have HS:=Lib.hid hs
       clear hs hP hQ hC lf p0 p1 p2 p3
       obtain ⟨l0,o0,o1,o2⟩:=KPr.out.c3
       have lf:=KFr.out.lt
       have p3:wr.cell? ⟨f,3,none⟩=some (.slice (some ⟨gc,0,none⟩) n n):=by rw [KFr.out.cell];rfl
       go_upto_region 6 with fail
       have MK:Hid (∀v,BelowL wr v→v.cell? ⟨w.heap.size,0,none⟩=some (.int .i64 W)∧v.cell? ⟨w.heap.size,1,none⟩=some (.int .i64 H)∧v.cell? ⟨w.heap.size,2,none⟩=some (.slice ad n cap)∧v.cell? ⟨f,3,none⟩=some (.slice (some ⟨gc,0,none⟩) n n)∧BelowL wr v):=Lib.hid (fun v hB=>⟨(hB.out.cell l0).trans o0,(hB.out.cell l0).trans o1,(hB.out.cell l0).trans o2,(hB.out.cell lf).trans p3,hB⟩)
       refine wp_region_T 12 (fun v=>v.cell? ⟨w.heap.size,0,none⟩=some (.int .i64 W)∧v.cell? ⟨w.heap.size,1,none⟩=some (.int .i64 H)∧v.cell? ⟨w.heap.size,2,none⟩=some (.slice ad n cap)∧v.cell? ⟨f,3,none⟩=some (.slice (some ⟨gc,0,none⟩) n n)∧BelowL wr v) (by kernel_rfl) (MK.out _ (BelowL.start _)) ?_
       intro hHeld
       have hb0:=limb5 hHeld
       refine tTake 0 ?_
       refine tTake 1 ?_
       refine tTake 2 ?_
       refine tTake 3 ?_
       refine tTake 4 ?_
       refine tTake 5 ?_
       refine tTake 6 ?_
       refine tTake 7 ?_
       refine tTake 8 ?_
       refine tOne 9 (fun K hK=>?_)
       go_simp
       go_at_call 196
       ((with_reducible refine (C1.out _).mono ?_);rintro e v1 ⟨rfl,hq1⟩)
       have hb1:=BelowL.call hb0 hq1
       go_wp2_with fail
       refine hK.out _ _ (fun _=>by (try dsimp only);exact MK.out _ hb1) (fun hH2=>?_)
       clear hK K hHeld
       have hHeld:=hH2 (by decide)
       refine tOne 10 (fun K hK=>?_)
       go_simp
       go_at_call 195
       ((with_reducible refine (C2.out _ (by exact RSr.out.below hb1.out)).mono ?_);rintro e v2 ⟨rfl,hq2⟩)
       have hb2:=BelowL.call hb1 hq2
       go_wp2_with fail
       refine hK.out _ _ (fun _=>by (try dsimp only);exact MK.out _ hb2) (fun hH3=>?_)
       clear hK K hHeld
       have HOv:=Lib.hid (HO.out.below hb2.out HO.out.lt)
       have HKv:=Lib.hid (HK.out.call hb2.out)
       have h2c:=HOv.out.cell hlt
       have h3c:=HOv.out.frozen k
       have hHeld:=hH3 (by decide)
       refine tTake 11 ?_
       refine tOne 12 (fun K hK=>?_)
       go_simp
       refine hK.out _ _ (fun h=>absurd h (by decide)) (fun hH4=>?_)
       clear hK K hH4 hH3 hH2 hHeld
       refine wpAnyT_done (by kernel_rfl) ?_ _
       (try go_simp)
       go_wp2_with fail
       go_roundw
       case rel=>exact ⟨k+1,by omega,by go_num,Lib.hid (by rw [←HS.out];exact HOv.out.set k C),Lib.hid (HKv.out.set rfl _)⟩
       case measure=>simp [intOf];omega
     · obtain rfl:k=n:=by omega
       have HO2:Hid (Own wr gc k k (gen k (crowdG W H xs))):=Lib.hid (by have h:=HO.out;rwa [filled_at _ _ _ (gen_len _ _) (by simp)] at h)
       have HFr:Hid (FSt wr w.heap.size f gi gc W H k xs (gen k (crowdG W H xs))):=Lib.hid (by
         have h:=HF.out
         have z:=ZO.out
         exact ⟨by have:=h.hf;omega,by have:=h.hi;omega,by have:=h.hc;omega,h.n1,h.n2,h.n3,HK.out.blk h.box h.n2,HK.out.own h.ink h.n3,HO2.out⟩)
       have HBr:Hid (Below w.heap.size w wr):=Lib.hid (by
         have h:=HF.out.hc
         have z:=ZO.out
         exact ((HB.out.trans (HWB.out.mono (by omega)))).trans (HK.out.below (B:=w.heap.size) (fun i hi=>by rw [hi];omega) (by have:=HWB.out.size;omega)))
       go_wp2_with fail
       go_ret
       exact ⟨_,_,_,rfl,HFr.out,HBr.out⟩
end Go.Proofs.YtanccoopbgamdaaGreatDoor
