/-
  Contracts and plain facts on which the theorem of this claim rests, text 10.
-/
import Derived.Deep.Cut
import Derived.Deep.DeepCutAuto
import Derived.Deep.RegionHeld3
import Derived.Test.YtanccoopbgamdaaGreatDoorKC1
import Derived.Test.YtanccoopbgamdaaGreatDoorKC3
import Derived.Test.YtanccoopbgamdaaGreatDoorKC4
import Derived.Test.YtanccoopbgamdaaGreatDoorKC5
import Derived.Test.YtanccoopbgamdaaGreatDoorKC6
import Derived.Test.YtanccoopbgamdaaGreatDoorKC7
import Derived.Test.YtanccoopbgamdaaGreatDoorKC9
namespace Go.Proofs.YtanccoopbgamdaaGreatDoor
open Go.RowKit
set_option linter.unusedVariables false
set_option linter.unusedSimpArgs false
theorem infoInt6:(Tryz.prog.info? 3).map (fun i=>(i.zero,i.size,i.bytes))=some (some (.int .i64 0),1,8):=by kernel_rfl
theorem RowA.toOwn6 {w:World} {B n cap:Nat} {ad:Option Addr} {xs:List Int} (h:RowA w 3 1 B ad n cap xs):OwnA w B ad n cap xs:=by
 rcases h with h | ⟨g,h1,h2,h3,cur,h4,h5,h6,h7,h8⟩
 · exact .inl h
 · exact .inr ⟨g,h1,h2,by omega,cur,h4,h5,h6,by omega,by rw [Nat.mul_one] at h8;exact h8⟩
theorem rowT_empty6 (w:World) (T sz:Nat):RowT (w.alloc (.cells #[] T)) T sz w.heap.size 0 0 []:=⟨by simp,#[],heap_alloc_new w _,Nat.le_refl _,by unfold maxLen;omega,by simp,by simp⟩
theorem wp_clone6 (w:World) {ops:Array Oper} {rest:List Oper} {o:Oper} {a:Act} {Q:Exit→Act→World→Prop}
   (hgd:o.guard=none) (s x:Operand) (hop:o.op= .call {callee:= .builtin .append,args:=#[s,x],argTypes:=#[25,25]})
   (B cap:Nat) (ad:Option Addr) (hs:a.eval s= .slice ad 0 cap) (ho:RowA w 3 1 B ad 0 cap []) (b off m c:Nat) (vs:List Int) (hx:a.eval x= .slice (some ⟨b,off,none⟩) m c)
   (hv:vs.length=m) (hc: ∀j,j<m→w.cell? ⟨b,off+j,none⟩=some (.int .i64 (vs.getD j 0))) (hn:m≤1048576) (hB:B≤w.heap.size)
   (hK: ∀ad' cap' w',RowA w' 3 1 B ad' m cap' vs→w.grownBy w' (blockOf ad)→wpList Tryz.prog ops Q rest (a.put o.dst (.slice ad' m cap')) w'):
   wpList Tryz.prog ops Q (o::rest) a w:=by
 obtain ⟨i,hi,hz0,hz1,hz2⟩:=info_parts infoInt6
 refine wpList_append_own w hgd s x 25 hop B 3 i (.int .i64 0) 1 8 Tryz.underlying25 hi hz0 hz1 hz2 rfl (by omega) _ 0 (([]:List Int).map (Value.int .i64)) hs ho.toRow ⟨b,off,none⟩ m c (vs.map (Value.int .i64)) hx (by simp [hv]) ?_ ?_ (by unfold maxLen;omega) (by rw [Nat.zero_add];omega) hB ?_
 · intro j u hj
   by_cases hjs:j<m
   · have:=hc j hjs
     rw [List.getElem?_map,List.getElem?_eq_getElem (by omega)] at hj
     simp only [Option.map_some,Option.some.injEq] at hj
     subst hj
     rw [show (Addr.mk b off none).add j=⟨b,off+j,none⟩ by rw [Addr.add_lit],this]
     simp [List.getD,List.getElem?_eq_getElem (show j<vs.length by omega)]
   · rw [List.getElem?_eq_none (by simp;omega)] at hj;cases hj
 · intro u hu
   obtain ⟨x,_,rfl⟩:=List.mem_map.1 hu
   rfl
 · intro v' w' h2 h3 _
   rw [Nat.zero_add] at h2
   have h4:w'.ownsRow B 3 1 v' m (vs.map (Value.int .i64)):=by simpa using h2
   obtain ⟨ad',cap',rfl,h5⟩:=RowA.ofRow h4
   rw [blockOf_ownT] at h3
   exact hK ad' cap' w' h5 h3
def CopyOut (w:World) (W H:Int) (n:Nat) (xs:List Int) (e:Ending) (w':World):Prop:=
 ∃a c,e= .returned (.agg #[.int .i64 W, .int .i64 H, .slice a n c])∧OwnA w' w.heap.size a n c xs∧Below w.heap.size w w'
def evenR (W H:Int) (xs:List Int) (m:Int):List Int × Int:=if fieldOk W H xs=true∧0≤m∧m≤64 then ((evenG W H m.toNat xs).1,((evenG W H m.toNat xs).2:Int)) else (xs,0)
theorem evenF_is (W H:Int) (xs:List Int) (m:Int):evenF W H xs m=(⟨W,H,(evenR W H xs m).1⟩,(evenR W H xs m).2):=by
 unfold evenF evenR
 split <;>rfl
def EvenOut (w:World) (W H:Int) (n:Nat) (R:List Int × Int) (e:Ending) (w':World):Prop:=
 ∃a c,e= .returned (.tuple #[.agg #[.int .i64 W, .int .i64 H, .slice a n c], .int .i64 R.2])∧OwnA w' w.heap.size a n c R.1∧Below w.heap.size w w'
def PicOutI (w:World) (R:Pic × Int) (e:Ending) (w':World):Prop:=
 ∃a n c,e= .returned (.tuple #[.agg #[.int .i64 R.1.W, .int .i64 R.1.H, .slice a n c], .int .i64 R.2])∧OwnA w' w.heap.size a n c R.1.ink∧n≤1048576∧Below w.heap.size w w'
theorem EvenOut.out {w:World} {W H m:Int} {n:Nat} {xs:List Int} {e:Ending} {w':World} (h:EvenOut w W H n (evenR W H xs m) e w') (hl:n≤1048576):PicOutI w (evenF W H xs m) e w':=by
 rw [evenF_is]
 obtain ⟨a,c,h1,h2,h3⟩:=h
 exact ⟨a,n,c,h1,h2,hl,h3⟩
set_option maxRecDepth 100000 in
set_option maxHeartbeats 800000 in
theorem clone_ints6 (b off n cap:Nat) (xs:List Int) (w:World) (hn:xs.length=n) (ha:Rd w (some ⟨b,off,none⟩) xs) (hl:n≤1048576):
   Calls Tryz.prog 63 #[.slice (some ⟨b,off,none⟩) n cap] w fun e w'=> ∃a c,e= .returned (.slice a n c)∧OwnA w' w.heap.size a n c xs∧Below w.heap.size w w':=by
 have HN:=Lib.hid hn
 have HA:=Lib.hid ha
 clear hn ha
 have hnil:=fun v:World=>Lib.run_eql_slice_nil (P:=Tryz.prog) v (t:=25) (e:=3) (a:=some ⟨b,off,none⟩) n cap 0 0 Tryz.underlying25
 go_enter Tryz.func63,Tryz.ntmps63
 go_wp2_with (at_builtin;refine wp_clone6 _ rfl (.tmp 5) (.tmp 6) rfl w.heap.size 0 _ rfl (RowA.mk (rowT_empty6 w 3 1) (Nat.le_refl _)) b off n cap xs rfl HN.out (fun j hj=>by
   obtain ⟨b2,o2,h3,h4,h5⟩:=(HA.out.alloc (.cells #[] 3)).at (by have:=HN.out;omega)
   cases h3
   exact h5 j (by have:=HN.out;omega)) hl (by simp) ?_;intro ad2 cap2 w5 ho5 hg5)
 have HB5:=Lib.hid ((Joins.below_alloc1 w (.cells #[] 3)).grown hg5 (by simp) (fun k hk=>by simp [blockOf] at hk;omega))
 have HO5:=Lib.hid ho5.toOwn6
 clear ho5 hg5
 go_ret
 exact ⟨_,_,rfl,HO5.out,HB5.out⟩
set_option maxRecDepth 100000 in
set_option maxHeartbeats 1600000 in
theorem impl_unchanged (W H:Int) (b off n cap:Nat) (xs:List Int) (w:World) (hn:xs.length=n) (ha:Rd w (some ⟨b,off,none⟩) xs) (hl:n≤1048576):
   Calls Tryz.prog 62 #[.agg #[.int .i64 W, .int .i64 H, .slice (some ⟨b,off,none⟩) n cap]] w (CopyOut w W H n xs):=by
 have HN:=Lib.hid hn
 have HA:=Lib.hid ha
 clear hn ha
 go_enter Tryz.func62,Tryz.ntmps62
 go_upto_region 1 with fail
 have KP:=Lib.hid ((Blk.new w 27 #[.int .i64 W, .int .i64 H, .slice (some ⟨b,off,none⟩) n cap]).alloc (.cells #[.int .i64 0, .int .i64 0, .slice none 0 0] 27))
 have KZ:=Lib.hid (Blk.new' (g:=w.heap.size+1) (w:=w.alloc (.cells #[.int .i64 W, .int .i64 H, .slice (some ⟨b,off,none⟩) n cap] 27)) 27 #[.int .i64 0, .int .i64 0, .slice none 0 0] (by simp))
 have HBP:=Lib.hid (bAlloc (bAlloc (Below.refl w.heap.size w) (.cells #[.int .i64 W, .int .i64 H, .slice (some ⟨b,off,none⟩) n cap] 27)) (.cells #[.int .i64 0, .int .i64 0, .slice none 0 0] 27))
 have RP:=Lib.hid ((HA.out.alloc (.cells #[.int .i64 W, .int .i64 H, .slice (some ⟨b,off,none⟩) n cap] 27)).alloc (.cells #[.int .i64 0, .int .i64 0, .slice none 0 0] 27))
 obtain ⟨wo,hwo⟩: ∃wo:World,wo=(w.alloc (.cells #[.int .i64 W, .int .i64 H, .slice (some ⟨b,off,none⟩) n cap] 27)).alloc (.cells #[.int .i64 0, .int .i64 0, .slice none 0 0] 27):=⟨_,rfl⟩
 have ZO:Hid (wo.heap.size=w.heap.size+1+1):=Lib.hid (by rw [hwo];simp)
 rw [←hwo] at KP KZ HBP RP⊢
 clear hwo
 obtain ⟨l0,o0,o1,o2⟩:=KP.out.c3
 have MK:Hid (∀v,BelowL wo v→v.cell? ⟨w.heap.size,0,none⟩=some (.int .i64 W)∧v.cell? ⟨w.heap.size,1,none⟩=some (.int .i64 H)∧v.cell? ⟨w.heap.size,2,none⟩=some (.slice (some ⟨b,off,none⟩) n cap)∧BelowL wo v):=Lib.hid (fun v hB=>⟨(hB.out.cell l0).trans o0,(hB.out.cell l0).trans o1,(hB.out.cell l0).trans o2,hB⟩)
 refine wp_region_T 8 (fun v=>v.cell? ⟨w.heap.size,0,none⟩=some (.int .i64 W)∧v.cell? ⟨w.heap.size,1,none⟩=some (.int .i64 H)∧v.cell? ⟨w.heap.size,2,none⟩=some (.slice (some ⟨b,off,none⟩) n cap)∧BelowL wo v) (by kernel_rfl) (MK.out _ (BelowL.start _)) ?_
 intro hHeld
 have hb0:=limb4 hHeld
 refine tTake 0 ?_
 refine tTake 1 ?_
 refine tTake 2 ?_
 refine tTake 3 ?_
 refine tTake 4 ?_
 refine tTake 5 ?_
 refine tOne 6 (fun K hK=>?_)
 go_simp
 go_at_call 63
 ((with_reducible refine (clone_ints6 b off n cap xs _ HN.out (by exact RP.out.below hb0.out) hl).mono ?_);rintro e v1 ⟨ad2,cap2,rfl,ho5,hq1⟩)
 have hb1:=BelowL.call hb0 hq1
 go_wp2_with fail
 refine hK.out _ _ (fun _=>by (try dsimp only);exact MK.out _ hb1) (fun hH2=>?_)
 clear hK K hHeld
 have HO5:=Lib.hid ho5
 have KZ5:=Lib.hid (KZ.out.below hb1.out KZ.out.lt)
 have HBF:=Lib.hid (bTrans HBP.out hb1.out)
 clear ho5
 obtain ⟨z0,r0,r1,r2⟩:=KZ5.out.c3
 obtain ⟨f0,f1,f2⟩:=KZ5.out.f3
 refine tOne 7 (fun K hK=>?_)
 go_simp
 refine hK.out _ _ (fun _=>by (try dsimp only);exact MK.out _ hb1) (fun hH2=>?_)
 clear hK K
 refine tOne 8 (fun K hK=>?_)
 go_simp
 refine hK.out _ _ (fun h=>absurd h (by decide)) (fun hH2=>?_)
 clear hK K hH2
 refine wpAnyT_done (by kernel_rfl) ?_ _
 (try go_simp)
 go_wp2_with fail
 exact bodyPost_ret (v:= .agg #[.int .i64 W, .int .i64 H, .slice ad2 n cap2]) (by simp [results,Tryz.results62,go_sem,r0,r1,r2]) rfl
   ⟨_,_,rfl,(((HO5.out.other (by simp;(try have:=ZO.out);omega) _).other (by simp;(try have:=ZO.out);omega) _).other (by simp;(try have:=ZO.out);omega) _).mono (by have:=ZO.out;show w.heap.size≤wo.heap.size;omega),
     ((HBF.out.setCell (by first | (simp;done) | (simp;omega)) _).setCell (by first | (simp;done) | (simp;omega)) _).setCell (by first | (simp;done) | (simp;omega)) _⟩
def BelowH (w v:World):Prop:=Hid (Below w.heap.size w v)
namespace BelowH
variable {w v v' : World}
theorem out (h:BelowH w v):Below w.heap.size w v:=Hid.out h
theorem mk (h:Below w.heap.size w v):BelowH w v:=Lib.hid h
theorem start (w:World):BelowH w w.drew:=mk (Below.refl _ _).drew
theorem alloc (h:BelowH w v) (o:Obj):BelowH w (v.alloc o):=mk (bAlloc h.out o)
theorem call (h:BelowH w v) (hq:Below v.heap.size v v'):BelowH w v':=mk (bTrans h.out hq)
theorem le (h:BelowH w v):w.heap.size≤v.heap.size:=h.out.size
theorem set (h:BelowH w v) {a:Addr} (ha:w.heap.size≤a.block) (u:Value):BelowH w (v.setCell a u):=mk (h.out.setCell ha u)
end BelowH
theorem held4 {a b c d:Prop} (h:a∧b∧c∧d):d:=h.2.2.2
theorem infoPicZ:(Tryz.prog.info? 27).map (fun i=>(i.zero,i.size,i.bytes))=some (some (.agg #[.int .i64 0, .int .i64 0, .slice none 0 0]),3,40):=by kernel_rfl
structure AddrD (D:Dsk):Prop where
 p: ∃b off,D.P.a=some ⟨b,off,none⟩
 m: ∃b off,D.M.a=some ⟨b,off,none⟩
 s: ∀k,k<D.ps.length→ ∃b off,(pv D.ps k).a=some ⟨b,off,none⟩
theorem OwnD.keepZ {w w':World} {S:Nat→Prop} {B:Nat} {D:Dsk} (h:OwnD w B D) (hk:KeepT S w w') (hs: ∀b,S b→D.blocks b→False):OwnD w' B D:=
 ⟨hk.ownA h.p (fun b hb e=>hs b e (.inl hb)),hk.ownA h.m (fun b hb e=>hs b e (.inr (.inl hb))),hk.ownV h.s (fun b hb e=>hs b e (.inr (.inr hb))),h.pm,h.ps,h.ms⟩
theorem keep_set7 (w:World) (g:Nat) (a' b' c' d' e' f' h':Value):KeepT (fun i=>i=g) w (((((((w.setCell ⟨g,0,none⟩ a').setCell ⟨g,1,none⟩ b').setCell ⟨g,2,none⟩ c').setCell ⟨g,3,none⟩ d').setCell ⟨g,4,none⟩ e').setCell ⟨g,5,none⟩ f').setCell ⟨g,6,none⟩ h'):=by
 have q: ∀ {u:World} (i:Nat) (v:Value),KeepT (fun i=>i=g) w u→KeepT (fun i=>i=g) w (u.setCell ⟨g,i,none⟩ v):=fun i v k=>KeepT.set (S:=fun i=>i=g) k rfl v
 exact q 6 h' (q 5 f' (q 4 e' (q 3 d' (q 2 c' (q 1 b' (q 0 a' (KeepT.refl _ w)))))))
theorem OwnD.set7 {w:World} {B g:Nat} {D:Dsk} (h:OwnD w B D) (hg: ∀b,D.blocks b→b≠g) (a' b' c' d' e' f' h':Value):
   OwnD (((((((w.setCell ⟨g,0,none⟩ a').setCell ⟨g,1,none⟩ b').setCell ⟨g,2,none⟩ c').setCell ⟨g,3,none⟩ d').setCell ⟨g,4,none⟩ e').setCell ⟨g,5,none⟩ f').setCell ⟨g,6,none⟩ h') B D:=
 h.keepZ (keep_set7 w g a' b' c' d' e' f' h') (fun b e hb=>hg b hb e)
def DeskCut (w0 wx:World) (W H:Int) (n:Nat) (xs:List Int) (mW mH:Int) (ma:Option Addr) (mn mc:Nat) (s:Value):Prop:=
 ∃gb a c,s= .pointer (some ⟨gb,0,none⟩)∧Blk wx gb 43 #[.int .i64 W, .int .i64 H, .slice a n c, .int .i64 mW, .int .i64 mH, .slice ma mn mc, .slice none 0 0]∧w0.heap.size≤gb∧OwnA wx w0.heap.size a n c xs∧(∀b,blockOf a=some b→b≠gb)∧Below w0.heap.size w0 wx
set_option maxRecDepth 100000 in
set_option maxHeartbeats 3200000 in
theorem impl_unchangedDesk (D:Dsk) (w:World) (hr:RdD w D) (hs:SmallD D) (ha:AddrD D):Calls Tryz.prog 39 #[D.val] w (DeskOut w D.dat):=by
 obtain ⟨r1,r2,r3,r4,r5,r6⟩:=hr
 obtain ⟨s1,s2,s3,s4⟩:=hs
 obtain ⟨⟨b1,o1,ha1⟩,⟨b2,o2,ha2⟩,ha3⟩:=ha
 obtain ⟨⟨W,H,pa,pn,pc,xs⟩,⟨mW,mH,ma,mn,mc,ys⟩,a,n,c,ps⟩:=D
 dsimp only at*
 subst ha1 ha2
 have R1:=Lib.hid r1
 have R2:=Lib.hid r2
 have R3:=Lib.hid r3
 have R4:=Lib.hid r4
 have R5:=Lib.hid r5
 have R6:=Lib.hid r6
 have S4:=Lib.hid s4
 have A3:=Lib.hid ha3
 obtain ⟨w0,hw0⟩: ∃x,x=(w.alloc (.cells #[.int .i64 W, .int .i64 H, .slice (some ⟨b1,o1,none⟩) pn pc, .int .i64 mW, .int .i64 mH, .slice (some ⟨b2,o2,none⟩) mn mc, .slice a n c] 43)).alloc (.cells #[.int .i64 0, .int .i64 0, .slice none 0 0, .int .i64 0, .int .i64 0, .slice none 0 0, .slice none 0 0] 43):=⟨_,rfl⟩
 have KA:Hid (Blk w0 w.heap.size 43 #[.int .i64 W, .int .i64 H, .slice (some ⟨b1,o1,none⟩) pn pc, .int .i64 mW, .int .i64 mH, .slice (some ⟨b2,o2,none⟩) mn mc, .slice a n c]):=Lib.hid (by rw [hw0];exact (Blk.new w _ _).alloc _)
 have KR:Hid (Blk w0 (w.heap.size+1) 43 #[.int .i64 0, .int .i64 0, .slice none 0 0, .int .i64 0, .int .i64 0, .slice none 0 0, .slice none 0 0]):=Lib.hid (by rw [hw0];exact Blk.new' _ _ (by simp))
 have HB0:Hid (Below w.heap.size w w0):=Lib.hid (by rw [hw0];exact bAlloc (bAlloc (Below.refl _ _) _) _)
 have HZ0:Hid (w0.heap.size=w.heap.size+2):=Lib.hid (by rw [hw0];simp)
 clear r1 r2 r3 r4 r5 r6 s4 ha3
 show Calls Tryz.prog 39 #[.agg #[.int .i64 W, .int .i64 H, .slice (some ⟨b1,o1,none⟩) pn pc, .int .i64 mW, .int .i64 mH, .slice (some ⟨b2,o2,none⟩) mn mc, .slice a n c]] w _
 go_enter Tryz.func39,Tryz.ntmps39
 go_upto_region 1 with fail
 rw [←hw0]
 clear hw0
 obtain ⟨l0,c0,c1,c2,c3,c4,c5,c6⟩:=KA.out.c7
 go_cut [3] (fun s3 wx=>DeskCut w0 wx W H pn xs mW mH (some ⟨b2,o2,none⟩) mn mc s3)
 case first=>
   have MK:Hid (∀v,BelowL w0 v→v.cell? ⟨w.heap.size,0,none⟩=some (.int .i64 W)∧v.cell? ⟨w.heap.size,1,none⟩=some (.int .i64 H)∧v.cell? ⟨w.heap.size,2,none⟩=some (.slice (some ⟨b1,o1,none⟩) pn pc)∧v.cell? ⟨w.heap.size,3,none⟩=some (.int .i64 mW)∧v.cell? ⟨w.heap.size,4,none⟩=some (.int .i64 mH)∧v.cell? ⟨w.heap.size,5,none⟩=some (.slice (some ⟨b2,o2,none⟩) mn mc)∧BelowL w0 v):=Lib.hid (fun v h=>⟨(h.out.cell l0).trans c0,(h.out.cell l0).trans c1,(h.out.cell l0).trans c2,(h.out.cell l0).trans c3,(h.out.cell l0).trans c4,(h.out.cell l0).trans c5,h⟩)
   clear c0 c1 c2 c3 c4 c5 c6
   have CU:Hid (∀v,BelowL w0 v→Calls Tryz.prog 62 #[.agg #[.int .i64 W, .int .i64 H, .slice (some ⟨b1,o1,none⟩) pn pc]] v (CopyOut v W H pn xs)):=Lib.hid (fun v hv=>impl_unchanged W H b1 o1 pn pc xs v R1.out ((R2.out.below HB0.out).below hv.out) (by omega))
   refine wp_region_held_drew (S:=fun v=>v.cell? ⟨w.heap.size,0,none⟩=some (.int .i64 W)∧v.cell? ⟨w.heap.size,1,none⟩=some (.int .i64 H)∧v.cell? ⟨w.heap.size,2,none⟩=some (.slice (some ⟨b1,o1,none⟩) pn pc)∧v.cell? ⟨w.heap.size,3,none⟩=some (.int .i64 mW)∧v.cell? ⟨w.heap.size,4,none⟩=some (.int .i64 mH)∧v.cell? ⟨w.heap.size,5,none⟩=some (.slice (some ⟨b2,o2,none⟩) mn mc)∧BelowL w0 v) (by kernel_rfl) (MK.out _ (BelowL.start _)) ?_
   intro hHeld
   refine hTake 0 ?_
   refine simpR ?_
   refine hTake 1 ?_
   refine simpR ?_
   refine hTake 3 ?_
   refine simpR ?_
   refine hTake 4 ?_
   refine simpR ?_
   refine wpAnyH_ready (rs:=[2,6]) (by kernel_rfl) (by simp) ?_
   refine AllReadyH.cons rfl (fun K hK=>?_) (AllReadyH.cons rfl (fun K hK=>?_) AllReadyH.nil)
   · go_simp
     go_at_call 62
     ((with_reducible refine (CU.out _ (BelowL.start _)).mono ?_);rintro e v1 ⟨a1,k1,rfl,ho1,hq1⟩)
     have hb1:=BelowL.call (BelowL.start _) hq1
     go_wp2_with fail
     refine hK.out _ _ (by (try dsimp only);exact MK.out _ hb1) (fun hHeld=>?_)
     clear hK K
     refine simpR ?_
     refine hTake 5 ?_
     refine simpR ?_
     refine hOne 6 (fun K hK=>?_)
     go_simp
     have hb2:=BelowL.alloc hb1 (.cells #[.int .i64 0, .int .i64 0, .slice none 0 0, .int .i64 0, .int .i64 0, .slice none 0 0, .slice none 0 0] 43)
     refine hK.out _ _ (by (try dsimp only);exact MK.out _ hb2) (fun hHeld=>?_)
     clear hK K
     refine simpR ?_
     refine hOne 7 (fun K hK=>?_)
     go_simp
     have hb3:=BelowL.alloc hb1 (.cells #[.int .i64 W, .int .i64 H, .slice a1 pn k1, .int .i64 mW, .int .i64 mH, .slice (some ⟨b2,o2,none⟩) mn mc, .slice none 0 0] 43)
     refine hK.out _ _ (by (try dsimp only);exact MK.out _ hb3) (fun hHeld=>?_)
     clear hK K
     refine simpR ?_
     refine wpAnyH_done (by kernel_rfl) ?_ _
     go_wp2_with fail
     go_meet
     exact ⟨v1.heap.size,a1,k1,rfl,Blk.new _ _ _,hb1.le,(ho1.alloc _).mono (Nat.le_refl _),fun b hb e=>by have:=ho1.bd b hb;omega,hb3.out⟩
   · go_simp
     have hb0:BelowL w0 (w0.alloc (.cells #[.int .i64 0, .int .i64 0, .slice none 0 0, .int .i64 0, .int .i64 0, .slice none 0 0, .slice none 0 0] 43)).drew:=BelowL.mk (bAlloc (Below.refl _ _) _).drew
     have kb0:Blk (w0.alloc (.cells #[.int .i64 0, .int .i64 0, .slice none 0 0, .int .i64 0, .int .i64 0, .slice none 0 0, .slice none 0 0] 43)).drew w0.heap.size 43 #[.int .i64 0, .int .i64 0, .slice none 0 0, .int .i64 0, .int .i64 0, .slice none 0 0, .slice none 0 0]:=(Blk.new _ _ _).drew
     refine hK.out _ _ (by (try dsimp only);exact MK.out _ hb0) (fun hHeld=>?_)
     clear hK K
     refine simpR ?_
     refine hOne 2 (fun K hK=>?_)
     go_simp
     go_at_call 62
     ((with_reducible refine (CU.out _ hb0).mono ?_);rintro e v1 ⟨a1,k1,rfl,ho1,hq1⟩)
     have hb1:=BelowL.call hb0 hq1
     have kb1:=kb0.below' hq1
     have hz1:w0.heap.size+1≤v1.heap.size:=by have:=hq1.size;simpa using this
     go_wp2_with fail
     refine hK.out _ _ (by (try dsimp only);exact MK.out _ hb1) (fun hHeld=>?_)
     clear hK K
     refine simpR ?_
     refine hTake 5 ?_
     refine simpR ?_
     obtain ⟨m0,d0,d1,d2,d3,d4,d5,d6⟩:=kb1.c7
     obtain ⟨f0,f1,f2,f3,f4,f5,f6⟩:=kb1.f7
     refine hOne 7 (fun K hK=>?_)
     go_simp
     have hb3:BelowL w0 _:=BelowL.mk (below_set7 hb1.out (Nat.le_refl w0.heap.size) (.int .i64 W) (.int .i64 H) (.slice a1 pn k1) (.int .i64 mW) (.int .i64 mH) (.slice (some ⟨b2,o2,none⟩) mn mc) (.slice none 0 0))
     refine hK.out _ _ (by (try dsimp only);exact MK.out _ hb3) (fun hHeld=>?_)
     clear hK K
     refine simpR ?_
     refine wpAnyH_done (by kernel_rfl) ?_ _
     go_wp2_with fail
     go_meet
     exact ⟨w0.heap.size,a1,k1,rfl,kb1.put7 _ _ _ _ _ _ _,Nat.le_refl _,OwnA.mono (ownA_other7 ho1 (by simp) _ _ _ _ _ _ _) (by simp),fun b hb e=>by have:=ho1.bd b hb;simp at this;omega,hb3.out⟩
 case rest =>
   obtain ⟨gb,a1,k1,rfl,kb,hgb,ho,hne,hb⟩:=hcut
   obtain ⟨w1,hw1⟩: ∃v,v=wc:=⟨_,rfl⟩
   subst hw1
   have HB1:=Lib.hid (bTrans HB0.out hb)
   have KA1:=Lib.hid (KA.out.below' hb)
   have KR1:=Lib.hid (KR.out.below' hb)
   have KG1:=Lib.hid kb
   have HP1:=Lib.hid (ho.mono (B':=w.heap.size) (by have:=HZ0.out;omega))
   have HNE:=Lib.hid hne
   have HG:Hid (w.heap.size+2≤gb):=Lib.hid (by have:=HZ0.out;omega)
   have HPB:=Lib.hid ho.bd
   clear hb kb ho hne hgb KA KR l0 c0 c1 c2 c3 c4 c5 c6
   obtain ⟨l0,c0,c1,c2,c3,c4,c5,c6⟩:=KA1.out.c7
   go_wp2_with fail
   refine (clone_ints6 b2 o2 mn mc ys _ R3.out (by exact R4.out.below HB1.out) (by omega)).mono ?_
   rintro e w2 ⟨a2,k2,rfl,ho,hb⟩
   have HB2:=Lib.hid (bTrans HB1.out hb)
   have KA2:=Lib.hid (KA1.out.below' hb)
   have KR2:=Lib.hid (KR1.out.below' hb)
   have KG2:=Lib.hid (KG1.out.below' hb)
   have HP2:=Lib.hid (HP1.out.below' hb)
   have HM2:=Lib.hid ho
   have HL1:=Lib.hid KG1.out.lt
   have HZ2:=Lib.hid hb.size
   have HMB:=Lib.hid ho.bd
   clear hb ho KA1 KR1 KG1 HP1 HB1 l0 c0 c1 c2 c3 c4 c5 c6
   obtain ⟨l0,c0,c1,c2,c3,c4,c5,c6⟩:=KA2.out.c7
   obtain ⟨m0,d0,d1,d2,d3,d4,d5,d6⟩:=KG2.out.c7
   obtain ⟨f0,f1,f2,f3,f4,f5,f6⟩:=KG2.out.f7
   obtain ⟨v2,hv2⟩: ∃x,x=w2.setCell ⟨gb,5,none⟩ (.slice a2 mn k2):=⟨_,rfl⟩
   have hg2:=HG.out
   have HV2:Hid (Below w.heap.size w v2):=Lib.hid (by rw [hv2];exact HB2.out.setCell (by simp;omega) _)
   have KA3:Hid (Blk v2 w.heap.size 43 #[.int .i64 W, .int .i64 H, .slice (some ⟨b1,o1,none⟩) pn pc, .int .i64 mW, .int .i64 mH, .slice (some ⟨b2,o2,none⟩) mn mc, .slice a n c]):=Lib.hid (by rw [hv2];exact KA2.out.other (by simp;omega) _)
   have KR3:Hid (Blk v2 (w.heap.size+1) 43 #[.int .i64 0, .int .i64 0, .slice none 0 0, .int .i64 0, .int .i64 0, .slice none 0 0, .slice none 0 0]):=Lib.hid (by rw [hv2];exact KR2.out.other (by simp;omega) _)
   have KG3:Hid (Blk v2 gb 43 #[.int .i64 W, .int .i64 H, .slice a1 pn k1, .int .i64 mW, .int .i64 mH, .slice a2 mn k2, .slice none 0 0]):=Lib.hid (by rw [hv2];exact KG2.out.putR _)
   have HP3:Hid (OwnA v2 w.heap.size a1 pn k1 xs):=Lib.hid (by rw [hv2];exact HP2.out.otherT (fun e=>HNE.out _ e rfl) _)
   have HM3:Hid (OwnA v2 w1.heap.size a2 mn k2 ys):=Lib.hid (by rw [hv2];exact HM2.out.otherT (fun e=>by have:=HMB.out _ e;have:=HL1.out;simp at*;omega) _)
   have HZ3:Hid (v2.heap.size=w2.heap.size):=Lib.hid (by rw [hv2];simp)
   go_wp2_with fail
   rw [←hv2]
   clear hv2 hg2 KA2 KR2 KG2 HP2 HM2 HB2 l0 c0 c1 c2 c3 c4 c5 c6 m0 d0 d1 d2 d3 d4 d5 d6 f0 f1 f2 f3 f4 f5 f6
   go_loopw [21] (fun i wr=> ∃(k:Nat) (Q:List PV) (a':Option Addr) (c':Nat),k≤n∧i= .int .i64 k∧Q.length=k∧(∀j,j<k→(pv Q j).W=(pv ps j).W∧(pv Q j).H=(pv ps j).H∧(pv Q j).ink=(pv ps j).ink∧(pv Q j).n=(pv ps j).n)∧
     Blk wr gb 43 #[.int .i64 W, .int .i64 H, .slice a1 pn k1, .int .i64 mW, .int .i64 mH, .slice a2 mn k2, .slice a' k c']∧OwnV wr w2.heap.size a' k c' Q∧OwnA wr w.heap.size a1 pn k1 xs∧OwnA wr w1.heap.size a2 mn k2 ys∧
     Blk wr w.heap.size 43 #[.int .i64 W, .int .i64 H, .slice (some ⟨b1,o1,none⟩) pn pc, .int .i64 mW, .int .i64 mH, .slice (some ⟨b2,o2,none⟩) mn mc, .slice a n c]∧Blk wr (w.heap.size+1) 43 #[.int .i64 0, .int .i64 0, .slice none 0 0, .int .i64 0, .int .i64 0, .slice none 0 0, .slice none 0 0]∧Below w.heap.size w wr∧w2.heap.size≤wr.heap.size) (fun i _=>n - (intOf i).toNat)
   case atStart=>exact ⟨0,[],none,0,Nat.zero_le _,rfl,rfl,fun j hj=>by omega,KG3.out,OwnV.nil _ _,HP3.out,HM3.out,KA3.out,KR3.out,HV2.out,by have:=HZ3.out;omega⟩
   case round=>
     obtain ⟨k,Q,a',c',hk,rfl,hql,hqe,hkg,hov,hop,hom,hka,hkr,hbl,hwr⟩:=hrel
     have KG:=Lib.hid hkg
     have HV:=Lib.hid hov
     have HP:=Lib.hid hop
     have HM:=Lib.hid hom
     have KA:=Lib.hid hka
     have KR:=Lib.hid hkr
     have HB:=Lib.hid hbl
     have HQ:=Lib.hid hql
     have HE:=Lib.hid hqe
     clear hqe hkg hov hop hom hka hkr hbl hql KG3 HP3 HM3 KA3 KR3 HV2
     by_cases hlt:k<n
     · obtain ⟨l0,c0,c1,c2,c3,c4,c5,c6⟩:=KA.out.c7
       have RV:=Lib.hid (R6.out.below HB.out)
       obtain ⟨b,off,hae,hal⟩:=RV.out.addr (by rw [R5.out];omega)
       subst hae
       obtain ⟨_,p0,p1,p2⟩:=RV.out.cells (k:=k) (by rw [R5.out];exact hlt)
       have rdk:=RV.out.rd (k:=k) (by rw [R5.out];exact hlt)
       have lnk:=RV.out.len (k:=k) (by rw [R5.out];exact hlt)
       have smk:=S4.out k (by rw [R5.out];exact hlt)
       obtain ⟨b3,o3,ha3⟩:=A3.out k (by rw [R5.out];exact hlt)
       obtain ⟨q,hq⟩: ∃q,pv ps k=q:=⟨_,rfl⟩
       have HQK:=Lib.hid hq
       rw [hq] at p0 p1 p2 rdk lnk smk ha3
       obtain ⟨qW,qH,qa,qn,qc,qi⟩:=q
       dsimp only at p0 p1 p2 rdk lnk smk ha3
       subst ha3
       have RD:=Lib.hid rdk
       have LN:=Lib.hid lnk
       have k0:(0:Int)≤(k:Int):=by omega
       have k1':(k:Int)<(n:Int):=by omega
       clear hq rdk lnk
       go_upto_region 6 with fail
       clear l0 c0 c1 c2 c3 c4 c5 c6 p0 p1 p2
       obtain ⟨w5,hw5⟩: ∃x,x=wr.alloc (.cells #[.int .i64 qW, .int .i64 qH, .slice (some ⟨b3,o3,none⟩) qn qc] 27):=⟨_,rfl⟩
       have KT:Hid (Blk w5 wr.heap.size 27 #[.int .i64 qW, .int .i64 qH, .slice (some ⟨b3,o3,none⟩) qn qc]):=Lib.hid (by rw [hw5];exact Blk.new _ _ _)
       have HW5:Hid (Below wr.heap.size wr w5):=Lib.hid (by rw [hw5];exact Joins.below_alloc1 _ _)
       rw [←hw5]
       clear hw5
       have KG5:=Lib.hid (KG.out.below' HW5.out)
       have HV5:=Lib.hid (HV.out.below HW5.out)
       have HP5:=Lib.hid (HP.out.below' HW5.out)
       have HM5:=Lib.hid (HM.out.below' HW5.out)
       have KA5:=Lib.hid (KA.out.below' HW5.out)
       have KR5:=Lib.hid (KR.out.below' HW5.out)
       have HB5:=Lib.hid (bTrans HB.out HW5.out)
       have RD5:=Lib.hid (RD.out.below HW5.out)
       have HZW:=Lib.hid KG5.out.lt
       obtain ⟨t0,e0,e1,e2⟩:=KT.out.c3
       obtain ⟨g0,d0,d1,d2,d3,d4,d5,d6⟩:=KG5.out.c7
       have MK:Hid (∀v,BelowL w5 v→v.cell? ⟨gb,6,none⟩=some (.slice a' k c')∧v.cell? ⟨wr.heap.size,0,none⟩=some (.int .i64 qW)∧v.cell? ⟨wr.heap.size,1,none⟩=some (.int .i64 qH)∧v.cell? ⟨wr.heap.size,2,none⟩=some (.slice (some ⟨b3,o3,none⟩) qn qc)∧BelowL w5 v):=Lib.hid (fun v h=>⟨(h.out.cell g0).trans d6,(h.out.cell t0).trans e0,(h.out.cell t0).trans e1,(h.out.cell t0).trans e2,h⟩)
       clear g0 d0 d1 d2 d3 d4 d5 d6 t0 e0 e1 e2
       refine wp_region_T 5 (fun v=>v.cell? ⟨gb,6,none⟩=some (.slice a' k c')∧v.cell? ⟨wr.heap.size,0,none⟩=some (.int .i64 qW)∧v.cell? ⟨wr.heap.size,1,none⟩=some (.int .i64 qH)∧v.cell? ⟨wr.heap.size,2,none⟩=some (.slice (some ⟨b3,o3,none⟩) qn qc)∧BelowL w5 v) (by kernel_rfl) (MK.out _ (BelowL.start _)) ?_
       intro hHeld
       have hb0:=limb5 hHeld
       refine tTake 0 ?_
       refine tTake 1 ?_
       refine tTake 2 ?_
       refine tOne 3 (fun K hK=>?_)
       go_simp
       go_at_call 62
       ((with_reducible refine (impl_unchanged qW qH b3 o3 qn qc qi _ LN.out (RD5.out.below hb0.out) smk).mono ?_);rintro e v1 ⟨a3,k3,rfl,ho3,hq1⟩)
       have hb1:=BelowL.call hb0 hq1
       go_wp2_with fail
       refine hK.out _ _ (fun _=>by (try dsimp only);exact MK.out _ hb1) (fun hH2=>?_)
       clear hK K hHeld
       have hHeld:=hH2 (by decide)
       refine tOne 4 (fun K hK=>?_)
       go_simp
       have hb3:=BelowL.alloc hb1 (.cells #[.int .i64 qW, .int .i64 qH, .slice a3 qn k3] 27)
       refine hK.out _ _ (fun _=>by (try dsimp only);exact MK.out _ hb3) (fun hH2=>?_)
       clear hK K hHeld
       refine tOne 5 (fun K hK=>?_)
       have HV3:=Lib.hid (HV5.out.below hb3.out)
       have hzw:w2.heap.size≤w5.heap.size:=Nat.le_trans hwr HW5.out.size
       refine step_appV _ (by rfl) 41 Tryz.underlying41 infoPicZ (.tmp 26) (.tmp 29) (by rfl) w2.heap.size k c' a' Q (by rfl) HV3.out.toRowVA v1.heap.size ⟨qW,qH,a3,qn,k3,qi⟩ (by rfl) (by first | go_simp | simp) (by first | go_simp | simp) (by first | go_simp | simp) (by omega) (by have:=hb3.le;omega) ?_
       intro ad2 cap2 w6 ho5 hg5 hx5
       have hl1:=HL1.out
       have hz2:=HZ2.out
       have hgg:=HG.out
       have hpb:=HPB.out
       have hmb:=HMB.out
       have hz3:=HZ3.out
       have hbd3:=HV3.out.bd
       have hbd5:=HV5.out.bd
       have hle1:=hb1.le
       have hrow: ∀b,blockOf a'=some b→w2.heap.size≤b:=fun b hb=>(hbd3 b (.inl hb)).1
       have HV6:Hid (OwnV w6 w2.heap.size ad2 (k+1) cap2 (Q++ [⟨qW,qH,a3,qn,k3,qi⟩])):=Lib.hid (OwnV.snoc HV3.out ho5 hg5
         (fun b hb=>by
           rcases hx5 with e | e
           · rw [e] at hb;exact .inl hb
           · rw [e] at hb;injection hb with hb;exact .inr (by omega))
         (((ho3.mono (B':=w2.heap.size) (by have:=hb0.le;omega)).alloc _).grownS hg5 (fun b hb hb2=>by
           have h1:=(hbd5 b (.inl hb)).2
           have h2:=ho3.bd b hb2
           have:=hb0.le
           omega))
         (fun b hb=>by
           have h2:=ho3.bd b hb
           refine ⟨by simp;omega,fun hbl=>?_⟩
           have h1:=(hbd5 b hbl).2
           have:=hb0.le
           omega))
       have KG6:=Lib.hid ((KG5.out.below' hb3.out).grown hg5 (fun e=>by have:=hrow _ e.symm;omega))
       have HP6:=Lib.hid ((HP5.out.below' hb3.out).grownS hg5 (fun b hb hb2=>by have:=hrow _ hb;have:=hpb b hb2;omega))
       have HM6:=Lib.hid ((HM5.out.below' hb3.out).grownS hg5 (fun b hb hb2=>by have:=hrow _ hb;have:=hmb b hb2;omega))
       have KA6:=Lib.hid ((KA5.out.below' hb3.out).grown hg5 (fun e=>by have:=hrow _ e.symm;omega))
       have KR6:=Lib.hid ((KR5.out.below' hb3.out).grown hg5 (fun e=>by have:=hrow _ e.symm;omega))
       have HBv:=Lib.hid (bTrans HB5.out hb3.out)
       have HB6:=Lib.hid (HBv.out.grown hg5 HBv.out.size (fun b hb=>by have:=hrow _ hb;omega))
       have HZ6:Hid (w2.heap.size≤w6.heap.size):=Lib.hid (by have:=hg5.size;have:=hb3.le;omega)
       have HQ6:Hid (∀j,j<k+1→(pv (Q++ [⟨qW,qH,a3,qn,k3,qi⟩]) j).W=(pv ps j).W∧(pv (Q++ [⟨qW,qH,a3,qn,k3,qi⟩]) j).H=(pv ps j).H∧(pv (Q++ [⟨qW,qH,a3,qn,k3,qi⟩]) j).ink=(pv ps j).ink∧(pv (Q++ [⟨qW,qH,a3,qn,k3,qi⟩]) j).n=(pv ps j).n):=Lib.hid (fun j hj=>by
         by_cases e:j<k
         · rw [pv_snoc_lt (by rw [HQ.out];exact e)];exact HE.out j e
         · obtain rfl:j=Q.length:=by rw [HQ.out];omega
           rw [pv_snoc,HQ.out,HQK.out];exact ⟨rfl,rfl,rfl,rfl⟩)
       clear ho5 hg5 hx5 hb0 hb1 hb3 hq1 ho3 HV3 HBv hbd3 hbd5 hrow hzw hle1
       obtain ⟨g0,d0,d1,d2,d3,d4,d5,d6⟩:=KG6.out.c7
       obtain ⟨f0,f1,f2,f3,f4,f5,f6⟩:=KG6.out.f7
       refine hK.out _ _ (fun h=>absurd h (by decide)) (fun hH2=>?_)
       clear hK K
       refine tOne 6 (fun K hK=>?_)
       go_simp
       refine hK.out _ _ (fun h=>absurd h (by decide)) (fun hH2=>?_)
       clear hK K hH2
       refine tOne 7 (fun K hK=>?_)
       go_simp
       refine hK.out _ _ (fun h=>absurd h (by decide)) (fun hH2=>?_)
       clear hK K hH2
       refine wpAnyT_done (by kernel_rfl) ?_ _
       (try go_simp)
       go_wp2_with fail
       go_roundw
       case rel=>exact ⟨k+1,_,ad2,cap2,by omega,by go_num,by rw [List.length_append,HQ.out];rfl,HQ6.out,by exact KG6.out.putS _,by exact HV6.out.other (by simp;omega) _,by exact HP6.out.otherT (fun e=>HNE.out _ e rfl) _,by exact HM6.out.otherT (fun e=>by have:=hmb _ e;simp at this;omega) _,by exact KA6.out.other (by simp;omega) _,by exact KR6.out.other (by simp;omega) _,by exact HB6.out.setCell (by simp;omega) _,by have:=HZ6.out;simp;omega⟩
       case measure=>simp [intOf];omega
     · obtain rfl:k=n:=by omega
       obtain ⟨g0,d0,d1,d2,d3,d4,d5,d6⟩:=KG.out.c7
       obtain ⟨l0,c0,c1,c2,c3,c4,c5,c6⟩:=KR.out.c7
       obtain ⟨f0,f1,f2,f3,f4,f5,f6⟩:=KR.out.f7
       go_wp2_with fail
       have hl1:=HL1.out
       have hz2:=HZ2.out
       have hgg:=HG.out
       have hpb:=HPB.out
       have hmb:=HMB.out
       refine bodyPost_ret (v:=(⟨⟨W,H,a1,pn,k1,xs⟩,⟨mW,mH,a2,mn,k2,ys⟩,a',k,c',Q⟩:Dsk).val) (by simp [results,Tryz.results39,go_sem,Dsk.val,c0,c1,c2,c3,c4,c5,c6]) rfl ⟨_,rfl,?_,?_,?_,?_⟩
       · refine OwnD.set7 (D:=⟨⟨W,H,a1,pn,k1,xs⟩,⟨mW,mH,a2,mn,k2,ys⟩,a',k,c',Q⟩) ⟨HP.out,HM.out.mono (by have:=HPB.out;have:=HB.out.size;omega),HV.out.mono (by omega),fun b hb e=>?_,fun b hb e=>?_,fun b hb e=>?_⟩ (fun b hb=>?_) _ _ _ _ _ _ _
         · have h1:=hpb b hb
           have h2:=hmb b e
           omega
         · have h1:=hpb b e
           have h2:=(HV.out.bd b hb).1
           omega
         · have h1:=hmb b e
           have h2:=(HV.out.bd b hb).1
           omega
         · rcases hb with hb | hb | hb
           · have h1:=hpb b hb
             have:=HZ0.out
             omega
           · have h1:=hmb b hb
             omega
           · have h2:=(HV.out.bd b hb).1
             omega
       · show ((⟨W,H,xs⟩,⟨mW,mH,ys⟩,picsV Q):Pic × Pic × List Pic)=(⟨W,H,xs⟩,⟨mW,mH,ys⟩,picsV ps)
         rw [picsV_eq (L:=Q) (M:=ps) (by rw [HQ.out,R5.out]) (fun j hj=>by have h:=HE.out j (by rw [←HQ.out];exact hj);exact ⟨h.1,h.2.1,h.2.2.1⟩)]
       · exact ⟨s1,s2,s3,fun j hj=>by
           have h:=HE.out j (by rw [←HQ.out];exact hj)
           show (pv Q j).n≤1048576
           rw [h.2.2.2]
           exact S4.out j (by rw [R5.out,←HQ.out];exact hj)⟩
       · exact below_set7 HB.out (by omega) _ _ _ _ _ _ _
end Go.Proofs.YtanccoopbgamdaaGreatDoor
