/-
  Contracts and plain facts on which the theorem of this claim rests, text 31.
-/
import Derived.Test.YtmikajnpgcabfaaGreatDoorSC3
import Derived.Test.YtmikajnpgcabfaaGreatDoorSC5
import Derived.Test.YtmikajnpgcabfaaGreatDoorSC7
import Derived.Test.YtmikajnpgcabfaaGreatDoorSC21
import Derived.Test.YtmikajnpgcabfaaGreatDoorSC30
namespace Go.Proofs.YtmikajnpgcabfaaGreatDoor
open Go.RowKit
set_option linter.unusedVariables false
set_option linter.unusedSimpArgs false
theorem step_app5 (w:World) {ops:Array Oper} {o:Oper} {a:Act} {K:Act→World→Prop} {Q:Exit→Act→World→Prop} {E:Prop}
   (hgd:o.guard=none) (s x:Operand) (hop:o.op= .call {callee:= .builtin .append,args:=#[s,x],argTypes:=#[25,25]})
   (B n cap:Nat) (ad:Option Addr) (xs:List Int) (hs:a.eval s= .slice ad n cap) (ho:OwnA w B ad n cap xs) (g:Nat) (v:Int) (hx:a.eval x= .slice (some ⟨g,0,none⟩) 1 1)
   (hc:w.cell? ⟨g,0,none⟩=some (.int .i64 v)) (hn:n≤1048576) (hB:B≤w.heap.size)
   (hK: ∀ad' cap' w',OwnA w' B ad' (n+1) cap' (xs++ [v])→w.grownBy w' (blockOf ad)→K (a.put o.dst (.slice ad' (n+1) cap')) w'):
   if Region.wanted o (yielded ops a.tmps)=true then Oper.wp Tryz.prog o a w K Q else E:=by
 have hw:Region.wanted o (yielded ops a.tmps)=true:=by simp [Region.wanted,hgd]
 rw [if_pos hw]
 obtain ⟨i,hi,hz0,hz1,hz2⟩:=info_parts infoInt
 refine wp_append_own w s x 25 hop B 3 i (.int .i64 0) 1 8 Tryz.underlying25 hi hz0 hz1 hz2 rfl (by decide) _ n (xs.map (Value.int .i64)) hs ho.toRow ⟨g,0,none⟩ 1 1 [.int .i64 v] hx rfl ?_ ?_ (by unfold maxLen;omega) (by omega) hB ?_
 · intro j u hj
   match j,hj with
   | 0,hj=>simp at hj;subst hj;simpa [Addr.add] using hc
 · intro u hu;simp at hu;subst hu;rfl
 · intro v' w' h2 h3 _
   have h4:w'.ownsRow B 3 1 v' (n+1) ((xs++ [v]).map (Value.int .i64)):=by simpa using h2
   obtain ⟨ad',cap',rfl,h5⟩:=OwnA.ofRow h4
   rw [blockOf_own] at h3
   exact hK ad' cap' w' h5 h3
set_option maxRecDepth 100000 in
set_option maxHeartbeats 3200000 in
theorem spec_SpotMatrix_yes {A B d:Int} {N:Nat} {g a b p q:Int} (L:Lat A B (N:Int) g d a b p q) (n:Nat) (nm:Nat→Nat) (hnm:Named A B d n nm) (hs:matSize d d=true) (hq:(n:Int)=d*d) (w:World):
   Calls Tryz.prog 115 #[.agg #[.int .i64 A, .int .i64 B]] w (MatOut2 w (⟨d,d,ranksL (overK A B d N nm) n⟩,true)):=by
 obtain ⟨b1,b2,b3⟩:=matSqB hs
 have n1:=L.n1;have n2:=L.n2
 have N1:0<N:=by omega
 have N2:N≤288:=by omega
 have nb1:n≤256:=by omega
 have b5:1*1≤d*d:=Int.mul_le_mul b1 b1 (by omega) (by omega)
 have nb0:1≤n:=by omega
 have hp0:0≤d*d:=by omega
 have hp1:d*d≤256:=b3
 have HL:=Lib.hid L
 have HQ:=Lib.hid hq
 have HS:=Lib.hid hs
 have HNM:Aside _:=hnm
 clear L hq hs hnm b3 b5
 go_enter Tryz.func115,Tryz.ntmps115
 go_wp2_with fail
 refine (spec_IsLattice _ _ _).mono ?_
 rw [lat_ok HL.out]
 rintro e w1 ⟨rfl,hb⟩
 have HB1:=Lib.hid (bTrans (Joins.below_alloc2 _ _ _) hb)
 have KL1:=Lib.hid (((Blk.new w 139 #[.int .i64 A, .int .i64 B]).alloc (.cells #[.int .i64 0, .int .i64 0, .slice none 0 0] 31)).below' hb)
 have KP1:=Lib.hid ((Blk.new' (g:=w.heap.size+1) (w:=w.alloc (.cells #[.int .i64 A, .int .i64 B] 139)) 31 #[.int .i64 0, .int .i64 0, .slice none 0 0] (by simp)).below' hb)
 obtain ⟨z,c0,c1⟩:=KL1.out.c2
 clear hb
 go_wp2_with fail
 refine (spec_l5Sides HL.out _).mono ?_
 rintro e w2 ⟨rfl,hb⟩
 have HB2:=Lib.hid (bTrans HB1.out hb)
 have KL2:=Lib.hid (KL1.out.below' hb)
 have KP2:=Lib.hid (KP1.out.below' hb)
 clear hb z c0 c1
 go_wp2_with fail
 refine (spec_l2Shape_yes _ _ _ HS.out).mono ?_
 rintro e w2 ⟨rfl,rfl⟩
 obtain ⟨z,c0,c1⟩:=KL2.out.c2
 go_wp2_with fail
 refine (spec_SpotRanks_yes HL.out _).mono ?_
 rintro e w3 ⟨a3,c3,rfl,ho,hb⟩
 obtain ⟨rb,hrb,rfl,ho2⟩: ∃rb,w2.heap.size≤rb∧a3=some ⟨rb,0,none⟩∧Own w3 rb N c3 (gen N (fun i=>(placeC (nearK2 A B d) (i:Int) N:Int))):=by
   rcases ho with ⟨_,h0,_⟩ | ⟨rb,h1,h2,h3⟩
   · omega
   · exact ⟨rb,h2,h1,h3⟩
 have HB3:=Lib.hid (bTrans HB2.out hb)
 have KL3:=Lib.hid (KL2.out.below' hb)
 have KP3:=Lib.hid (KP2.out.below' hb)
 have HR3:=Lib.hid ho2
 clear hb ho ho2 hrb z c0 c1
 go_wp2_with fail
 go_loopw [7,8] (fun s i wr=> ∃(k:Nat) (a4:Option Addr) (c4:Nat),k≤n∧i= .int .i64 k∧s= .slice a4 k c4∧OwnA wr w3.heap.size a4 k c4 (gen k (overF A B d N nm))∧Below w3.heap.size w3 wr) (fun _ i _=>n - (intOf i).toNat)
 case atStart=>exact ⟨0,_,0,Nat.zero_le _,rfl,rfl,OwnA.mk (own_nil5 _) (Nat.le_refl _),Joins.below_alloc1 _ _⟩
 case round=>
   obtain ⟨k,a4,c4,hk,rfl,rfl,ho,hnx⟩:=hrel
   have HO:=Lib.hid ho
   have HW:=Lib.hid hnx
   have KL:=Lib.hid (KL3.out.below' hnx)
   have KP:=Lib.hid (KP3.out.below' hnx)
   have HR:=Lib.hid (HR3.out.below hnx HR3.out.lt)
   clear ho hnx
   by_cases hlt:k<n
   · obtain ⟨l0,c0,c1⟩:=KL.out.c2
     have kn:(k:Int)<d*d:=by have:=HQ.out;omega
     obtain ⟨u1,u2,v1,v2,t1,t2⟩:=cell_bd (W:=d) b1 (by omega) hlt
     have HNK:=Lib.hid (HNM.out k hlt)
     obtain ⟨U,hU⟩: ∃U,(k:Int) % d=U:=⟨_,rfl⟩
     obtain ⟨V,hV⟩: ∃V,(k:Int)/d=V:=⟨_,rfl⟩
     rw [hU] at u1 u2 t1 HNK
     rw [hV] at v1 v2 t2 HNK
     obtain ⟨t,ht⟩: ∃t,nm k=t:=⟨_,rfl⟩
     rw [ht] at HNK
     have tN:t<N:=by have:=(HL.out.isName.1 HNK.out).2.1;omega
     have tN2:(t:Int)<(N:Int):=by omega
     obtain ⟨R,hR⟩: ∃R,overF A B d N nm k=R:=⟨_,rfl⟩
     have cr:=own_c HR.out tN
     have cr2:((placeC (nearK2 A B d) (t:Int) N:Nat):Int)=R:=by rw [←hR,←ht];rfl
     rw [cr2] at cr
     have t3:IntKind.i64.wrap U=U:=IntWalk.i64_in _ (by omega)
     have t4:IntKind.i64.wrap V=V:=IntWalk.i64_in _ (by omega)
     have z1: ¬d=0:=by omega
     have z2:(d==0)=false:=by simp;omega
     have HRR:=Lib.hid hR
     clear hU hV ht hR cr2
     go_upto_region 11 with fail
     have MK:Hid (∀v,BelowL wr v→v.cell? ⟨w.heap.size,0,none⟩=some (.int .i64 A)∧v.cell? ⟨w.heap.size,1,none⟩=some (.int .i64 B)∧v.cell? ⟨rb,t,none⟩=some (.int .i64 R)∧BelowL wr v):=Lib.hid (fun v h=>⟨(h.out.cell l0).trans c0,(h.out.cell l0).trans c1,(h.out.cell HR.out.lt).trans cr,h⟩)
     refine wp_region_T 13 (fun v=>v.cell? ⟨w.heap.size,0,none⟩=some (.int .i64 A)∧v.cell? ⟨w.heap.size,1,none⟩=some (.int .i64 B)∧v.cell? ⟨rb,t,none⟩=some (.int .i64 R)∧BelowL wr v) (by kernel_rfl) (MK.out _ (BelowL.start _)) ?_
     intro hHeld
     have hb0:=limb4 hHeld
     (refine' wpAnyT_take (i:=0) (v:=?_) rfl (by kernel_rfl) (by kernel_rfl) (by kernel_rfl) (by kernel_rfl) (fun _ _ _ h=>h) (Or.inl ⟨by rfl,?_⟩) (by assumption) ?_;rotate_left;(· (intro w hSw;(try dsimp only at hSw);go_simp;try with_reducible rfl));(try simp only [Act.put,List.setIfInBounds_toArray,List.set_cons_zero,List.set_cons_succ]))
     (refine' wpAnyT_take (i:=1) (v:=?_) rfl (by kernel_rfl) (by kernel_rfl) (by kernel_rfl) (by kernel_rfl) (fun _ _ _ h=>h) (Or.inl ⟨by rfl,?_⟩) (by assumption) ?_;rotate_left;(· (intro w hSw;(try dsimp only at hSw);go_simp;try with_reducible rfl));(try simp only [Act.put,List.setIfInBounds_toArray,List.set_cons_zero,List.set_cons_succ]))
     (refine' wpAnyT_take (i:=2) (v:=?_) rfl (by kernel_rfl) (by kernel_rfl) (by kernel_rfl) (by kernel_rfl) (fun _ _ _ h=>h) (Or.inl ⟨by rfl,?_⟩) (by assumption) ?_;rotate_left;(· (intro w hSw;(try dsimp only at hSw);go_simp;try with_reducible rfl));(try simp only [Act.put,List.setIfInBounds_toArray,List.set_cons_zero,List.set_cons_succ]))
     (refine' wpAnyT_take (i:=3) (v:=?_) rfl (by kernel_rfl) (by kernel_rfl) (by kernel_rfl) (by kernel_rfl) (fun _ _ _ h=>h) (Or.inl ⟨by rfl,?_⟩) (by assumption) ?_;rotate_left;(· (intro w hSw;(try dsimp only at hSw);go_simp;try with_reducible rfl));(try simp only [Act.put,List.setIfInBounds_toArray,List.set_cons_zero,List.set_cons_succ]))
     (refine' wpAnyT_take (i:=4) (v:=?_) rfl (by kernel_rfl) (by kernel_rfl) (by kernel_rfl) (by kernel_rfl) (fun _ _ _ h=>h) (Or.inl ⟨by rfl,?_⟩) (by assumption) ?_;rotate_left;(· (intro w hSw;(try dsimp only at hSw);go_simp;try with_reducible rfl));(try simp only [Act.put,List.setIfInBounds_toArray,List.set_cons_zero,List.set_cons_succ]))
     (refine' wpAnyT_take (i:=5) (v:=?_) rfl (by kernel_rfl) (by kernel_rfl) (by kernel_rfl) (by kernel_rfl) (fun _ _ _ h=>h) (Or.inl ⟨by rfl,?_⟩) (by assumption) ?_;rotate_left;(· (intro w hSw;(try dsimp only at hSw);go_simp;try with_reducible rfl));(try simp only [Act.put,List.setIfInBounds_toArray,List.set_cons_zero,List.set_cons_succ]))
     (refine' wpAnyT_take (i:=6) (v:=?_) rfl (by kernel_rfl) (by kernel_rfl) (by kernel_rfl) (by kernel_rfl) (fun _ _ _ h=>h) (Or.inl ⟨by rfl,?_⟩) (by assumption) ?_;rotate_left;(· (intro w hSw;(try dsimp only at hSw);go_simp;try with_reducible rfl));(try simp only [Act.put,List.setIfInBounds_toArray,List.set_cons_zero,List.set_cons_succ]))
     (refine' wpAnyT_take (i:=7) (v:=?_) rfl (by kernel_rfl) (by kernel_rfl) (by kernel_rfl) (by kernel_rfl) (fun _ _ _ h=>h) (Or.inl ⟨by rfl,?_⟩) (by assumption) ?_;rotate_left;(· (intro w hSw;(try dsimp only at hSw);go_simp;try with_reducible rfl));(try simp only [Act.put,List.setIfInBounds_toArray,List.set_cons_zero,List.set_cons_succ]))
     (refine' wpAnyT_take (i:=8) (v:=?_) rfl (by kernel_rfl) (by kernel_rfl) (by kernel_rfl) (by kernel_rfl) (fun _ _ _ h=>h) (Or.inl ⟨by rfl,?_⟩) (by assumption) ?_;rotate_left;(· (intro w hSw;(try dsimp only at hSw);go_simp;try with_reducible rfl));(try simp only [Act.put,List.setIfInBounds_toArray,List.set_cons_zero,List.set_cons_succ]))
     refine wpAnyT_one (i:=9) (by kernel_rfl) rfl (fun K hK=>?_)
     go_simp
     go_at_call 169
     ((with_reducible refine (spec_l5Name HL.out U V _ HNK.out (by omega) (by omega) (by omega) (by omega) _).mono ?_);rintro e v1 ⟨rfl,hq1⟩)
     have hb1:=BelowL.call hb0 hq1
     go_wp2_with fail
     refine hK.out _ _ (fun _=>by (try dsimp only);exact MK.out _ hb1) (fun hH2=>?_)
     clear hK K hHeld
     have hHeld:=hH2 (by decide)
     (refine' wpAnyT_take (i:=10) (v:=?_) rfl (by kernel_rfl) (by kernel_rfl) (by kernel_rfl) (by kernel_rfl) (fun _ _ _ h=>h) (Or.inl ⟨by rfl,?_⟩) (by assumption) ?_;rotate_left;(· (intro w hSw;(try dsimp only at hSw);go_simp;try with_reducible rfl));(try simp only [Act.put,List.setIfInBounds_toArray,List.set_cons_zero,List.set_cons_succ]))
     (refine' wpAnyT_take (i:=11) (v:=?_) rfl (by kernel_rfl) (by kernel_rfl) (by kernel_rfl) (by kernel_rfl) (fun _ _ _ h=>h) (Or.inl ⟨by rfl,?_⟩) (by assumption) ?_;rotate_left;(· (intro w hSw;(try dsimp only at hSw);go_simp;try with_reducible rfl));(try simp only [Act.put,List.setIfInBounds_toArray,List.set_cons_zero,List.set_cons_succ]))
     refine wpAnyT_one (i:=12) (by kernel_rfl) rfl (fun K hK=>?_)
     go_simp
     have hb2:=BelowL.alloc hb1 (.cells #[.int .i64 R] 3)
     refine hK.out _ _ (fun _=>by (try dsimp only);exact MK.out _ hb2) (fun hH2=>?_)
     clear hK K
     have HOv:=Lib.hid (HO.out.below' hb1.out)
     have HWv:=Lib.hid (bTrans HW.out hb1.out)
     refine wpAnyT_one (i:=13) (by kernel_rfl) rfl (fun K hK=>?_)
     refine step_app5 _ (by rfl) (.tmp 33) (.tmp 45) (by rfl) w3.heap.size k c4 a4 (gen k (overF A B d N nm)) (by rfl) (HOv.out.alloc _) v1.heap.size R (by rfl) (by first | go_simp | simp) (by omega) (by have:=HWv.out.size;simp;omega) ?_
     intro ad2 cap2 w5 ho5 hg5
     have HW5:=Lib.hid (((HWv.out.alloc HWv.out.size _)).grown hg5 (by have:=HWv.out.size;simp;omega) (fun b hb=>by have:=HOv.out.bd b hb;omega))
     rw [←HRR.out,gen_snoc] at ho5
     have HO5:=Lib.hid ho5
     clear ho5 hg5
     refine hK.out _ _ (fun h=>absurd h (by decide)) (fun hH2=>?_)
     clear hK K
     refine wpAnyT_one (i:=14) (by kernel_rfl) rfl (fun K hK=>?_)
     go_simp
     refine hK.out _ _ (fun h=>absurd h (by decide)) (fun hH2=>?_)
     clear hK K hH2
     refine wpAnyT_done (by kernel_rfl) ?_ _
     (try go_simp)
     go_wp2_with fail
     go_roundw
     case rel=>exact ⟨k+1,ad2,cap2,by omega,by go_num,rfl,HO5.out,HW5.out⟩
     case measure=>simp [intOf];omega
   · obtain rfl:k=n:=by omega
     have kn: ¬(k:Int)<d*d:=by have:=HQ.out;omega
     have HBr:=Lib.hid (bTrans HB3.out HW.out)
     go_wp2_with fail
     refine (spec_l5Places (overK A B d N nm) a4 k c4 _ (by exact HO.out.rd) (by omega)).mono ?_
     rintro e w6 ⟨a5,c5,rfl,ho,hb⟩
     have HB6:=Lib.hid (bTrans HBr.out hb)
     have KP6:=Lib.hid (KP.out.below' hb)
     have HO6:=Lib.hid ho
     have l5:w.heap.size+1<wr.heap.size:=KP.out.lt
     have HSZ:=Lib.hid HBr.out.size
     clear ho hb
     obtain ⟨r0,r1,r2,r3⟩:=KP6.out.c3
     obtain ⟨q0,q1,q2⟩:=KP6.out.f3
     go_wp2_with fail
     exact bodyPost_ret (v:= .tuple #[.agg #[.int .i64 d, .int .i64 d, .slice a5 k c5], .bool true]) (by simp [results,Tryz.results115,go_sem,r1,r2,r3]) rfl
       ⟨_,_,_,rfl,OwnA.mono (((HO6.out.other (by simp;omega) _).other (by simp;omega) _).other (by simp;omega) _) HSZ.out,by omega,
         ((HB6.out.setCell (by first | (simp;done) | (simp;omega)) _).setCell (by first | (simp;done) | (simp;omega)) _).setCell (by first | (simp;done) | (simp;omega)) _⟩
set_option maxHeartbeats 800000 in
theorem spec_SpotMatrix_no1 {A B:Int} (h:latOk A B=false) (w:World):
   Calls Tryz.prog 115 #[.agg #[.int .i64 A, .int .i64 B]] w (MatOut2 w (noMat,false)):=by
 have HL:=Lib.hid h
 clear h
 go_enter Tryz.func115,Tryz.ntmps115
 go_wp2_with fail
 refine (spec_IsLattice _ _ _).mono ?_
 rw [HL.out]
 rintro e w1 ⟨rfl,hb⟩
 have HB1:=Lib.hid (bTrans (Joins.below_alloc2 _ _ _) hb)
 have KP1:=Lib.hid ((Blk.new' (g:=w.heap.size+1) (w:=w.alloc (.cells #[.int .i64 A, .int .i64 B] 139)) 31 #[.int .i64 0, .int .i64 0, .slice none 0 0] (by simp)).below' hb)
 clear hb
 obtain ⟨r0,r1,r2,r3⟩:=KP1.out.c3
 obtain ⟨q0,q1,q2⟩:=KP1.out.f3
 go_wp2_with fail
 exact bodyPost_ret (v:= .tuple #[.agg #[.int .i64 0, .int .i64 0, .slice none 0 0], .bool false]) (by simp [results,Tryz.results115,go_sem,r1,r2,r3]) rfl ⟨none,0,0,rfl,OwnA.none _ _,by omega,
   ((HB1.out.setCell (by first | (simp;done) | (simp;omega)) _).setCell (by first | (simp;done) | (simp;omega)) _).setCell (by first | (simp;done) | (simp;omega)) _⟩
set_option maxHeartbeats 800000 in
theorem spec_SpotMatrix_no2 {A B d:Int} {N:Nat} {g a b p q:Int} (L:Lat A B (N:Int) g d a b p q) (hs: ¬matSize d d=true) (w:World):
   Calls Tryz.prog 115 #[.agg #[.int .i64 A, .int .i64 B]] w (MatOut2 w (noMat,false)):=by
 have HL:=Lib.hid L
 have HS:=Lib.hid hs
 clear L hs
 go_enter Tryz.func115,Tryz.ntmps115
 go_wp2_with fail
 refine (spec_IsLattice _ _ _).mono ?_
 rw [lat_ok HL.out]
 rintro e w1 ⟨rfl,hb⟩
 have HB1:=Lib.hid (bTrans (Joins.below_alloc2 _ _ _) hb)
 have KL1:=Lib.hid (((Blk.new w 139 #[.int .i64 A, .int .i64 B]).alloc (.cells #[.int .i64 0, .int .i64 0, .slice none 0 0] 31)).below' hb)
 have KP1:=Lib.hid ((Blk.new' (g:=w.heap.size+1) (w:=w.alloc (.cells #[.int .i64 A, .int .i64 B] 139)) 31 #[.int .i64 0, .int .i64 0, .slice none 0 0] (by simp)).below' hb)
 obtain ⟨z,c0,c1⟩:=KL1.out.c2
 clear hb
 go_wp2_with fail
 refine (spec_l5Sides HL.out _).mono ?_
 rintro e w2 ⟨rfl,hb⟩
 have HB2:=Lib.hid (bTrans HB1.out hb)
 have KP2:=Lib.hid (KP1.out.below' hb)
 clear hb z c0 c1
 go_wp2_with fail
 refine (spec_l2Shape_no _ _ _ HS.out).mono ?_
 rintro e w2 ⟨rfl,rfl⟩
 obtain ⟨r0,r1,r2,r3⟩:=KP2.out.c3
 obtain ⟨q0,q1,q2⟩:=KP2.out.f3
 go_wp2_with fail
 exact bodyPost_ret (v:= .tuple #[.agg #[.int .i64 0, .int .i64 0, .slice none 0 0], .bool false]) (by simp [results,Tryz.results115,go_sem,r1,r2,r3]) rfl ⟨none,0,0,rfl,OwnA.none _ _,by omega,
   ((HB2.out.setCell (by first | (simp;done) | (simp;omega)) _).setCell (by first | (simp;done) | (simp;omega)) _).setCell (by first | (simp;done) | (simp;omega)) _⟩
set_option maxRecDepth 100000 in
set_option maxHeartbeats 1600000 in
theorem num_shift (na:Option Addr) (nc:Nat) (w:World):
   Calls Tryz.prog 90 #[.string ⟨#[115,104,105,102,116]⟩, .slice na 2 nc] w fun e w'=>e= .returned (.tuple #[.iface 144 (.func (.func 146) #[] #[.pointer (some ⟨w.heap.size,0,none⟩)]), .bool true])∧w'=w.alloc (.cells #[.slice na 2 nc] 25):=by
 go_enter Tryz.func90,Tryz.ntmps90
 go_wp2_with fail
 go_ret2
 exact ⟨rfl,rfl⟩
set_option maxRecDepth 100000 in
set_option maxHeartbeats 1600000 in
theorem num_level (na:Option Addr) (nc:Nat) (x:Int) (w:World) (hr:Rd w na [x]):
   Calls Tryz.prog 90 #[.string ⟨#[108,101,118,101,108]⟩, .slice na 1 nc] w fun e w'=>e= .returned (.tuple #[.iface 161 (.int .i64 x), .bool true])∧w'=w.alloc (.cells #[.slice na 1 nc] 25):=by
 have HB0:=Lib.hid (bAlloc (Below.refl w.heap.size w) (.cells #[.slice na 1 nc] 25))
 obtain ⟨b,off,hae,hbl,hbc⟩:=(hr.below HB0.out).at (by simp)
 subst hae
 have q0:=hbc 0 (by simp)
 rw [show [x].getD 0 0=x from rfl,Nat.add_zero] at q0
 clear hr hbc
 go_enter Tryz.func90,Tryz.ntmps90
 go_wp2_with fail
 go_ret2
 exact ⟨rfl,rfl⟩
set_option maxRecDepth 100000 in
set_option maxHeartbeats 1600000 in
theorem num_spot (F:Mat × Bool) (na:Option Addr) (nc:Nat) (x y:Int) (w:World) (hr:Rd w na [x,y]) (hF: ∀w,Calls Tryz.prog 144 #[.agg #[.int .i64 x, .int .i64 y]] w (MatOut2 w F)):
   Calls Tryz.prog 90 #[.string ⟨#[115,112,111,116]⟩, .slice na 2 nc] w (GivenOut w F.1):=by
 obtain ⟨w0,hw0⟩: ∃v,v=w.alloc (.cells #[.slice na 2 nc] 25):=⟨_,rfl⟩
 have HB0:Hid (Below w.heap.size w w0):=Lib.hid (by rw [hw0];exact bAlloc (Below.refl w.heap.size w) (.cells #[.slice na 2 nc] 25))
 have HF:=Lib.hid hF
 obtain ⟨b,off,hae,hbl,hbc⟩:=(hr.below HB0.out).at (by simp)
 subst hae
 have q0:=hbc 0 (by simp)
 have q1:=hbc 1 (by simp)
 rw [show [x,y].getD 0 0=x from rfl,Nat.add_zero] at q0
 rw [show [x,y].getD 1 0=y from rfl] at q1
 have p0:w0.cell? ⟨w.heap.size,0,none⟩=some (.slice (some ⟨b,off,none⟩) 2 nc):=by rw [hw0];exact (Blk.new w 25 #[.slice (some ⟨b,off,none⟩) 2 nc]).cell 0
 have l0:w.heap.size<w0.heap.size:=by rw [hw0];simp
 clear hr hbc hF
 go_enter Tryz.func90,Tryz.ntmps90
 go_wp2_with fail
 rw [←hw0]
 clear hw0
 have MK:Hid (∀v,BelowL w0 v→v.cell? ⟨w.heap.size,0,none⟩=some (.slice (some ⟨b,off,none⟩) 2 nc)∧v.cell? ⟨b,off,none⟩=some (.int .i64 x)∧v.cell? ⟨b,off+1,none⟩=some (.int .i64 y)∧BelowL w0 v):=Lib.hid (fun v h=>⟨(h.out.cell l0).trans p0,(h.out.cell hbl).trans q0,(h.out.cell hbl).trans q1,h⟩)
 go_region_held3 (fun v=>v.cell? ⟨w.heap.size,0,none⟩=some (.slice (some ⟨b,off,none⟩) 2 nc)∧v.cell? ⟨b,off,none⟩=some (.int .i64 x)∧v.cell? ⟨b,off+1,none⟩=some (.int .i64 y)∧BelowL w0 v)
   (first | exact MK.out _ hb2 | exact MK.out _ hb1 | exact MK.out _ (BelowL.start _))
   (first
     | (go_at_call 144;((with_reducible refine (HF.out _).mono ?_);rintro e v1 ⟨a1,n1,k1,rfl,ho1,hn1,hq1⟩;have hb1:=BelowL.call (limb4 (by assumption)) hq1))
     | (go_at_call 142;((with_reducible refine (impl_matrixOrNone _ _ a1 n1 k1 _ _).mono ?_);rintro e v2 ⟨rfl,rfl⟩;have hb2:=BelowL.alloc hb1 (.cells #[.int .i64 F.1.W, .int .i64 F.1.H, .slice a1 n1 k1] 31))))
 go_wp2_with fail
 go_ret2
 exact ⟨v1.heap.size,a1,n1,k1,rfl,Blk.new _ _ _,OwnA.mono (ho1.alloc _) (by have:=hb1.le;have:=HB0.out.size;(try simp at*);omega),hn1,bTrans HB0.out hb2.out⟩
theorem set_self {xs:List Int} {i:Nat} {v:Int} (h:i<xs.length∧xs.getD i 0=v):xs.set i v=xs:=by
 apply List.ext_getElem?
 intro k
 rw [List.getElem?_set]
 by_cases e:i=k
 · subst e
   rw [if_pos rfl,if_pos h.1,List.getElem?_eq_getElem h.1]
   have h2:=h.2
   simp only [List.getD,List.getElem?_eq_getElem h.1,Option.getD_some] at h2
   rw [h2]
 · rw [if_neg e]
theorem filled_next (ys:List Int) (n k:Nat) (h:k<n) (hy:ys.length=n):k<(filled ys (List.replicate n 0) k).length∧(filled ys (List.replicate n 0) k).getD k 0=0:=by
 have hl:(ys.take k).length=k:=by rw [List.length_take];omega
 unfold filled
 refine ⟨by simp;omega,?_⟩
 rw [List.getD,List.getElem?_append_right (by omega),hl,Nat.sub_self,List.getElem?_drop]
 simp [h]
set_option maxHeartbeats 1600000 in
theorem impl_SeedField (W H e:Int) (w:World):
   Calls Tryz.prog 202 #[.int .i64 W, .int .i64 H, .int .i64 e] w (PicOut2 w (seedF W H e)):=by
 by_cases hs:sizeOk W H=true
 case neg=>
   have E:seedF W H e=(noPic,false):=by unfold seedF;rw [if_neg (fun h=>hs h.1)]
   rw [E]
   have HS:=Lib.hid hs
   clear hs E
   go_enter Tryz.func202,Tryz.ntmps202
   go_wp2_with fail
   refine (impl_isSize_no _ _ _ HS.out).mono ?_
   rintro e2 w1 ⟨rfl,rfl⟩
   have KR1:=Lib.hid (Blk.new w 27 #[.int .i64 0, .int .i64 0, .slice none 0 0])
   have HB1:=Lib.hid (Joins.below_alloc1 w (.cells #[.int .i64 0, .int .i64 0, .slice none 0 0] 27))
   obtain ⟨r0,r1,r2,r3⟩:=KR1.out.c3
   obtain ⟨q0,q1,q2⟩:=KR1.out.f3
   go_wp2_with fail
   exact bodyPost_ret (v:= .tuple #[.agg #[.int .i64 0, .int .i64 0, .slice none 0 0], .bool false]) (by simp [results,Tryz.results202,go_sem]) rfl ⟨none,0,0,rfl,OwnA.none _ _,by omega,
     by first | exact HB1.out | exact ((HB1.out.setCell (by first | (simp;done) | (simp;omega)) _).setCell (by first | (simp;done) | (simp;omega)) _).setCell (by first | (simp;done) | (simp;omega)) _⟩
 case pos=>
   obtain ⟨b1,b2,b3,b4,b5,b6⟩:=sizeOk_bd hs
   obtain ⟨n,hn⟩: ∃n:Nat,(n:Int)=W*H:=⟨(W*H).toNat,by omega⟩
   have u1:IntKind.i64.wrap (W*H)=(n:Int):=by rw [hn];exact IntWalk.i64_in _ (by omega)
   have hn1:1≤n:=by omega
   have HQ:=Lib.hid hn
   by_cases hm:n≤256
   case neg=>
     have E:seedF W H e=(noPic,false):=by unfold seedF;rw [if_neg (fun h=>hm (by have:=h.2.1;omega))]
     rw [E]
     have HS:=Lib.hid hs
     have hm2:256<(n:Int):=by omega
     clear hs E hm hn b5 b6
     go_enter Tryz.func202,Tryz.ntmps202
     go_wp2_with fail
     refine (impl_isSize_yes _ _ _ HS.out).mono ?_
     rintro e2 w1 ⟨rfl,rfl⟩
     have KR1:=Lib.hid (Blk.new w 27 #[.int .i64 0, .int .i64 0, .slice none 0 0])
     have HB1:=Lib.hid (Joins.below_alloc1 w (.cells #[.int .i64 0, .int .i64 0, .slice none 0 0] 27))
     obtain ⟨r0,r1,r2,r3⟩:=KR1.out.c3
     obtain ⟨q0,q1,q2⟩:=KR1.out.f3
     go_wp2_with fail
     exact bodyPost_ret (v:= .tuple #[.agg #[.int .i64 0, .int .i64 0, .slice none 0 0], .bool false]) (by simp [results,Tryz.results202,go_sem]) rfl ⟨none,0,0,rfl,OwnA.none _ _,by omega,
       by first | exact HB1.out | exact ((HB1.out.setCell (by first | (simp;done) | (simp;omega)) _).setCell (by first | (simp;done) | (simp;omega)) _).setCell (by first | (simp;done) | (simp;omega)) _⟩
   case pos=>
     have hm2:(n:Int)≤256:=by omega
     by_cases he:1≤e∧e≤100
     case neg=>
       have E:seedF W H e=(noPic,false):=by unfold seedF;rw [if_neg (fun h=>he h.2.2)]
       rw [E]
       have HS:=Lib.hid hs
       have HE:=Lib.hid he
       clear hs E hn b5 b6 hm he
       by_cases h0:e<1
       · clear HE
         go_enter Tryz.func202,Tryz.ntmps202
         go_wp2_with fail
         refine (impl_isSize_yes _ _ _ HS.out).mono ?_
         rintro e2 w1 ⟨rfl,rfl⟩
         have KR1:=Lib.hid (Blk.new w 27 #[.int .i64 0, .int .i64 0, .slice none 0 0])
         have HB1:=Lib.hid (Joins.below_alloc1 w (.cells #[.int .i64 0, .int .i64 0, .slice none 0 0] 27))
         obtain ⟨r0,r1,r2,r3⟩:=KR1.out.c3
         obtain ⟨q0,q1,q2⟩:=KR1.out.f3
         go_wp2_with fail
         exact bodyPost_ret (v:= .tuple #[.agg #[.int .i64 0, .int .i64 0, .slice none 0 0], .bool false]) (by simp [results,Tryz.results202,go_sem]) rfl ⟨none,0,0,rfl,OwnA.none _ _,by omega,
           by first | exact HB1.out | exact ((HB1.out.setCell (by first | (simp;done) | (simp;omega)) _).setCell (by first | (simp;done) | (simp;omega)) _).setCell (by first | (simp;done) | (simp;omega)) _⟩
       · have h1:1≤e:=by omega
         have h2:100<e:=by have:=HE.out;omega
         clear HE h0
         go_enter Tryz.func202,Tryz.ntmps202
         go_wp2_with fail
         refine (impl_isSize_yes _ _ _ HS.out).mono ?_
         rintro e2 w1 ⟨rfl,rfl⟩
         have KR1:=Lib.hid (Blk.new w 27 #[.int .i64 0, .int .i64 0, .slice none 0 0])
         have HB1:=Lib.hid (Joins.below_alloc1 w (.cells #[.int .i64 0, .int .i64 0, .slice none 0 0] 27))
         obtain ⟨r0,r1,r2,r3⟩:=KR1.out.c3
         obtain ⟨q0,q1,q2⟩:=KR1.out.f3
         go_wp2_with fail
         exact bodyPost_ret (v:= .tuple #[.agg #[.int .i64 0, .int .i64 0, .slice none 0 0], .bool false]) (by simp [results,Tryz.results202,go_sem]) rfl ⟨none,0,0,rfl,OwnA.none _ _,by omega,
           by first | exact HB1.out | exact ((HB1.out.setCell (by first | (simp;done) | (simp;omega)) _).setCell (by first | (simp;done) | (simp;omega)) _).setCell (by first | (simp;done) | (simp;omega)) _⟩
     case pos=>
       have E:seedF W H e=(⟨W,H,gen n (fun i=>if (i:Int)*7 % e=0 then 1 else 0)⟩,true):=by
         unfold seedF
         rw [if_pos ⟨hs,by omega,he.1,he.2⟩,show (W*H).toNat=n by omega]
       rw [E]
       obtain ⟨e1,e2⟩:=he
       have HS:=Lib.hid hs
       clear hs E hn b5 b6 hm
       go_enter Tryz.func202,Tryz.ntmps202
       go_wp2_with fail
       refine (impl_isSize_yes _ _ _ HS.out).mono ?_
       rintro e3 w1 ⟨rfl,rfl⟩
       go_wp2_with fail
       all_goals (try (exfalso;omega))
       refine (impl_blank W H n _ HS.out HQ.out).mono ?_
       rintro e3 w2 ⟨g,rfl,hg,ho,hb⟩
       have KR:=Lib.hid (((Blk.new w 27 #[.int .i64 0, .int .i64 0, .slice none 0 0]).below' hb).alloc (.cells #[.int .i64 W, .int .i64 H, .slice (some ⟨g,0,none⟩) n n] 27))
       have KO:=Lib.hid (Blk.new w2 27 #[.int .i64 W, .int .i64 H, .slice (some ⟨g,0,none⟩) n n])
       have HO:=Lib.hid (ho.alloc (.cells #[.int .i64 W, .int .i64 H, .slice (some ⟨g,0,none⟩) n n] 27))
       have HB:=Lib.hid (bAlloc (bTrans (Joins.below_alloc1 w _) hb) (.cells #[.int .i64 W, .int .i64 H, .slice (some ⟨g,0,none⟩) n n] 27))
       have HG:Hid (w.heap.size<g∧g<w2.heap.size):=Lib.hid ⟨by simp at hg;omega,ho.lt⟩
       clear hg ho hb
       obtain ⟨w3,hw3⟩: ∃w3,w3=w2.alloc (.cells #[.int .i64 W, .int .i64 H, .slice (some ⟨g,0,none⟩) n n] 27):=⟨_,rfl⟩
       obtain ⟨l0,o0,o1,o2⟩:=KO.out.c3
       go_wp2_with fail
       rw [←hw3] at KR KO HO HB l0 o0 o1 o2⊢
       clear hw3 l0 o0 o1 o2
       go_loopw [35] (fun i wr=> ∃k:Nat,k≤n∧i= .int .i64 k∧Hid (Own wr g n n (filled (gen n (fun i=>if (i:Int)*7 % e=0 then 1 else 0)) (List.replicate n 0) k))∧Hid (w3.grownBy wr (some g))) (fun i _=>n - (intOf i).toNat)
       case atStart=>exact ⟨0,Nat.zero_le _,rfl,Lib.hid (by rw [filled_zero];exact HO.out),Lib.hid (grown_refl _ _)⟩
       case round=>
         obtain ⟨k,hk,rfl,HK,HGR⟩:=hrel
         have KOr:=Lib.hid (KO.out.grown HGR.out (by have:=HG.out;intro e;have:=Option.some.inj e;omega))
         obtain ⟨l0,o0,o1,o2⟩:=KOr.out.c3
         by_cases hlt:k<n
         · have u2:IntKind.i64.wrap ((k:Int)*7)=(k:Int)*7:=IntWalk.i64_in _ (by omega)
           have z1: ¬e=0:=by omega
           have z2:(e==0)=false:=by simp;omega
           have u3:((k:Int)*7).tmod e=(k:Int)*7 % e:=Int.tmod_eq_emod_of_nonneg (by omega)
           have m0:0≤(k:Int)*7 % e:=Int.emod_nonneg _ z1
           have m1:(k:Int)*7 % e<e:=Int.emod_lt_of_pos _ (by omega)
           have hs:=filled_succ (gen n (fun i=>if (i:Int)*7 % e=0 then 1 else 0)) (List.replicate n 0) k _ (by rw [gen_len];exact hlt) (by simp;omega) (gen_get _ _ _ hlt)
           have h2c:=HK.out.cell hlt
           have h3c:=HK.out.frozen k
           have hx:=filled_next (gen n (fun i=>if (i:Int)*7 % e=0 then 1 else 0)) n k hlt (gen_len _ _)
           obtain ⟨R,hR⟩: ∃R,(k:Int)*7 % e=R:=⟨_,rfl⟩
           rw [hR] at u3 m0 m1 hs
           have u4:IntKind.i64.wrap R=R:=IntWalk.i64_in _ (by omega)
           have FR:=Lib.hid hR
           clear hR
           by_cases hz:R=0
           · subst hz
             rw [if_pos rfl] at hs
             have HS2:=Lib.hid hs
             have HN2:=Lib.hid (HK.out.set k 1)
             clear hs hx
             go_wp2_with fail
             go_roundw
             case rel=>exact ⟨k+1,by omega,by go_num,Lib.hid (by rw [←HS2.out];exact HN2.out),Lib.hid (grown_set HGR.out _)⟩
             case measure=>simp [intOf];omega
           · rw [if_neg hz] at hs
             have HS2:Hid (filled (gen n (fun i=>if (i:Int)*7 % e=0 then 1 else 0)) (List.replicate n 0) (k+1)=filled (gen n (fun i=>if (i:Int)*7 % e=0 then 1 else 0)) (List.replicate n 0) k):=Lib.hid (by rw [←hs,set_self hx])
             clear hs hx h2c h3c
             go_wp2_with fail
             go_roundw
             case rel=>exact ⟨k+1,by omega,by go_num,Lib.hid (by rw [HS2.out];exact HK.out),HGR⟩
             case measure=>simp [intOf];omega
         · obtain rfl:k=n:=by omega
           have HF:Hid (Own wr g k k (gen k (fun i=>if (i:Int)*7 % e=0 then 1 else 0))):=Lib.hid (by have h:=HK.out;rwa [filled_at _ _ _ (gen_len _ _) (by simp)] at h)
           have KRr:=Lib.hid (KR.out.grown HGR.out (by have:=HG.out;intro e;have:=Option.some.inj e;omega))
           have HBr:=Lib.hid (HB.out.grown HGR.out HB.out.size (by intro q hq;cases hq;have:=HG.out;omega))
           obtain ⟨z0,r0,r1,r2⟩:=KRr.out.c3
           obtain ⟨f0,f1,f2⟩:=KRr.out.f3
           go_wp2_with fail
           exact bodyPost_ret (v:= .tuple #[.agg #[.int .i64 W, .int .i64 H, .slice (some ⟨g,0,none⟩) k k], .bool true]) (by simp [results,Tryz.results202,go_sem,r0,r1,r2]) rfl
             ⟨_,_,_,rfl,OwnA.mk (((HF.out.other (by have:=HG.out;simp;omega) _).other (by have:=HG.out;simp;omega) _).other (by have:=HG.out;simp;omega) _) (by have:=HG.out;omega),by omega,
               ((HBr.out.setCell (by first | (simp;done) | (simp;omega)) _).setCell (by first | (simp;done) | (simp;omega)) _).setCell (by first | (simp;done) | (simp;omega)) _⟩
end Go.Proofs.YtmikajnpgcabfaaGreatDoor
