/-
  Contracts and plain facts on which the theorem of this claim rests, text 30.
-/
import Derived.Test.YtmikajnpgcabfaaGreatDoorSC2
import Derived.Test.YtmikajnpgcabfaaGreatDoorSC3
import Derived.Test.YtmikajnpgcabfaaGreatDoorSC25
import Derived.Test.YtmikajnpgcabfaaGreatDoorSC27
import Derived.Test.YtmikajnpgcabfaaGreatDoorSC28
import Derived.Test.YtmikajnpgcabfaaGreatDoorSC29
namespace Go.Proofs.YtmikajnpgcabfaaGreatDoor
open Go.RowKit
set_option linter.unusedVariables false
set_option linter.unusedSimpArgs false
def Named (A B W:Int) (n:Nat) (nm:Nat→Nat):Prop:= ∀i,i<n→IsName A B ((i:Int) % W) ((i:Int)/W) (nm i:Int)
theorem named_ex {A B n g d a b p q:Int} (L:Lat A B n g d a b p q) (W:Int) (m:Nat): ∃nm,Named A B W m nm:=by
 have h: ∀i:Nat,∃K:Nat,IsName A B ((i:Int) % W) ((i:Int)/W) (K:Int):=fun i=>by
   obtain ⟨K,hK⟩:=L.name_ex ((i:Int) % W) ((i:Int)/W)
   have h0:=(L.isName.1 hK).1
   exact ⟨K.toNat,by rw [show ((K.toNat:Nat):Int)=K by omega];exact hK⟩
 exact ⟨fun i=>Classical.choose (h i),fun i _=>Classical.choose_spec (h i)⟩
theorem cell_bd {W:Int} {n i:Nat} (hW:1≤W) (hn:n≤1024) (hi:i<n):0≤(i:Int) % W∧(i:Int) % W≤1024∧0≤(i:Int)/W∧(i:Int)/W≤1024∧(i:Int).tmod W=(i:Int) % W∧(i:Int).tdiv W=(i:Int)/W:=by
 have h1:=Int.emod_nonneg (i:Int) (show W≠0 by omega)
 have h2:(i:Int) % W≤i:=Int.emod_le_self
 have h3:=Int.ediv_le_self W (show 0≤(i:Int) by omega)
 exact ⟨h1,by omega,Int.ediv_nonneg (by omega) (by omega),by omega,Int.tmod_eq_emod_of_nonneg (by omega),Int.tdiv_eq_ediv_of_nonneg (by omega)⟩
where
 Int.emod_le_self {i:Nat} {W:Int}:(i:Int) % W≤i:=by
   by_cases h:W=0
   · subst h;simp
   · have:=Int.mul_ediv_add_emod (i:Int) W
     rcases Int.lt_or_gt_of_ne h with c | c
     · have e:(i:Int) % W=(i:Int) % (-W):=by rw [Int.emod_neg]
       rw [e]
       have h4:=Int.mul_ediv_add_emod (i:Int) (-W)
       have h5:0≤(i:Int)/(-W):=Int.ediv_nonneg (by omega) (by omega)
       have h6:0≤(-W)*((i:Int)/(-W)):=Int.mul_nonneg (by omega) h5
       omega
     · have h5:0≤(i:Int)/W:=Int.ediv_nonneg (by omega) (by omega)
       have h6:0≤W*((i:Int)/W):=Int.mul_nonneg (by omega) h5
       omega
def overF (A B d:Int) (N:Nat) (nm:Nat→Nat) (i:Nat):Int:=(placeC (nearK A B d) (nm i:Int) N:Int)
set_option maxRecDepth 100000 in
set_option maxHeartbeats 1600000 in
theorem impl_over {A B d:Int} {N:Nat} {g a b p q:Int} (L:Lat A B (N:Int) g d a b p q) (W H:Int) (n:Nat) (nm:Nat→Nat) (hnm:Named A B W n nm) (w1:1≤W) (w2:W≤1024) (h1:1≤H) (h2:H≤1024) (hq:(n:Int)=W*H) (hn:n≤1024) (w:World):
   Calls Tryz.prog 198 #[.agg #[.int .i64 A, .int .i64 B], .int .i64 W, .int .i64 H] w fun e w'=> ∃nb:Nat,e= .returned (.slice (some ⟨nb,0,none⟩) n n)∧w.heap.size≤nb∧Own w' nb n n (gen n (overF A B d N nm))∧Below w.heap.size w w':=by
 have n1:=L.n1;have n2:=L.n2
 have N1:0<N:=by omega
 have N2:N≤288:=by omega
 have HL:=Lib.hid L
 have HQ:=Lib.hid hq
 have HNM:Aside _:=hnm
 have hp0:0≤W*H:=by omega
 have hp1:W*H≤1024:=by omega
 clear L hq hnm
 go_enter Tryz.func198,Tryz.ntmps198
 go_wp2_with fail
 refine (impl_SpotRanks_yes HL.out _).mono ?_
 rintro e w2' ⟨rb,rfl,hrb,ho,hb⟩
 have HB2:=Lib.hid (bTrans (Joins.below_alloc1 _ _) hb)
 have KB2:=Lib.hid ((Blk.new w 139 #[.int .i64 A, .int .i64 B]).below' hb)
 have HR2:=Lib.hid ho
 clear hrb ho hb
 go_wp2_with (at_make;refine wp_make _ rfl _ _ rfl .i64 .i64 (W*H) (W*H) n rfl rfl HQ.out.symm HQ.out.symm (by omega) ?_;intro M hM)
 have HM:=Lib.hid (hM.own w2')
 have HB3:=Lib.hid (bAlloc HB2.out (.cells M 3))
 have KB3:=Lib.hid (KB2.out.alloc (.cells M 3))
 have HR3:=Lib.hid (HR2.out.alloc (.cells M 3))
 have zr:rb<w2'.heap.size:=HR2.out.lt
 have zl:w.heap.size<w2'.heap.size:=KB2.out.lt
 clear hM
 go_wp2_with fail
 go_loopw [18] (fun i wr=> ∃k:Nat,k≤n∧i= .int .i64 k∧Hid (Own wr w2'.heap.size n n (filled (gen n (overF A B d N nm)) (List.replicate n 0) k))∧Hid (Blk wr w.heap.size 139 #[.int .i64 A, .int .i64 B])∧Hid (Own wr rb N N (ranksL (nearK A B d) N))∧Hid (Below w.heap.size w wr)) (fun i _=>n - (intOf i).toNat)
 case atStart=>exact ⟨0,Nat.zero_le _,rfl,Lib.hid (by rw [filled_zero];exact HM.out),KB3,HR3,HB3⟩
 case round=>
   clear HM KB3 HR3 HB3
   obtain ⟨k,hk,rfl,HO,KB,HR,HB⟩:=hrel
   by_cases hlt:k<n
   · obtain ⟨l0,c0,c1⟩:=KB.out.c2
     obtain ⟨u1,u2,v1,v2,t1,t2⟩:=cell_bd (W:=W) w1 hn hlt
     have HNK:=Lib.hid (HNM.out k hlt)
     obtain ⟨U,hU⟩: ∃U,(k:Int) % W=U:=⟨_,rfl⟩
     obtain ⟨V,hV⟩: ∃V,(k:Int)/W=V:=⟨_,rfl⟩
     rw [hU] at u1 u2 t1 HNK
     rw [hV] at v1 v2 t2 HNK
     obtain ⟨t,ht⟩: ∃t,nm k=t:=⟨_,rfl⟩
     rw [ht] at HNK
     have tN:t<N:=by have:=(HL.out.isName.1 HNK.out).2.1;omega
     have tN2:(t:Int)<(N:Int):=by omega
     obtain ⟨R,hR⟩: ∃R,overF A B d N nm k=R:=⟨_,rfl⟩
     have cr:=own_c HR.out tN
     have cr2:((placeC (nearK A B d) (t:Int) N:Nat):Int)=R:=by rw [←hR,←ht];rfl
     rw [cr2] at cr
     have g2:=HO.out.cell hlt
     have g3:=HO.out.frozen k
     have kn:(k:Int)<(n:Int):=by omega
     have t3:IntKind.i64.wrap U=U:=IntWalk.i64_in _ (by omega)
     have t4:IntKind.i64.wrap V=V:=IntWalk.i64_in _ (by omega)
     have z1: ¬W=0:=by omega
     have z2:(W==0)=false:=by simp;omega
     have HRR:=Lib.hid hR
     clear hU hV ht hR cr2
     go_upto_region 6 with fail
     have MK:Hid (∀v,BelowL wr v→v.cell? ⟨w.heap.size,0,none⟩=some (.int .i64 A)∧v.cell? ⟨w.heap.size,1,none⟩=some (.int .i64 B)∧v.cell? ⟨rb,t,none⟩=some (.int .i64 R)∧BelowL wr v):=Lib.hid (fun v h=>⟨(h.out.cell l0).trans c0,(h.out.cell l0).trans c1,(h.out.cell HR.out.lt).trans cr,h⟩)
     refine wp_region_T 14 (fun v=>v.cell? ⟨w.heap.size,0,none⟩=some (.int .i64 A)∧v.cell? ⟨w.heap.size,1,none⟩=some (.int .i64 B)∧v.cell? ⟨rb,t,none⟩=some (.int .i64 R)∧BelowL wr v) (by kernel_rfl) (MK.out _ (BelowL.start _)) ?_
     intro hHeld
     have hb0:=limb4 hHeld
     (refine' wpAnyT_take (i:=0) (v:=?_) rfl (by kernel_rfl) (by kernel_rfl) (by kernel_rfl) (by kernel_rfl) (fun _ _ _ h=>h) (Or.inl ⟨by rfl,?_⟩) (by assumption) ?_;rotate_left;(· (intro w hSw;(try dsimp only at hSw);go_simp;try with_reducible rfl));(try simp only [Act.put,List.setIfInBounds_toArray,List.set_cons_zero,List.set_cons_succ]))
     (refine' wpAnyT_take (i:=1) (v:=?_) rfl (by kernel_rfl) (by kernel_rfl) (by kernel_rfl) (by kernel_rfl) (fun _ _ _ h=>h) (Or.inl ⟨by rfl,?_⟩) (by assumption) ?_;rotate_left;(· (intro w hSw;(try dsimp only at hSw);go_simp;try with_reducible rfl));(try simp only [Act.put,List.setIfInBounds_toArray,List.set_cons_zero,List.set_cons_succ]))
     (refine' wpAnyT_take (i:=2) (v:=?_) rfl (by kernel_rfl) (by kernel_rfl) (by kernel_rfl) (by kernel_rfl) (fun _ _ _ h=>h) (Or.inl ⟨by rfl,?_⟩) (by assumption) ?_;rotate_left;(· (intro w hSw;(try dsimp only at hSw);go_simp;try with_reducible rfl));(try simp only [Act.put,List.setIfInBounds_toArray,List.set_cons_zero,List.set_cons_succ]))
     (refine' wpAnyT_take (i:=3) (v:=?_) rfl (by kernel_rfl) (by kernel_rfl) (by kernel_rfl) (by kernel_rfl) (fun _ _ _ h=>h) (Or.inl ⟨by rfl,?_⟩) (by assumption) ?_;rotate_left;(· (intro w hSw;(try dsimp only at hSw);go_simp;try with_reducible rfl));(try simp only [Act.put,List.setIfInBounds_toArray,List.set_cons_zero,List.set_cons_succ]))
     (refine' wpAnyT_take (i:=4) (v:=?_) rfl (by kernel_rfl) (by kernel_rfl) (by kernel_rfl) (by kernel_rfl) (fun _ _ _ h=>h) (Or.inl ⟨by rfl,?_⟩) (by assumption) ?_;rotate_left;(· (intro w hSw;(try dsimp only at hSw);go_simp;try with_reducible rfl));(try simp only [Act.put,List.setIfInBounds_toArray,List.set_cons_zero,List.set_cons_succ]))
     (refine' wpAnyT_take (i:=5) (v:=?_) rfl (by kernel_rfl) (by kernel_rfl) (by kernel_rfl) (by kernel_rfl) (fun _ _ _ h=>h) (Or.inl ⟨by rfl,?_⟩) (by assumption) ?_;rotate_left;(· (intro w hSw;(try dsimp only at hSw);go_simp;try with_reducible rfl));(try simp only [Act.put,List.setIfInBounds_toArray,List.set_cons_zero,List.set_cons_succ]))
     (refine' wpAnyT_take (i:=6) (v:=?_) rfl (by kernel_rfl) (by kernel_rfl) (by kernel_rfl) (by kernel_rfl) (fun _ _ _ h=>h) (Or.inl ⟨by rfl,?_⟩) (by assumption) ?_;rotate_left;(· (intro w hSw;(try dsimp only at hSw);go_simp;try with_reducible rfl));(try simp only [Act.put,List.setIfInBounds_toArray,List.set_cons_zero,List.set_cons_succ]))
     (refine' wpAnyT_take (i:=7) (v:=?_) rfl (by kernel_rfl) (by kernel_rfl) (by kernel_rfl) (by kernel_rfl) (fun _ _ _ h=>h) (Or.inl ⟨by rfl,?_⟩) (by assumption) ?_;rotate_left;(· (intro w hSw;(try dsimp only at hSw);go_simp;try with_reducible rfl));(try simp only [Act.put,List.setIfInBounds_toArray,List.set_cons_zero,List.set_cons_succ]))
     (refine' wpAnyT_take (i:=8) (v:=?_) rfl (by kernel_rfl) (by kernel_rfl) (by kernel_rfl) (by kernel_rfl) (fun _ _ _ h=>h) (Or.inl ⟨by rfl,?_⟩) (by assumption) ?_;rotate_left;(· (intro w hSw;(try dsimp only at hSw);go_simp;try with_reducible rfl));(try simp only [Act.put,List.setIfInBounds_toArray,List.set_cons_zero,List.set_cons_succ]))
     (refine' wpAnyT_take (i:=9) (v:=?_) rfl (by kernel_rfl) (by kernel_rfl) (by kernel_rfl) (by kernel_rfl) (fun _ _ _ h=>h) (Or.inl ⟨by rfl,?_⟩) (by assumption) ?_;rotate_left;(· (intro w hSw;(try dsimp only at hSw);go_simp;try with_reducible rfl));(try simp only [Act.put,List.setIfInBounds_toArray,List.set_cons_zero,List.set_cons_succ]))
     refine wpAnyT_one (i:=10) (by kernel_rfl) rfl (fun K hK=>?_)
     go_simp
     go_at_call 243
     ((with_reducible refine (impl_NameOf_yes HL.out U V _ (by omega) (by omega) (by omega) (by omega) HNK.out _).mono ?_);rintro e v1 ⟨rfl,hq1⟩)
     have hb1:=BelowL.call hb0 hq1
     go_wp2_with fail
     refine hK.out _ _ (fun _=>by (try dsimp only);exact MK.out _ hb1) (fun hH2=>?_)
     clear hK K hHeld
     have hHeld:=hH2 (by decide)
     (refine' wpAnyT_take (i:=11) (v:=?_) rfl (by kernel_rfl) (by kernel_rfl) (by kernel_rfl) (by kernel_rfl) (fun _ _ _ h=>h) (Or.inl ⟨by rfl,?_⟩) (by assumption) ?_;rotate_left;(· (intro w hSw;(try dsimp only at hSw);go_simp;try with_reducible rfl));(try simp only [Act.put,List.setIfInBounds_toArray,List.set_cons_zero,List.set_cons_succ]))
     (refine' wpAnyT_take (i:=12) (v:=?_) rfl (by kernel_rfl) (by kernel_rfl) (by kernel_rfl) (by kernel_rfl) (fun _ _ _ h=>h) (Or.inl ⟨by rfl,?_⟩) (by assumption) ?_;rotate_left;(· (intro w hSw;(try dsimp only at hSw);go_simp;try with_reducible rfl));(try simp only [Act.put,List.setIfInBounds_toArray,List.set_cons_zero,List.set_cons_succ]))
     (refine' wpAnyT_take (i:=13) (v:=?_) rfl (by kernel_rfl) (by kernel_rfl) (by kernel_rfl) (by kernel_rfl) (fun _ _ _ h=>h) (Or.inl ⟨by rfl,?_⟩) (by assumption) ?_;rotate_left;(· (intro w hSw;(try dsimp only at hSw);go_simp;try with_reducible rfl));(try simp only [Act.put,List.setIfInBounds_toArray,List.set_cons_zero,List.set_cons_succ]))
     have g2:=(hb1.out.cell (p:=⟨w2'.heap.size,k,none⟩) HO.out.lt).trans g2
     have g3:=(hb1.out.frozen (p:=⟨w2'.heap.size,k,none⟩) HO.out.lt).trans g3
     refine wpAnyT_one (i:=14) (by kernel_rfl) rfl (fun K hK=>?_)
     go_simp
     have HO4:Hid (Own (v1.setCell ⟨w2'.heap.size,k,none⟩ (.int .i64 R)) w2'.heap.size n n (filled (gen n (overF A B d N nm)) (List.replicate n 0) (k+1))):=Lib.hid (by
       have h:=(HO.out.below hb1.out HO.out.lt).set k R
       rwa [filled_succ (gen n (overF A B d N nm)) _ k _ (by rw [gen_len];exact hlt) (by simp;omega) (by rw [gen_get _ _ _ hlt];exact HRR.out)] at h)
     refine hK.out _ _ (fun h=>absurd h (by decide)) (fun hH2=>?_)
     clear hK K hH2
     refine wpAnyT_done (by kernel_rfl) ?_ _
     (try go_simp)
     go_wp2_with fail
     go_roundw
     case rel=>exact ⟨k+1,by omega,by go_num,HO4,Lib.hid ((KB.out.below hb1.out KB.out.lt).other (by simp;omega) _),Lib.hid ((HR.out.below hb1.out HR.out.lt).other (by simp;omega) _),Lib.hid ((bTrans HB.out hb1.out).setCell (by simp;omega) _)⟩
     case measure=>simp [intOf];omega
   · obtain rfl:k=n:=by omega
     have HE:Hid (Own wr w2'.heap.size k k (gen k (overF A B d N nm))):=Lib.hid (by have h:=HO.out;have e:=filled_all (gen k (overF A B d N nm)) (List.replicate k 0) (by simp [gen_len]);rw [gen_len] at e;rwa [e] at h)
     go_wp2_with fail
     go_ret
     exact ⟨_,rfl,by omega,HE.out,HB.out⟩
def overK (A B d:Int) (N:Nat) (nm:Nat→Nat) (i:Int):Int:=overF A B d N nm i.toNat
theorem matSqB {d:Int} (h:matSize d d=true):1≤d∧d≤256∧d*d≤256:=by
 simp only [matSize,decide_eq_true_eq] at h;exact ⟨h.1,h.2.1,h.2.2.2.2⟩
set_option maxRecDepth 100000 in
set_option maxHeartbeats 1600000 in
theorem impl_SpotMatrix_yes {A B d:Int} {N:Nat} {g a b p q:Int} (L:Lat A B (N:Int) g d a b p q) (n:Nat) (nm:Nat→Nat) (hnm:Named A B d n nm) (hs:matSize d d=true) (hq:(n:Int)=d*d) (w:World):
   Calls Tryz.prog 144 #[.agg #[.int .i64 A, .int .i64 B]] w (MatOut2 w (⟨d,d,ranksL (overK A B d N nm) n⟩,true)):=by
 obtain ⟨b1,b2,b3⟩:=matSqB hs
 have nb1:n≤256:=by omega
 have b5:1*1≤d*d:=Int.mul_le_mul b1 b1 (by omega) (by omega)
 have nb0:1≤n:=by omega
 have HL:=Lib.hid L
 have HQ:=Lib.hid hq
 have HS:=Lib.hid hs
 have HNM:Aside _:=hnm
 clear L hq hs hnm b3 b5
 go_enter Tryz.func144,Tryz.ntmps144
 go_wp2_with fail
 refine (impl_PeriodOf_yes HL.out _).mono ?_
 rintro e w1 ⟨rfl,hb⟩
 have HB1:=Lib.hid (bTrans (Joins.below_alloc2 _ _ _) hb)
 have KL1:=Lib.hid (((Blk.new w 139 #[.int .i64 A, .int .i64 B]).alloc (.cells #[.int .i64 0, .int .i64 0, .slice none 0 0] 31)).below' hb)
 have KP1:=Lib.hid ((Blk.new' (g:=w.heap.size+1) (w:=w.alloc (.cells #[.int .i64 A, .int .i64 B] 139)) 31 #[.int .i64 0, .int .i64 0, .slice none 0 0] (by simp)).below' hb)
 obtain ⟨z,c0,c1⟩:=KL1.out.c2
 clear hb
 go_wp2_with fail
 refine (impl_IsLattice _ _ _).mono ?_
 rw [lat_ok HL.out]
 rintro e w2 ⟨rfl,hb⟩
 have HB2:=Lib.hid (bTrans HB1.out hb)
 have KL2:=Lib.hid (KL1.out.below' hb)
 have KP2:=Lib.hid (KP1.out.below' hb)
 clear hb z c0 c1
 go_wp2_with fail
 refine (impl_isMatrixSize_yes _ _ _ HS.out).mono ?_
 rintro e w2 ⟨rfl,rfl⟩
 obtain ⟨z,c0,c1⟩:=KL2.out.c2
 go_wp2_with fail
 refine (impl_over HL.out d d n nm HNM.out b1 (by omega) b1 (by omega) HQ.out (by omega) _).mono ?_
 rintro e w3 ⟨rb,rfl,hrb,ho,hb⟩
 have HB3:=Lib.hid (bTrans HB2.out hb)
 have KP3:=Lib.hid (KP2.out.below' hb)
 have HO3:=Lib.hid ho
 clear hb z c0 c1 hrb ho
 have EG:Hid (∀args w,(callFunc 201 args).run Tryz.prog w= .ok (.enter 201 args) w):=Lib.hid (enters5 _ _ _ Tryz.func201 (by kernel_rfl) rfl)
 have OR:Hid (∀v,Below w3.heap.size w3 v→ ∀i k:Nat,i<n→k<n→Calls Tryz.prog 201 (#[.int .i64 (overF A B d N nm i), .int .i64 (overF A B d N nm k)]++#[]) v fun e v'=> ∃c:Int,e= .returned (.int .i64 c)∧(c<0↔overK A B d N nm (i:Int)<overK A B d N nm (k:Int))∧Below v.heap.size v v'):=Lib.hid (fun v hv i k hi hk=>(cmp5 (overF A B d N nm i) (overF A B d N nm k) v).mono (fun e v' ⟨c,h1,h2,h3⟩=>⟨c,h1,h2,by subst h3;exact Below.refl _ _⟩))
 have CI:Hid (∀t,t<n→w3.cell? ⟨rb,t,none⟩=some (.int .i64 (overF A B d N nm t))):=Lib.hid (fun t ht=>own_c HO3.out ht)
 have ZI:=Lib.hid HO3.out.lt
 go_wp2_with fail
 refine (seqNum 201 #[] rb n (overF A B d N nm) (overK A B d N nm) _ EG.out (by omega) nb0 CI.out ZI.out OR.out).mono ?_
 rintro e w5 ⟨f,blk,rfl,hbl,ho,hg,hb⟩
 have HB5:=Lib.hid (bTrans HB3.out hb)
 have KP5:=Lib.hid (KP3.out.below' hb)
 have HO5:=Lib.hid ho
 have HG5:=Lib.hid hg
 clear hbl ho hg hb
 go_wp2_with fail
 refine (placesIn5 (overK A B d N nm) f blk n _ HO5.out HG5.out (by omega)).mono ?_
 rintro e w6 ⟨nb,rfl,hnb,ho,hb⟩
 have HB6:=Lib.hid (bTrans HB5.out hb)
 have KP6:=Lib.hid (KP5.out.below' hb)
 have HO6:=Lib.hid ho
 have l5:w.heap.size+1<nb:=Nat.lt_of_lt_of_le KP5.out.lt hnb
 clear hnb ho hb
 obtain ⟨r0,r1,r2,r3⟩:=KP6.out.c3
 obtain ⟨q0,q1,q2⟩:=KP6.out.f3
 go_wp2_with fail
 exact bodyPost_ret (v:= .tuple #[.agg #[.int .i64 d, .int .i64 d, .slice (some ⟨nb,0,none⟩) n n], .bool true]) (by simp [results,Tryz.results144,go_sem,r1,r2,r3]) rfl
   ⟨_,_,_,rfl,OwnA.mk (((HO6.out.other (by simp;omega) _).other (by simp;omega) _).other (by simp;omega) _) (by omega),by omega,
     ((HB6.out.setCell (by first | (simp;done) | (simp;omega)) _).setCell (by first | (simp;done) | (simp;omega)) _).setCell (by first | (simp;done) | (simp;omega)) _⟩
set_option maxHeartbeats 800000 in
theorem impl_SpotMatrix_no1 {A B:Int} (h:latOk A B=false) (w:World):
   Calls Tryz.prog 144 #[.agg #[.int .i64 A, .int .i64 B]] w (MatOut2 w (noMat,false)):=by
 have HL:=Lib.hid h
 clear h
 go_enter Tryz.func144,Tryz.ntmps144
 go_wp2_with fail
 refine (impl_PeriodOf_no HL.out _).mono ?_
 rintro e w1 ⟨rfl,hb⟩
 have HB1:=Lib.hid (bTrans (Joins.below_alloc2 _ _ _) hb)
 have KL1:=Lib.hid (((Blk.new w 139 #[.int .i64 A, .int .i64 B]).alloc (.cells #[.int .i64 0, .int .i64 0, .slice none 0 0] 31)).below' hb)
 have KP1:=Lib.hid ((Blk.new' (g:=w.heap.size+1) (w:=w.alloc (.cells #[.int .i64 A, .int .i64 B] 139)) 31 #[.int .i64 0, .int .i64 0, .slice none 0 0] (by simp)).below' hb)
 obtain ⟨z,c0,c1⟩:=KL1.out.c2
 clear hb
 go_wp2_with fail
 refine (impl_IsLattice _ _ _).mono ?_
 rw [HL.out]
 rintro e w2 ⟨rfl,hb⟩
 have HB2:=Lib.hid (bTrans HB1.out hb)
 have KP2:=Lib.hid (KP1.out.below' hb)
 clear hb z c0 c1
 obtain ⟨r0,r1,r2,r3⟩:=KP2.out.c3
 obtain ⟨q0,q1,q2⟩:=KP2.out.f3
 go_wp2_with fail
 exact bodyPost_ret (v:= .tuple #[.agg #[.int .i64 0, .int .i64 0, .slice none 0 0], .bool false]) (by simp [results,Tryz.results144,go_sem,r1,r2,r3]) rfl ⟨none,0,0,rfl,OwnA.none _ _,by omega,
   ((HB2.out.setCell (by first | (simp;done) | (simp;omega)) _).setCell (by first | (simp;done) | (simp;omega)) _).setCell (by first | (simp;done) | (simp;omega)) _⟩
set_option maxHeartbeats 800000 in
theorem impl_SpotMatrix_no2 {A B d:Int} {N:Nat} {g a b p q:Int} (L:Lat A B (N:Int) g d a b p q) (hs: ¬matSize d d=true) (w:World):
   Calls Tryz.prog 144 #[.agg #[.int .i64 A, .int .i64 B]] w (MatOut2 w (noMat,false)):=by
 have HL:=Lib.hid L
 have HS:=Lib.hid hs
 clear L hs
 go_enter Tryz.func144,Tryz.ntmps144
 go_wp2_with fail
 refine (impl_PeriodOf_yes HL.out _).mono ?_
 rintro e w1 ⟨rfl,hb⟩
 have HB1:=Lib.hid (bTrans (Joins.below_alloc2 _ _ _) hb)
 have KL1:=Lib.hid (((Blk.new w 139 #[.int .i64 A, .int .i64 B]).alloc (.cells #[.int .i64 0, .int .i64 0, .slice none 0 0] 31)).below' hb)
 have KP1:=Lib.hid ((Blk.new' (g:=w.heap.size+1) (w:=w.alloc (.cells #[.int .i64 A, .int .i64 B] 139)) 31 #[.int .i64 0, .int .i64 0, .slice none 0 0] (by simp)).below' hb)
 obtain ⟨z,c0,c1⟩:=KL1.out.c2
 clear hb
 go_wp2_with fail
 refine (impl_IsLattice _ _ _).mono ?_
 rw [lat_ok HL.out]
 rintro e w2 ⟨rfl,hb⟩
 have HB2:=Lib.hid (bTrans HB1.out hb)
 have KP2:=Lib.hid (KP1.out.below' hb)
 clear hb z c0 c1
 go_wp2_with fail
 refine (impl_isMatrixSize_no _ _ _ HS.out).mono ?_
 rintro e w2 ⟨rfl,rfl⟩
 obtain ⟨r0,r1,r2,r3⟩:=KP2.out.c3
 obtain ⟨q0,q1,q2⟩:=KP2.out.f3
 go_wp2_with fail
 exact bodyPost_ret (v:= .tuple #[.agg #[.int .i64 0, .int .i64 0, .slice none 0 0], .bool false]) (by simp [results,Tryz.results144,go_sem,r1,r2,r3]) rfl ⟨none,0,0,rfl,OwnA.none _ _,by omega,
   ((HB2.out.setCell (by first | (simp;done) | (simp;omega)) _).setCell (by first | (simp;done) | (simp;omega)) _).setCell (by first | (simp;done) | (simp;omega)) _⟩
def nearK2 (A B d:Int) (i:Int):Int:=nearF A B (i % d) (i/d)
theorem own_nil5 (w:World):Own (w.alloc (.cells #[] 3)) w.heap.size 0 0 []:=
 ⟨rfl,#[],heap_alloc_new w _,Nat.le_refl _,Nat.zero_le _,rfl,rfl⟩
theorem place_yes {key:Int→Int} {i k:Nat} (h:key (k:Int)<key (i:Int)∨(key (k:Int)=key (i:Int)∧k<i)):placeC key (i:Int) (k+1)=placeC key (i:Int) k+1:=by
 have:RLb key (k:Int) (i:Int)=true:=RLb_iff.2 (by unfold RL;omega)
 rw [placeC,if_pos this]
theorem place_no {key:Int→Int} {i k:Nat} (h: ¬(key (k:Int)<key (i:Int)∨(key (k:Int)=key (i:Int)∧k<i))):placeC key (i:Int) (k+1)=placeC key (i:Int) k:=by
 have: ¬RLb key (k:Int) (i:Int)=true:=fun e=>h (by have:=RLb_iff.1 e;unfold RL at this;omega)
 rw [placeC,if_neg this,Nat.add_zero]
set_option maxRecDepth 100000 in
set_option maxHeartbeats 3200000 in
theorem spec_l5Places (key:Int→Int) (ad:Option Addr) (n cap:Nat) (w:World) (ha:Rd w ad (gen n (fun k=>key (k:Int)))) (hn:n≤100000):
   Calls Tryz.prog 170 #[.slice ad n cap] w fun e w'=> ∃(a3:Option Addr) (c3:Nat),e= .returned (.slice a3 n c3)∧OwnA w' w.heap.size a3 n c3 (gen n (fun i=>(placeC key (i:Int) n:Int)))∧Below w.heap.size w w':=by
 have HA:=Lib.hid ha
 clear ha
 go_enter Tryz.func170,Tryz.ntmps170
 go_wp2_with fail
 go_loopw [3,12] (fun s i wr=> ∃(k:Nat) (a3:Option Addr) (c3:Nat),k≤n∧i= .int .i64 k∧s= .slice a3 k c3∧OwnA wr w.heap.size a3 k c3 (gen k (fun i=>(placeC key (i:Int) n:Int)))∧Below w.heap.size w wr) (fun _ i _=>n - (intOf i).toNat)
 case atStart=>exact ⟨0,_,0,Nat.zero_le _,rfl,rfl,OwnA.mk (own_nil5 _) (Nat.le_refl _),Joins.below_alloc1 _ _⟩
 case round=>
   obtain ⟨k,a3,c3,hk,rfl,rfl,ho,hnx⟩:=hrel
   have HO:=Lib.hid ho
   have HW:=Lib.hid hnx
   clear ho hnx
   by_cases hlt:k<n
   · obtain ⟨ba,oa,hae,hal,hac⟩:=(HA.out.below HW.out).at (by rw [gen_len];omega)
     subst hae
     have HAC:=Lib.hid hac
     have h1:=hac k (by rw [gen_len];exact hlt)
     rw [gen_get _ _ _ hlt] at h1
     obtain ⟨y,hy⟩: ∃y,key (k:Int)=y:=⟨_,rfl⟩
     rw [hy] at h1
     have HY:=Lib.hid hy
     clear hac hy
     go_wp2_with fail
     go_loop [6,19] (fun c i=> ∃j:Nat,j≤n∧i= .int .i64 j∧c= .int .i64 (placeC key (k:Int) j:Nat)) (fun _ i=>n - (intOf i).toNat)
     case atStart=>exact ⟨0,Nat.zero_le _,rfl,rfl⟩
     case round=>
       obtain ⟨j,hj,rfl,rfl⟩:=hrel
       have pl:=placeC_le key (k:Int) j
       obtain ⟨P,hP⟩: ∃P:Nat,placeC key (k:Int) j=P:=⟨_,rfl⟩
       rw [hP] at pl⊢
       have HP:=Lib.hid hP
       clear hP
       by_cases hlt2:j<n
       · have h2:=HAC.out j (by rw [gen_len];exact hlt2)
         rw [gen_get _ _ _ hlt2] at h2
         obtain ⟨x,hx⟩: ∃x,key (j:Int)=x:=⟨_,rfl⟩
         rw [hx] at h2
         have HX:=Lib.hid hx
         clear hx
         by_cases q1:x<y
         · have HS:=Lib.hid (place_yes (key:=key) (i:=k) (k:=j) (Or.inl (by rw [HX.out,HY.out];exact q1)))
           go_wp2_with fail
           go_round
           case rel=>exact ⟨j+1,by omega,by go_num,by rw [HS.out,HP.out];go_num⟩
           case measure=>simp [intOf];omega
         · by_cases q2:x=y
           · subst q2
             have q3:(x==x)=true:=by simp
             by_cases q4:j<k
             · have HS:=Lib.hid (place_yes (key:=key) (i:=k) (k:=j) (Or.inr ⟨by rw [HX.out,HY.out],q4⟩))
               go_wp2_with fail
               go_round
               case rel=>exact ⟨j+1,by omega,by go_num,by rw [HS.out,HP.out];go_num⟩
               case measure=>simp [intOf];omega
             · have HS:=Lib.hid (place_no (key:=key) (i:=k) (k:=j) (by rw [HX.out,HY.out];omega))
               go_wp2_with fail
               go_round
               case rel=>exact ⟨j+1,by omega,by go_num,by rw [HS.out,HP.out]⟩
               case measure=>simp [intOf];omega
           · have q3:(x==y)=false:=by simpa using q2
             have HS:=Lib.hid (place_no (key:=key) (i:=k) (k:=j) (by rw [HX.out,HY.out];omega))
             go_wp2_with fail
             go_round
             case rel=>exact ⟨j+1,by omega,by go_num,by rw [HS.out,HP.out]⟩
             case measure=>simp [intOf];omega
       · obtain rfl:j=n:=by omega
         go_wp2_with (at_builtin;refine wp_append _ rfl (.tmp 40) (.tmp 42) rfl w.heap.size k c3 a3 _ rfl (HO.out.alloc _) wr.heap.size (P:Int) rfl (by go_simp) (by omega) (by have:=HW.out.size;simp;omega) ?_;intro ad2 cap2 w5 ho5 hg5)
         have HW5:=Lib.hid (((HW.out.alloc HW.out.size _)).grown hg5 (by have:=HW.out.size;simp;omega) (fun b hb=>by have:=HO.out.bd b hb;omega))
         rw [←HP.out,gen_snoc] at ho5
         have HO5:=Lib.hid ho5
         clear ho5 hg5
         go_roundw
         case rel=>exact ⟨k+1,ad2,cap2,by omega,by go_num,rfl,HO5.out,HW5.out⟩
         case measure=>simp [intOf];omega
   · go_wp2_with fail
     go_ret
     obtain rfl:n=k:=by omega
     exact ⟨_,_,rfl,HO.out,HW.out⟩
set_option maxRecDepth 100000 in
set_option maxHeartbeats 3200000 in
theorem spec_SpotRanks_yes {A B d:Int} {N:Nat} {g a b p q:Int} (L:Lat A B (N:Int) g d a b p q) (w:World):
   Calls Tryz.prog 168 #[.agg #[.int .i64 A, .int .i64 B]] w fun e w'=> ∃(a3:Option Addr) (c3:Nat),e= .returned (.slice a3 N c3)∧OwnA w' w.heap.size a3 N c3 (gen N (fun i=>(placeC (nearK2 A B d) (i:Int) N:Int)))∧Below w.heap.size w w':=by
 have n1:=L.n1;have n2:=L.n2
 have N1:0<N:=by omega
 have N2:N≤288:=by omega
 have HL:=Lib.hid L
 clear L
 go_enter Tryz.func168,Tryz.ntmps168
 go_wp2_with fail
 refine (spec_IsLattice _ _ _).mono ?_
 rw [lat_ok HL.out]
 rintro e w1 ⟨rfl,hb⟩
 have HB1:=Lib.hid (bTrans (Joins.below_alloc1 _ _) hb)
 have KB1:=Lib.hid ((Blk.new w 139 #[.int .i64 A, .int .i64 B]).below' hb)
 clear hb
 go_wp2_with fail
 go_loopw [3,4] (fun s i wr=> ∃(k:Nat) (a3:Option Addr) (c3:Nat),k≤N∧i= .int .i64 k∧s= .slice a3 k c3∧OwnA wr w1.heap.size a3 k c3 (gen k (fun i=>nearK2 A B d (i:Int)))∧Below w1.heap.size w1 wr) (fun _ i _=>N - (intOf i).toNat)
 case atStart=>exact ⟨0,_,0,Nat.zero_le _,rfl,rfl,OwnA.mk (own_nil5 _) (Nat.le_refl _),Joins.below_alloc1 _ _⟩
 case round=>
   obtain ⟨k,a3,c3,hk,rfl,rfl,ho,hnx⟩:=hrel
   have HO:=Lib.hid ho
   have HW:=Lib.hid hnx
   have KR:=Lib.hid (KB1.out.below' hnx)
   clear ho hnx
   obtain ⟨z,c0,c1⟩:=KR.out.c2
   go_wp2_with fail
   refine (spec_l5Area HL.out _).mono ?_
   rintro e w2 ⟨rfl,hb⟩
   have HW2:=Lib.hid (bTrans HW.out hb)
   have HO2:=Lib.hid (HO.out.below' hb)
   have KR2:=Lib.hid (KR.out.below' hb)
   clear hb z c0 c1 HW HO KR
   obtain ⟨z,c0,c1⟩:=KR2.out.c2
   by_cases hlt:k<N
   · have kn:(k:Int)<(N:Int):=by omega
     obtain ⟨R,hR⟩: ∃R,nearK2 A B d (k:Int)=R:=⟨_,rfl⟩
     have HRR:=Lib.hid hR
     have HNR:=Lib.hid (show nearF A B ((k:Int) % d) ((k:Int)/d)=R from hR)
     clear hR
     go_wp2_with fail
     refine (spec_l5Near HL.out (k:Int) R (by omega) (by omega) HNR.out _).mono ?_
     rintro e w3 ⟨rfl,hb⟩
     have HW3:=Lib.hid (bTrans HW2.out hb)
     have HO3:=Lib.hid (HO2.out.below' hb)
     clear hb z c0 c1
     go_wp2_with (at_builtin;refine wp_append _ rfl (.tmp 15) (.tmp 19) rfl w1.heap.size k c3 a3 _ rfl (HO3.out.alloc _) w3.heap.size R rfl (by go_simp) (by omega) (by have:=HW3.out.size;simp;omega) ?_;intro ad2 cap2 w5 ho5 hg5)
     have HW5:=Lib.hid (((HW3.out.alloc HW3.out.size _)).grown hg5 (by have:=HW3.out.size;simp;omega) (fun b hb=>by have:=HO3.out.bd b hb;omega))
     rw [←HRR.out,gen_snoc k (fun i=>nearK2 A B d (i:Int))] at ho5
     have HO5:=Lib.hid ho5
     clear ho5 hg5
     go_roundw
     case rel=>exact ⟨k+1,ad2,cap2,by omega,by go_num,rfl,HO5.out,HW5.out⟩
     case measure=>simp [intOf];omega
   · obtain rfl:k=N:=by omega
     have HBr:=Lib.hid (bTrans HB1.out HW2.out)
     go_wp2_with fail
     refine (spec_l5Places (nearK2 A B d) a3 k c3 _ (by exact HO2.out.rd) (by omega)).mono ?_
     rintro e w3 ⟨a4,c4,rfl,ho,hb⟩
     have HB3:=Lib.hid (bTrans HBr.out hb)
     have HO3:=Lib.hid (ho.mono HBr.out.size)
     clear ho hb
     go_wp2_with fail
     go_ret
     exact ⟨_,_,rfl,HO3.out,HB3.out⟩
end Go.Proofs.YtmikajnpgcabfaaGreatDoor
