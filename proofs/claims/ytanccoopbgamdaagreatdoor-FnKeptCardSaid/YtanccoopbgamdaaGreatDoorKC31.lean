/-
  Contracts and plain facts on which the theorem of this claim rests, text 31.
-/
import Derived.Test.YtanccoopbgamdaaGreatDoorKC2
import Derived.Test.YtanccoopbgamdaaGreatDoorKC3
import Derived.Test.YtanccoopbgamdaaGreatDoorKC5
import Derived.Test.YtanccoopbgamdaaGreatDoorKC7
import Derived.Test.YtanccoopbgamdaaGreatDoorKC23
import Derived.Test.YtanccoopbgamdaaGreatDoorKC27
import Derived.Test.YtanccoopbgamdaaGreatDoorKC28
import Derived.Test.YtanccoopbgamdaaGreatDoorKC30
namespace Go.Proofs.YtanccoopbgamdaaGreatDoor
open Go.RowKit
set_option linter.unusedVariables false
set_option linter.unusedSimpArgs false
def StepSt (w wx:World) (A B d g:Int) (v7 v8:Value):Prop:=v7= .int .i64 d∧ ∃(gb:Nat) (sx:Int),v8= .pointer (some ⟨gb,0,none⟩)∧w.heap.size≤gb∧Blk wx gb 149 #[.int .i64 sx, .int .i64 g]∧HasL A B sx g∧-1000≤sx∧sx≤1000∧Below w.heap.size w wx
theorem step_last {w v:World} {A B d g sx:Int} (hB:BelowL w v) (hs:HasL A B sx g) (s1:-1000≤sx) (s2:sx≤1000):StepSt w (v.alloc (.cells #[.int .i64 sx, .int .i64 g] 149)) A B d g (.int .i64 d) (.pointer (some ⟨v.heap.size,0,none⟩)):=
 ⟨rfl,v.heap.size,sx,rfl,hB.le,Blk.new _ _ _,hs,s1,s2,bAlloc hB.out _⟩
theorem step_set {w v:World} {A B d g sx:Int} {gb:Nat} (hB:BelowL w v) (hg:w.heap.size≤gb) (hk:Blk v gb 149 #[.int .i64 0, .int .i64 0]) (hs:HasL A B sx g) (s1:-1000≤sx) (s2:sx≤1000):StepSt w ((v.setCell ⟨gb,0,none⟩ (.int .i64 sx)).setCell ⟨gb,1,none⟩ (.int .i64 g)) A B d g (.int .i64 d) (.pointer (some ⟨gb,0,none⟩)):=
 ⟨rfl,gb,sx,rfl,hg,by exact (hk.set 0 _).set 1 _,hs,s1,s2,(hB.out.setCell (p:=⟨gb,0,none⟩) (by exact hg) _).setCell (p:=⟨gb,1,none⟩) (by exact hg) _⟩
theorem name_math {A B n g d a b p q x y K sx:Int} (L:Lat A B n g d a b p q) (hK:IsName A B x y K) (hs:HasL A B sx g):y % g*d+(x - (y - y % g)/g*sx) % d=K:=
 L.name_one (L.name_by hs) hK
set_option maxRecDepth 100000 in
set_option maxHeartbeats 1600000 in
theorem impl_NameOf_yes {A B n g d a b p q:Int} (L:Lat A B n g d a b p q) (x y K:Int) (x1:-100000≤x) (x2:x≤100000) (y1:-100000≤y) (y2:y≤100000) (hK:IsName A B x y K) (w:World):
   Calls Tryz.prog 155 #[.agg #[.int .i64 A, .int .i64 B], .int .i64 x, .int .i64 y] w fun e w'=>e= .returned (.int .i64 K)∧Below w.heap.size w w':=by
 have HL:=Lib.hid L
 have HK:=Lib.hid hK
 have g1:=L.g1;have g2:=L.g2;have d1:=L.w1;have d2:=L.w2
 clear L hK
 go_enter Tryz.func155,Tryz.ntmps155
 go_wp2_with fail
 refine (impl_IsLattice _ _ _).mono ?_
 rw [lat_ok HL.out]
 rintro e w1 ⟨rfl,hb⟩
 have HB1:=Lib.hid (bTrans (Joins.below_alloc1 _ _) hb)
 have KB1:=Lib.hid ((Blk.new w 126 #[.int .i64 A, .int .i64 B]).below' hb)
 clear hb
 obtain ⟨z,c0,c1⟩:=KB1.out.c2
 go_wp2_with fail
 refine (impl_isPlace _ _).mono ?_
 rw [decide_eq_true (show -100000≤x∧x≤100000 from ⟨x1,x2⟩)]
 rintro e w2 ⟨rfl,rfl⟩
 go_wp2_with fail
 refine (impl_isPlace _ _).mono ?_
 rw [decide_eq_true (show -100000≤y∧y≤100000 from ⟨y1,y2⟩)]
 rintro e w2 ⟨rfl,rfl⟩
 clear z c0 c1
 go_upto_region 3 with fail
 go_cut [7,8] (fun s7 s8 wx=>StepSt w1 wx A B d g s7 s8)
 case first=>
   obtain ⟨z,c0,c1⟩:=KB1.out.c2
   have MK:Hid (∀v,BelowL w1 v→v.cell? ⟨w.heap.size,0,none⟩=some (.int .i64 A)∧v.cell? ⟨w.heap.size,1,none⟩=some (.int .i64 B)∧BelowL w1 v):=Lib.hid (fun v h=>⟨(h.out.cell z).trans c0,(h.out.cell z).trans c1,h⟩)
   refine wp_region_held_drew (S:=fun v=>v.cell? ⟨w.heap.size,0,none⟩=some (.int .i64 A)∧v.cell? ⟨w.heap.size,1,none⟩=some (.int .i64 B)∧BelowL w1 v) (by kernel_rfl) (MK.out _ (BelowL.start _)) ?_
   intro hHeld
   have hb0:=limb3 hHeld
   refine hTake 0 ?_
   refine hTake 2 ?_
   refine wpAnyH_ready (rs:=[1,4]) (by kernel_rfl) (by simp) ?_
   refine AllReadyH.cons rfl (fun K hK=>?_) (AllReadyH.cons rfl (fun K hK=>?_) AllReadyH.nil)
   · skip
     go_simp
     go_at_call 122
     ((with_reducible refine (impl_PeriodOf_yes HL.out _).mono ?_);rintro e v1 ⟨rfl,hq1⟩)
     have hb1:=BelowL.call hb0 hq1
     go_wp2_with fail
     refine hK.out _ _ (by (try dsimp only);exact MK.out _ hb1) (fun hHeld=>?_)
     clear hK K
     refine wpAnyH_ready (rs:=[3,4]) (by kernel_rfl) (by simp) ?_
     refine AllReadyH.cons rfl (fun K hK=>?_) (AllReadyH.cons rfl (fun K hK=>?_) AllReadyH.nil)
     · skip
       go_simp
       go_at_call 192
       ((with_reducible refine (impl_stepDown HL.out _).mono ?_);rintro e v2 ⟨sx,rfl,hs,s1,s2,hq2⟩)
       have hb2:=BelowL.call hb1 hq2
       go_wp2_with fail
       refine hK.out _ _ (by (try dsimp only);exact MK.out _ hb2) (fun hHeld=>?_)
       clear hK K
       refine hOne 4 (fun K hK=>?_)
       go_simp
       refine hK.out _ _ (by (try dsimp only);exact MK.out _ (BelowL.alloc hb2 _)) (fun hHeld=>?_)
       clear hK K
       refine hOne 5 (fun K hK=>?_)
       go_simp
       refine hK.out _ _ (by (try dsimp only);exact MK.out _ (BelowL.alloc hb2 _)) (fun hHeld=>?_)
       clear hK K
       refine hOne 6 (fun K hK=>?_)
       go_simp
       refine hK.out _ _ (by (try dsimp only);exact MK.out _ (BelowL.alloc hb2 _)) (fun hHeld=>?_)
       clear hK K
       refine wpAnyH_done (by kernel_rfl) ?_ _
       (try go_simp)
       go_wp2_with fail
       go_meet
       exact step_last hb2 hs s1 s2
     · skip
       go_simp
       refine hK.out _ _ (by (try dsimp only);exact MK.out _ (BelowL.alloc hb1 _)) (fun hHeld=>?_)
       clear hK K
       refine hOne 3 (fun K hK=>?_)
       go_simp
       go_at_call 192
       ((with_reducible refine (impl_stepDown HL.out _).mono ?_);rintro e v2 ⟨sx,rfl,hs,s1,s2,hq2⟩)
       have hb2:=BelowL.call (BelowL.alloc hb1 _) hq2
       go_wp2_with fail
       refine hK.out _ _ (by (try dsimp only);exact MK.out _ hb2) (fun hHeld=>?_)
       clear hK K
       have kb:=(Blk.new v1 149 #[.int .i64 0, .int .i64 0]).below' hq2
       obtain ⟨kl,k0,k1⟩:=kb.c2
       have f0:=kb.frozen 0
       have f1:=kb.frozen 1
       refine hOne 5 (fun K hK=>?_)
       go_simp
       refine hK.out _ _ (by (try dsimp only);exact MK.out _ hb2) (fun hHeld=>?_)
       clear hK K
       refine hOne 6 (fun K hK=>?_)
       go_simp
       refine hK.out _ _ (by (try dsimp only);exact MK.out _ (BelowL.set (BelowL.set hb2 (a:=⟨v1.heap.size,0,none⟩) (by exact hb1.le) _) (a:=⟨v1.heap.size,1,none⟩) (by exact hb1.le) _)) (fun hHeld=>?_)
       clear hK K
       refine wpAnyH_done (by kernel_rfl) ?_ _
       (try go_simp)
       go_wp2_with fail
       go_meet
       exact step_set hb2 hb1.le kb hs s1 s2
   · skip
     go_simp
     refine hK.out _ _ (by (try dsimp only);exact MK.out _ (BelowL.alloc hb0 _)) (fun hHeld=>?_)
     clear hK K
     refine hOne 1 (fun K hK=>?_)
     go_simp
     go_at_call 122
     ((with_reducible refine (impl_PeriodOf_yes HL.out _).mono ?_);rintro e v1 ⟨rfl,hq1⟩)
     have hb1:=BelowL.call (BelowL.alloc hb0 _) hq1
     go_wp2_with fail
     refine hK.out _ _ (by (try dsimp only);exact MK.out _ hb1) (fun hHeld=>?_)
     clear hK K
     refine hOne 3 (fun K hK=>?_)
     go_simp
     go_at_call 192
     ((with_reducible refine (impl_stepDown HL.out _).mono ?_);rintro e v2 ⟨sx,rfl,hs,s1,s2,hq2⟩)
     have hb2:=BelowL.call hb1 hq2
     go_wp2_with fail
     refine hK.out _ _ (by (try dsimp only);exact MK.out _ hb2) (fun hHeld=>?_)
     clear hK K
     have kb:=((Blk.new w1 149 #[.int .i64 0, .int .i64 0]).drew.below' hq1).below' hq2
     obtain ⟨kl,k0,k1⟩:=kb.c2
     have f0:=kb.frozen 0
     have f1:=kb.frozen 1
     refine hOne 5 (fun K hK=>?_)
     go_simp
     refine hK.out _ _ (by (try dsimp only);exact MK.out _ hb2) (fun hHeld=>?_)
     clear hK K
     refine hOne 6 (fun K hK=>?_)
     go_simp
     refine hK.out _ _ (by (try dsimp only);exact MK.out _ (BelowL.set (BelowL.set hb2 (a:=⟨w1.heap.size,0,none⟩) (by exact (Nat.le_refl _)) _) (a:=⟨w1.heap.size,1,none⟩) (by exact (Nat.le_refl _)) _)) (fun hHeld=>?_)
     clear hK K
     refine wpAnyH_done (by kernel_rfl) ?_ _
     (try go_simp)
     go_wp2_with fail
     go_meet
     exact step_set hb2 (Nat.le_refl _) kb hs s1 s2
 case rest=>
   obtain ⟨rfl,gb,sx,rfl,hg,kb,hs,s1,s2,hb⟩:=hcut
   have HB2:=Lib.hid (bTrans HB1.out hb)
   have HS:=Lib.hid hs
   have HM:=Lib.hid (name_math HL.out HK.out hs)
   obtain ⟨kl,k0,k1⟩:=kb.c2
   clear kb hs hb
   have v0:=Int.emod_nonneg y (show g≠0 by omega)
   have v1:=Int.emod_lt_of_pos y (show 0<g by omega)
   obtain ⟨V,hV⟩: ∃V,y % g=V:=⟨_,rfl⟩
   rw [hV] at v0 v1 HM
   have hyt:g*((y - V)/g)=y - V:=by
     have h:=Int.mul_ediv_add_emod y g
     have e1:y - V=g*(y/g):=by omega
     rw [e1,Int.mul_ediv_cancel_left _ (by omega)]
   obtain ⟨T,hT⟩: ∃T,(y - V)/g=T:=⟨_,rfl⟩
   rw [hT] at hyt HM
   have tb:-100012≤T∧T≤100000:=by
     have:g*1≤g*12:=by omega
     constructor
     · by_cases h:-100012≤T
       · exact h
       · exfalso
         have:g*T≤1*T:=Int.mul_le_mul_of_nonpos_right (by omega) (by omega)
         omega
     · by_cases h:T≤100000
       · exact h
       · exfalso
         have:1*T≤g*T:=Int.mul_le_mul_of_nonneg_right (by omega) (by omega)
         omega
   obtain ⟨tb1,tb2⟩:=tb
   have tt:(y - V).tdiv g=T:=by rw [←hyt];exact Int.mul_tdiv_cancel_left _ (by omega)
   have m1:-100012000≤T*sx∧T*sx≤100012000:=by
     have q1:T*sx≤100012*1000∧-(100012*1000)≤T*sx:=by
       rcases Int.le_total 0 sx with h | h
       · have i1:T*sx≤100012*sx:=Int.mul_le_mul_of_nonneg_right (by omega) h
         have i2:-100012*sx≤T*sx:=Int.mul_le_mul_of_nonneg_right (by omega) h
         omega
       · have i1:100012*sx≤T*sx:=Int.mul_le_mul_of_nonpos_right (by omega) h
         have i2:T*sx≤-100012*sx:=Int.mul_le_mul_of_nonpos_right (by omega) h
         omega
     omega
   obtain ⟨m2,m3⟩:=m1
   have u0:=Int.emod_nonneg (x - T*sx) (show d≠0 by omega)
   have u1:=Int.emod_lt_of_pos (x - T*sx) (show 0<d by omega)
   obtain ⟨U,hU⟩: ∃U,(x - T*sx) % d=U:=⟨_,rfl⟩
   rw [hU] at u0 u1 HM
   have r1:0≤V*d:=Int.mul_nonneg v0 (by omega)
   have r2:=Int.mul_le_mul (show V≤12 by omega) (show d≤288 by omega) (by omega) (by omega)
   have z1: ¬g=0:=by omega
   have z2:(g==0)=false:=by simp;omega
   have HV:=Lib.hid hV
   have HU:=Lib.hid hU
   clear hV hU hyt hT
   go_wp2_with fail
   refine (rem5 _ _ _ (by omega) (by omega)).mono ?_
   rw [HV.out]
   rintro e w3 ⟨rfl,rfl⟩
   go_wp2_with fail
   refine (rem5 _ _ _ (by omega) (by omega)).mono ?_
   rw [HU.out]
   rintro e w3 ⟨rfl,rfl⟩
   have HMM:=Lib.hid HM
   clear HM
   go_wp2_with fail
   go_ret
   exact ⟨ret_int HMM.out,HB2.out⟩
def Named (A B W:Int) (n:Nat) (nm:Nat→Nat):Prop:= ∀i,i<n→IsName A B ((i:Int) % W) ((i:Int)/W) (nm i:Int)
theorem named_ex {A B n g d a b p q:Int} (L:Lat A B n g d a b p q) (W:Int) (m:Nat): ∃nm,Named A B W m nm:=by
 have h: ∀i:Nat,∃K:Nat,IsName A B ((i:Int) % W) ((i:Int)/W) (K:Int):=fun i=>by
   obtain ⟨K,hK⟩:=L.name_ex ((i:Int) % W) ((i:Int)/W)
   have h0:=(L.isName.1 hK).1
   exact ⟨K.toNat,by rw [show ((K.toNat:Nat):Int)=K by omega];exact hK⟩
 exact ⟨fun i=>Classical.choose (h i),fun i _=>Classical.choose_spec (h i)⟩
theorem cell_bd {W:Int} {n i:Nat} (hW:1≤W) (hn:n≤1024) (hi:i<n):0≤(i:Int) % W∧(i:Int) % W≤1024∧0≤(i:Int)/W∧(i:Int)/W≤1024∧(i:Int).tmod W=(i:Int) % W∧(i:Int).tdiv W=(i:Int)/W:=by
 have h1:=Int.emod_nonneg (i:Int) (show W≠0 by omega)
 have h2:(i:Int) % W≤i:=Int.emod_le_self
 have h3:=Int.ediv_le_self W (show 0≤(i:Int) by omega)
 exact ⟨h1,by omega,Int.ediv_nonneg (by omega) (by omega),by omega,Int.tmod_eq_emod_of_nonneg (by omega),Int.tdiv_eq_ediv_of_nonneg (by omega)⟩
where
 Int.emod_le_self {i:Nat} {W:Int}:(i:Int) % W≤i:=by
   by_cases h:W=0
   · subst h;simp
   · have:=Int.mul_ediv_add_emod (i:Int) W
     rcases Int.lt_or_gt_of_ne h with c | c
     · have e:(i:Int) % W=(i:Int) % (-W):=by rw [Int.emod_neg]
       rw [e]
       have h4:=Int.mul_ediv_add_emod (i:Int) (-W)
       have h5:0≤(i:Int)/(-W):=Int.ediv_nonneg (by omega) (by omega)
       have h6:0≤(-W)*((i:Int)/(-W)):=Int.mul_nonneg (by omega) h5
       omega
     · have h5:0≤(i:Int)/W:=Int.ediv_nonneg (by omega) (by omega)
       have h6:0≤W*((i:Int)/W):=Int.mul_nonneg (by omega) h5
       omega
def overF (A B d:Int) (N:Nat) (nm:Nat→Nat) (i:Nat):Int:=(placeC (nearK A B d) (nm i:Int) N:Int)
set_option maxRecDepth 100000 in
set_option maxHeartbeats 1600000 in
theorem impl_over {A B d:Int} {N:Nat} {g a b p q:Int} (L:Lat A B (N:Int) g d a b p q) (W H:Int) (n:Nat) (nm:Nat→Nat) (hnm:Named A B W n nm) (w1:1≤W) (w2:W≤1024) (h1:1≤H) (h2:H≤1024) (hq:(n:Int)=W*H) (hn:n≤1024) (w:World):
   Calls Tryz.prog 124 #[.agg #[.int .i64 A, .int .i64 B], .int .i64 W, .int .i64 H] w fun e w'=> ∃nb:Nat,e= .returned (.slice (some ⟨nb,0,none⟩) n n)∧w.heap.size≤nb∧Own w' nb n n (gen n (overF A B d N nm))∧Below w.heap.size w w':=by
 have n1:=L.n1;have n2:=L.n2
 have N1:0<N:=by omega
 have N2:N≤288:=by omega
 have HL:=Lib.hid L
 have HQ:=Lib.hid hq
 have HNM:Aside _:=hnm
 have hp0:0≤W*H:=by omega
 have hp1:W*H≤1024:=by omega
 clear L hq hnm
 go_enter Tryz.func124,Tryz.ntmps124
 go_wp2_with fail
 refine (impl_SpotRanks_yes HL.out _).mono ?_
 rintro e w2' ⟨rb,rfl,hrb,ho,hb⟩
 have HB2:=Lib.hid (bTrans (Joins.below_alloc1 _ _) hb)
 have KB2:=Lib.hid ((Blk.new w 126 #[.int .i64 A, .int .i64 B]).below' hb)
 have HR2:=Lib.hid ho
 clear hrb ho hb
 go_wp2_with (at_make;refine wp_make _ rfl _ _ rfl .i64 .i64 (W*H) (W*H) n rfl rfl HQ.out.symm HQ.out.symm (by omega) ?_;intro M hM)
 have HM:=Lib.hid (hM.own w2')
 have HB3:=Lib.hid (bAlloc HB2.out (.cells M 3))
 have KB3:=Lib.hid (KB2.out.alloc (.cells M 3))
 have HR3:=Lib.hid (HR2.out.alloc (.cells M 3))
 have zr:rb<w2'.heap.size:=HR2.out.lt
 have zl:w.heap.size<w2'.heap.size:=KB2.out.lt
 clear hM
 go_wp2_with fail
 go_loopw [18] (fun i wr=> ∃k:Nat,k≤n∧i= .int .i64 k∧Hid (Own wr w2'.heap.size n n (filled (gen n (overF A B d N nm)) (List.replicate n 0) k))∧Hid (Blk wr w.heap.size 126 #[.int .i64 A, .int .i64 B])∧Hid (Own wr rb N N (ranksL (nearK A B d) N))∧Hid (Below w.heap.size w wr)) (fun i _=>n - (intOf i).toNat)
 case atStart=>exact ⟨0,Nat.zero_le _,rfl,Lib.hid (by rw [filled_zero];exact HM.out),KB3,HR3,HB3⟩
 case round=>
   clear HM KB3 HR3 HB3
   obtain ⟨k,hk,rfl,HO,KB,HR,HB⟩:=hrel
   by_cases hlt:k<n
   · obtain ⟨l0,c0,c1⟩:=KB.out.c2
     obtain ⟨u1,u2,v1,v2,t1,t2⟩:=cell_bd (W:=W) w1 hn hlt
     have HNK:=Lib.hid (HNM.out k hlt)
     obtain ⟨U,hU⟩: ∃U,(k:Int) % W=U:=⟨_,rfl⟩
     obtain ⟨V,hV⟩: ∃V,(k:Int)/W=V:=⟨_,rfl⟩
     rw [hU] at u1 u2 t1 HNK
     rw [hV] at v1 v2 t2 HNK
     obtain ⟨t,ht⟩: ∃t,nm k=t:=⟨_,rfl⟩
     rw [ht] at HNK
     have tN:t<N:=by have:=(HL.out.isName.1 HNK.out).2.1;omega
     have tN2:(t:Int)<(N:Int):=by omega
     obtain ⟨R,hR⟩: ∃R,overF A B d N nm k=R:=⟨_,rfl⟩
     have cr:=own_c HR.out tN
     have cr2:((placeC (nearK A B d) (t:Int) N:Nat):Int)=R:=by rw [←hR,←ht];rfl
     rw [cr2] at cr
     have g2:=HO.out.cell hlt
     have g3:=HO.out.frozen k
     have kn:(k:Int)<(n:Int):=by omega
     have t3:IntKind.i64.wrap U=U:=IntWalk.i64_in _ (by omega)
     have t4:IntKind.i64.wrap V=V:=IntWalk.i64_in _ (by omega)
     have z1: ¬W=0:=by omega
     have z2:(W==0)=false:=by simp;omega
     have HRR:=Lib.hid hR
     clear hU hV ht hR cr2
     go_upto_region 6 with fail
     have MK:Hid (∀v,BelowL wr v→v.cell? ⟨w.heap.size,0,none⟩=some (.int .i64 A)∧v.cell? ⟨w.heap.size,1,none⟩=some (.int .i64 B)∧v.cell? ⟨rb,t,none⟩=some (.int .i64 R)∧BelowL wr v):=Lib.hid (fun v h=>⟨(h.out.cell l0).trans c0,(h.out.cell l0).trans c1,(h.out.cell HR.out.lt).trans cr,h⟩)
     refine wp_region_T 14 (fun v=>v.cell? ⟨w.heap.size,0,none⟩=some (.int .i64 A)∧v.cell? ⟨w.heap.size,1,none⟩=some (.int .i64 B)∧v.cell? ⟨rb,t,none⟩=some (.int .i64 R)∧BelowL wr v) (by kernel_rfl) (MK.out _ (BelowL.start _)) ?_
     intro hHeld
     have hb0:=limb4 hHeld
     refine tTake 0 ?_
     refine tTake 1 ?_
     refine tTake 2 ?_
     refine tTake 3 ?_
     refine tTake 4 ?_
     refine tTake 5 ?_
     refine tTake 6 ?_
     refine tTake 7 ?_
     refine tTake 8 ?_
     refine tTake 9 ?_
     refine tOne 10 (fun K hK=>?_)
     go_simp
     go_at_call 155
     ((with_reducible refine (impl_NameOf_yes HL.out U V _ (by omega) (by omega) (by omega) (by omega) HNK.out _).mono ?_);rintro e v1 ⟨rfl,hq1⟩)
     have hb1:=BelowL.call hb0 hq1
     go_wp2_with fail
     refine hK.out _ _ (fun _=>by (try dsimp only);exact MK.out _ hb1) (fun hH2=>?_)
     clear hK K hHeld
     have hHeld:=hH2 (by decide)
     refine tTake 11 ?_
     refine tTake 12 ?_
     refine tTake 13 ?_
     have g2:=(hb1.out.cell (p:=⟨w2'.heap.size,k,none⟩) HO.out.lt).trans g2
     have g3:=(hb1.out.frozen (p:=⟨w2'.heap.size,k,none⟩) HO.out.lt).trans g3
     refine tOne 14 (fun K hK=>?_)
     go_simp
     have HO4:Hid (Own (v1.setCell ⟨w2'.heap.size,k,none⟩ (.int .i64 R)) w2'.heap.size n n (filled (gen n (overF A B d N nm)) (List.replicate n 0) (k+1))):=Lib.hid (by
       have h:=(HO.out.below hb1.out HO.out.lt).set k R
       rwa [filled_succ (gen n (overF A B d N nm)) _ k _ (by rw [gen_len];exact hlt) (by simp;omega) (by rw [gen_get _ _ _ hlt];exact HRR.out)] at h)
     refine hK.out _ _ (fun h=>absurd h (by decide)) (fun hH2=>?_)
     clear hK K hH2
     refine wpAnyT_done (by kernel_rfl) ?_ _
     (try go_simp)
     go_wp2_with fail
     go_roundw
     case rel=>exact ⟨k+1,by omega,by go_num,HO4,Lib.hid ((KB.out.below hb1.out KB.out.lt).other (by simp;omega) _),Lib.hid ((HR.out.below hb1.out HR.out.lt).other (by simp;omega) _),Lib.hid ((bTrans HB.out hb1.out).setCell (by simp;omega) _)⟩
     case measure=>simp [intOf];omega
   · obtain rfl:k=n:=by omega
     have HE:Hid (Own wr w2'.heap.size k k (gen k (overF A B d N nm))):=Lib.hid (by have h:=HO.out;have e:=filled_all (gen k (overF A B d N nm)) (List.replicate k 0) (by simp [gen_len]);rw [gen_len] at e;rwa [e] at h)
     go_wp2_with fail
     go_ret
     exact ⟨_,rfl,by omega,HE.out,HB.out⟩
def overK (A B d:Int) (N:Nat) (nm:Nat→Nat) (i:Int):Int:=overF A B d N nm i.toNat
theorem matSqB {d:Int} (h:matSize d d=true):1≤d∧d≤256∧d*d≤256:=by
 simp only [matSize,decide_eq_true_eq] at h;exact ⟨h.1,h.2.1,h.2.2.2.2⟩
set_option maxRecDepth 100000 in
set_option maxHeartbeats 1600000 in
theorem impl_SpotMatrix_yes {A B d:Int} {N:Nat} {g a b p q:Int} (L:Lat A B (N:Int) g d a b p q) (n:Nat) (nm:Nat→Nat) (hnm:Named A B d n nm) (hs:matSize d d=true) (hq:(n:Int)=d*d) (w:World):
   Calls Tryz.prog 95 #[.agg #[.int .i64 A, .int .i64 B]] w (MatOut2 w (⟨d,d,ranksL (overK A B d N nm) n⟩,true)):=by
 obtain ⟨b1,b2,b3⟩:=matSqB hs
 have nb1:n≤256:=by omega
 have b5:1*1≤d*d:=Int.mul_le_mul b1 b1 (by omega) (by omega)
 have nb0:1≤n:=by omega
 have HL:=Lib.hid L
 have HQ:=Lib.hid hq
 have HS:=Lib.hid hs
 have HNM:Aside _:=hnm
 clear L hq hs hnm b3 b5
 go_enter Tryz.func95,Tryz.ntmps95
 go_wp2_with fail
 refine (impl_PeriodOf_yes HL.out _).mono ?_
 rintro e w1 ⟨rfl,hb⟩
 have HB1:=Lib.hid (bTrans (Joins.below_alloc2 _ _ _) hb)
 have KL1:=Lib.hid (((Blk.new w 126 #[.int .i64 A, .int .i64 B]).alloc (.cells #[.int .i64 0, .int .i64 0, .slice none 0 0] 31)).below' hb)
 have KP1:=Lib.hid ((Blk.new' (g:=w.heap.size+1) (w:=w.alloc (.cells #[.int .i64 A, .int .i64 B] 126)) 31 #[.int .i64 0, .int .i64 0, .slice none 0 0] (by simp)).below' hb)
 obtain ⟨z,c0,c1⟩:=KL1.out.c2
 clear hb
 go_wp2_with fail
 refine (impl_IsLattice _ _ _).mono ?_
 rw [lat_ok HL.out]
 rintro e w2 ⟨rfl,hb⟩
 have HB2:=Lib.hid (bTrans HB1.out hb)
 have KL2:=Lib.hid (KL1.out.below' hb)
 have KP2:=Lib.hid (KP1.out.below' hb)
 clear hb z c0 c1
 go_wp2_with fail
 refine (impl_isMatrixSize_yes _ _ _ HS.out).mono ?_
 rintro e w2 ⟨rfl,rfl⟩
 obtain ⟨z,c0,c1⟩:=KL2.out.c2
 go_wp2_with fail
 refine (impl_over HL.out d d n nm HNM.out b1 (by omega) b1 (by omega) HQ.out (by omega) _).mono ?_
 rintro e w3 ⟨rb,rfl,hrb,ho,hb⟩
 have HB3:=Lib.hid (bTrans HB2.out hb)
 have KP3:=Lib.hid (KP2.out.below' hb)
 have HO3:=Lib.hid ho
 clear hb z c0 c1 hrb ho
 have EG:Hid (∀args w,(callFunc 127 args).run Tryz.prog w= .ok (.enter 127 args) w):=Lib.hid (enters5 _ _ _ Tryz.func127 (by kernel_rfl) rfl)
 have OR:Hid (∀v,Below w3.heap.size w3 v→ ∀i k:Nat,i<n→k<n→Calls Tryz.prog 127 (#[.int .i64 (overF A B d N nm i), .int .i64 (overF A B d N nm k)]++#[]) v fun e v'=> ∃c:Int,e= .returned (.int .i64 c)∧(c<0↔overK A B d N nm (i:Int)<overK A B d N nm (k:Int))∧Below v.heap.size v v'):=Lib.hid (fun v hv i k hi hk=>(cmp5 (overF A B d N nm i) (overF A B d N nm k) v).mono (fun e v' ⟨c,h1,h2,h3⟩=>⟨c,h1,h2,by subst h3;exact Below.refl _ _⟩))
 have CI:Hid (∀t,t<n→w3.cell? ⟨rb,t,none⟩=some (.int .i64 (overF A B d N nm t))):=Lib.hid (fun t ht=>own_c HO3.out ht)
 have ZI:=Lib.hid HO3.out.lt
 go_wp2_with fail
 refine (seqNum 127 #[] rb n (overF A B d N nm) (overK A B d N nm) _ EG.out (by omega) nb0 CI.out ZI.out OR.out).mono ?_
 rintro e w5 ⟨f,blk,rfl,hbl,ho,hg,hb⟩
 have HB5:=Lib.hid (bTrans HB3.out hb)
 have KP5:=Lib.hid (KP3.out.below' hb)
 have HO5:=Lib.hid ho
 have HG5:=Lib.hid hg
 clear hbl ho hg hb
 go_wp2_with fail
 refine (placesIn5 (overK A B d N nm) f blk n _ HO5.out HG5.out (by omega)).mono ?_
 rintro e w6 ⟨nb,rfl,hnb,ho,hb⟩
 have HB6:=Lib.hid (bTrans HB5.out hb)
 have KP6:=Lib.hid (KP5.out.below' hb)
 have HO6:=Lib.hid ho
 have l5:w.heap.size+1<nb:=Nat.lt_of_lt_of_le KP5.out.lt hnb
 clear hnb ho hb
 obtain ⟨r0,r1,r2,r3⟩:=KP6.out.c3
 obtain ⟨q0,q1,q2⟩:=KP6.out.f3
 go_wp2_with fail
 exact bodyPost_ret (v:= .tuple #[.agg #[.int .i64 d, .int .i64 d, .slice (some ⟨nb,0,none⟩) n n], .bool true]) (by simp [results,Tryz.results95,go_sem,r1,r2,r3]) rfl
   ⟨_,_,_,rfl,OwnA.mk (((HO6.out.other (by simp;omega) _).other (by simp;omega) _).other (by simp;omega) _) (by omega),by omega,
     ((HB6.out.setCell (by first | (simp;done) | (simp;omega)) _).setCell (by first | (simp;done) | (simp;omega)) _).setCell (by first | (simp;done) | (simp;omega)) _⟩
set_option maxHeartbeats 800000 in
theorem impl_SpotMatrix_no1 {A B:Int} (h:latOk A B=false) (w:World):
   Calls Tryz.prog 95 #[.agg #[.int .i64 A, .int .i64 B]] w (MatOut2 w (noMat,false)):=by
 have HL:=Lib.hid h
 clear h
 go_enter Tryz.func95,Tryz.ntmps95
 go_wp2_with fail
 refine (impl_PeriodOf_no HL.out _).mono ?_
 rintro e w1 ⟨rfl,hb⟩
 have HB1:=Lib.hid (bTrans (Joins.below_alloc2 _ _ _) hb)
 have KL1:=Lib.hid (((Blk.new w 126 #[.int .i64 A, .int .i64 B]).alloc (.cells #[.int .i64 0, .int .i64 0, .slice none 0 0] 31)).below' hb)
 have KP1:=Lib.hid ((Blk.new' (g:=w.heap.size+1) (w:=w.alloc (.cells #[.int .i64 A, .int .i64 B] 126)) 31 #[.int .i64 0, .int .i64 0, .slice none 0 0] (by simp)).below' hb)
 obtain ⟨z,c0,c1⟩:=KL1.out.c2
 clear hb
 go_wp2_with fail
 refine (impl_IsLattice _ _ _).mono ?_
 rw [HL.out]
 rintro e w2 ⟨rfl,hb⟩
 have HB2:=Lib.hid (bTrans HB1.out hb)
 have KP2:=Lib.hid (KP1.out.below' hb)
 clear hb z c0 c1
 obtain ⟨r0,r1,r2,r3⟩:=KP2.out.c3
 obtain ⟨q0,q1,q2⟩:=KP2.out.f3
 go_wp2_with fail
 exact bodyPost_ret (v:= .tuple #[.agg #[.int .i64 0, .int .i64 0, .slice none 0 0], .bool false]) (by simp [results,Tryz.results95,go_sem,r1,r2,r3]) rfl ⟨none,0,0,rfl,OwnA.none _ _,by omega,
   ((HB2.out.setCell (by first | (simp;done) | (simp;omega)) _).setCell (by first | (simp;done) | (simp;omega)) _).setCell (by first | (simp;done) | (simp;omega)) _⟩
set_option maxHeartbeats 800000 in
theorem impl_SpotMatrix_no2 {A B d:Int} {N:Nat} {g a b p q:Int} (L:Lat A B (N:Int) g d a b p q) (hs: ¬matSize d d=true) (w:World):
   Calls Tryz.prog 95 #[.agg #[.int .i64 A, .int .i64 B]] w (MatOut2 w (noMat,false)):=by
 have HL:=Lib.hid L
 have HS:=Lib.hid hs
 clear L hs
 go_enter Tryz.func95,Tryz.ntmps95
 go_wp2_with fail
 refine (impl_PeriodOf_yes HL.out _).mono ?_
 rintro e w1 ⟨rfl,hb⟩
 have HB1:=Lib.hid (bTrans (Joins.below_alloc2 _ _ _) hb)
 have KL1:=Lib.hid (((Blk.new w 126 #[.int .i64 A, .int .i64 B]).alloc (.cells #[.int .i64 0, .int .i64 0, .slice none 0 0] 31)).below' hb)
 have KP1:=Lib.hid ((Blk.new' (g:=w.heap.size+1) (w:=w.alloc (.cells #[.int .i64 A, .int .i64 B] 126)) 31 #[.int .i64 0, .int .i64 0, .slice none 0 0] (by simp)).below' hb)
 obtain ⟨z,c0,c1⟩:=KL1.out.c2
 clear hb
 go_wp2_with fail
 refine (impl_IsLattice _ _ _).mono ?_
 rw [lat_ok HL.out]
 rintro e w2 ⟨rfl,hb⟩
 have HB2:=Lib.hid (bTrans HB1.out hb)
 have KP2:=Lib.hid (KP1.out.below' hb)
 clear hb z c0 c1
 go_wp2_with fail
 refine (impl_isMatrixSize_no _ _ _ HS.out).mono ?_
 rintro e w2 ⟨rfl,rfl⟩
 obtain ⟨r0,r1,r2,r3⟩:=KP2.out.c3
 obtain ⟨q0,q1,q2⟩:=KP2.out.f3
 go_wp2_with fail
 exact bodyPost_ret (v:= .tuple #[.agg #[.int .i64 0, .int .i64 0, .slice none 0 0], .bool false]) (by simp [results,Tryz.results95,go_sem,r1,r2,r3]) rfl ⟨none,0,0,rfl,OwnA.none _ _,by omega,
   ((HB2.out.setCell (by first | (simp;done) | (simp;omega)) _).setCell (by first | (simp;done) | (simp;omega)) _).setCell (by first | (simp;done) | (simp;omega)) _⟩
set_option maxRecDepth 100000 in
set_option maxHeartbeats 1600000 in
theorem num_shift (na:Option Addr) (nc:Nat) (w:World):
   Calls Tryz.prog 67 #[.string ⟨#[115,104,105,102,116]⟩, .slice na 2 nc] w fun e w'=>e= .returned (.tuple #[.iface 106 (.func (.func 97) #[] #[.pointer (some ⟨w.heap.size,0,none⟩)]), .bool true])∧w'=w.alloc (.cells #[.slice na 2 nc] 25):=by
 go_enter Tryz.func67,Tryz.ntmps67
 go_wp2_with fail
 go_ret2
 exact ⟨rfl,rfl⟩
set_option maxRecDepth 100000 in
set_option maxHeartbeats 1600000 in
theorem num_level (na:Option Addr) (nc:Nat) (x:Int) (w:World) (hr:Rd w na [x]):
   Calls Tryz.prog 67 #[.string ⟨#[108,101,118,101,108]⟩, .slice na 1 nc] w fun e w'=>e= .returned (.tuple #[.iface 129 (.int .i64 x), .bool true])∧w'=w.alloc (.cells #[.slice na 1 nc] 25):=by
 have HB0:=Lib.hid (bAlloc (Below.refl w.heap.size w) (.cells #[.slice na 1 nc] 25))
 obtain ⟨b,off,hae,hbl,hbc⟩:=(hr.below HB0.out).at (by simp)
 subst hae
 have q0:=hbc 0 (by simp)
 rw [show [x].getD 0 0=x from rfl,Nat.add_zero] at q0
 clear hr hbc
 go_enter Tryz.func67,Tryz.ntmps67
 go_wp2_with fail
 go_ret2
 exact ⟨rfl,rfl⟩
set_option maxRecDepth 100000 in
set_option maxHeartbeats 1600000 in
theorem num_spot (F:Mat × Bool) (na:Option Addr) (nc:Nat) (x y:Int) (w:World) (hr:Rd w na [x,y]) (hF: ∀w,Calls Tryz.prog 95 #[.agg #[.int .i64 x, .int .i64 y]] w (MatOut2 w F)):
   Calls Tryz.prog 67 #[.string ⟨#[115,112,111,116]⟩, .slice na 2 nc] w (GivenOut w F.1):=by
 obtain ⟨w0,hw0⟩: ∃v,v=w.alloc (.cells #[.slice na 2 nc] 25):=⟨_,rfl⟩
 have HB0:Hid (Below w.heap.size w w0):=Lib.hid (by rw [hw0];exact bAlloc (Below.refl w.heap.size w) (.cells #[.slice na 2 nc] 25))
 have HF:=Lib.hid hF
 obtain ⟨b,off,hae,hbl,hbc⟩:=(hr.below HB0.out).at (by simp)
 subst hae
 have q0:=hbc 0 (by simp)
 have q1:=hbc 1 (by simp)
 rw [show [x,y].getD 0 0=x from rfl,Nat.add_zero] at q0
 rw [show [x,y].getD 1 0=y from rfl] at q1
 have p0:w0.cell? ⟨w.heap.size,0,none⟩=some (.slice (some ⟨b,off,none⟩) 2 nc):=by rw [hw0];exact (Blk.new w 25 #[.slice (some ⟨b,off,none⟩) 2 nc]).cell 0
 have l0:w.heap.size<w0.heap.size:=by rw [hw0];simp
 clear hr hbc hF
 go_enter Tryz.func67,Tryz.ntmps67
 go_wp2_with fail
 rw [←hw0]
 clear hw0
 have MK:Hid (∀v,BelowL w0 v→v.cell? ⟨w.heap.size,0,none⟩=some (.slice (some ⟨b,off,none⟩) 2 nc)∧v.cell? ⟨b,off,none⟩=some (.int .i64 x)∧v.cell? ⟨b,off+1,none⟩=some (.int .i64 y)∧BelowL w0 v):=Lib.hid (fun v h=>⟨(h.out.cell l0).trans p0,(h.out.cell hbl).trans q0,(h.out.cell hbl).trans q1,h⟩)
 go_region_held3 (fun v=>v.cell? ⟨w.heap.size,0,none⟩=some (.slice (some ⟨b,off,none⟩) 2 nc)∧v.cell? ⟨b,off,none⟩=some (.int .i64 x)∧v.cell? ⟨b,off+1,none⟩=some (.int .i64 y)∧BelowL w0 v)
   (first | exact MK.out _ hb2 | exact MK.out _ hb1 | exact MK.out _ (BelowL.start _))
   (first
     | (go_at_call 95;((with_reducible refine (HF.out _).mono ?_);rintro e v1 ⟨a1,n1,k1,rfl,ho1,hn1,hq1⟩;have hb1:=BelowL.call (limb4 (by assumption)) hq1))
     | (go_at_call 93;((with_reducible refine (impl_matrixOrNone _ _ a1 n1 k1 _ _).mono ?_);rintro e v2 ⟨rfl,rfl⟩;have hb2:=BelowL.alloc hb1 (.cells #[.int .i64 F.1.W, .int .i64 F.1.H, .slice a1 n1 k1] 31))))
 go_wp2_with fail
 go_ret2
 exact ⟨v1.heap.size,a1,n1,k1,rfl,Blk.new _ _ _,OwnA.mono (ho1.alloc _) (by have:=hb1.le;have:=HB0.out.size;(try simp at*);omega),hn1,bTrans HB0.out hb2.out⟩
end Go.Proofs.YtanccoopbgamdaaGreatDoor
