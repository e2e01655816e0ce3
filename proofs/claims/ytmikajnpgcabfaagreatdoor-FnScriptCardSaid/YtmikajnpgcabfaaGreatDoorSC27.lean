/-
  Contracts and plain facts on which the theorem of this claim rests, text 27.
-/
import Derived.Test.YtmikajnpgcabfaaGreatDoorSC5
import Derived.Test.YtmikajnpgcabfaaGreatDoorSC26
namespace Go.Proofs.YtmikajnpgcabfaaGreatDoor
open Go.RowKit
set_option linter.unusedVariables false
set_option linter.unusedSimpArgs false
theorem bDraws {B:Nat} {w w':World} (h:Below B w w') (n:Nat):Below B w (w'.drewN n):=⟨h.os,h.tape,h.output,h.size,h.block⟩
theorem quo5 {A B n g d a b p q:Int} (L:Lat A B n g d a b p q):n.tdiv g=d∧n/g=d:=by
 have h1:=L.g1;have h2:=L.n1
 have e:n/g=d:=by rw [←L.wg];exact Int.mul_ediv_cancel _ (by omega)
 exact ⟨by rw [Int.tdiv_eq_ediv_of_nonneg (by omega)];exact e,e⟩
set_option maxHeartbeats 800000 in
theorem spec_l5Sides {A B n g d a b p q:Int} (L:Lat A B n g d a b p q) (w:World):
   Calls Tryz.prog 167 #[.agg #[.int .i64 A, .int .i64 B]] w fun e w'=>e= .returned (.tuple #[.int .i64 d, .int .i64 g])∧Below w.heap.size w w':=by
 obtain ⟨t1,t2⟩:=quo5 L
 have g1:=L.g1;have g2:=L.g2;have n1:=L.n1;have n2:=L.n2;have d1:=L.w1;have d2:=L.w2
 have HL:=Lib.hid L
 have HT:=Lib.hid t2
 clear L t1 t2
 go_enter Tryz.func167,Tryz.ntmps167
 go_wp2_with fail
 refine (spec_gcdL HL.out _).mono ?_
 rintro e w1 ⟨rfl,hb⟩
 have HB1:=Lib.hid (bTrans (Joins.below_alloc1 _ _) hb)
 obtain ⟨z,c0,c1⟩:=((Blk.new w 139 #[.int .i64 A, .int .i64 B]).below' hb).c2
 clear hb
 go_wp2_with fail
 refine (spec_l5Area HL.out _).mono ?_
 rintro e w2 ⟨rfl,hb⟩
 have HB2:=Lib.hid (bTrans HB1.out hb)
 clear hb
 have z1: ¬g=0:=by omega
 have z2:(g==0)=false:=by simp;omega
 have t2:0≤n/g:=by rw [HT.out];omega
 have t3:n/g≤288:=by rw [HT.out];omega
 go_wp2_with fail
 go_ret2
 exact ⟨by rw [HT.out];rfl,HB2.out⟩
set_option maxHeartbeats 800000 in
theorem impl_PeriodOf_yes {A B n g d a b p q:Int} (L:Lat A B n g d a b p q) (w:World):
   Calls Tryz.prog 196 #[.agg #[.int .i64 A, .int .i64 B]] w fun e w'=>e= .returned (.int .i64 d)∧Below w.heap.size w w':=by
 obtain ⟨t1,t2⟩:=quo5 L
 have g1:=L.g1;have g2:=L.g2;have n1:=L.n1;have n2:=L.n2;have d1:=L.w1;have d2:=L.w2
 have HL:=Lib.hid L
 have HT:=Lib.hid t1
 clear L t1 t2
 go_enter Tryz.func196,Tryz.ntmps196
 go_wp2_with fail
 refine (impl_IsLattice _ _ _).mono ?_
 rw [lat_ok HL.out]
 rintro e w1 ⟨rfl,hb⟩
 have HB1:=Lib.hid (bTrans (Joins.below_alloc1 _ _) hb)
 obtain ⟨z,c0,c1⟩:=((Blk.new w 139 #[.int .i64 A, .int .i64 B]).below' hb).c2
 clear hb
 go_wp2_with fail
 have z1: ¬g=0:=by omega
 have z2:(g==0)=false:=by simp;omega
 have t2:=HT.out
 have t3:IntKind.i64.wrap d=d:=IntWalk.i64_in _ (by omega)
 have MK:Hid (∀v,BelowL w1 v→v.cell? ⟨w.heap.size,0,none⟩=some (.int .i64 A)∧v.cell? ⟨w.heap.size,1,none⟩=some (.int .i64 B)∧BelowL w1 v):=Lib.hid (fun v h=>⟨(h.out.cell z).trans c0,(h.out.cell z).trans c1,h⟩)
 go_region_held3 (fun v=>v.cell? ⟨w.heap.size,0,none⟩=some (.int .i64 A)∧v.cell? ⟨w.heap.size,1,none⟩=some (.int .i64 B)∧BelowL w1 v)
   (first | exact MK.out _ hb2 | exact MK.out _ hb1 | exact MK.out _ (BelowL.start _))
   (first
     | (go_at_call 241;((with_reducible refine (impl_AreaOf_yes HL.out _).mono ?_);rintro e v1 ⟨rfl,hq1⟩;have hb1:=BelowL.call (limb3 (by assumption)) hq1))
     | (go_at_call 38;((with_reducible refine (impl_gcdL HL.out _).mono ?_);rintro e v2 ⟨rfl,hq2⟩;have hb2:=BelowL.call (limb3 (by assumption)) hq2)))
 go_wp2_with fail
 go_ret
 exact ⟨rfl,bTrans HB1.out hb2.out⟩
set_option maxHeartbeats 400000 in
theorem impl_PeriodOf_no {A B:Int} (h:latOk A B=false) (w:World):
   Calls Tryz.prog 196 #[.agg #[.int .i64 A, .int .i64 B]] w fun e w'=>e= .returned (.int .i64 0)∧Below w.heap.size w w':=by
 have HL:=Lib.hid h
 clear h
 go_enter Tryz.func196,Tryz.ntmps196
 go_wp2_with fail
 refine (impl_IsLattice _ _ _).mono ?_
 rw [HL.out]
 rintro e w1 ⟨rfl,hb⟩
 have HB1:=Lib.hid (bTrans (Joins.below_alloc1 _ _) hb)
 clear hb
 go_wp2_with fail
 go_ret
 exact ⟨rfl,HB1.out⟩
theorem div5 {A B n g d a b p q K:Int} (L:Lat A B n g d a b p q) (h0:0≤K) (h1:K<n):0≤K % d∧K % d≤287∧0≤K/d∧K/d≤11∧K.tmod d=K % d∧K.tdiv d=K/d:=by
 obtain ⟨a0,a1,a2,a3⟩:=L.name_bd h0 h1
 have:=L.w2;have:=L.g2
 exact ⟨a0,by omega,a2,by omega,Int.tmod_eq_emod_of_nonneg h0,Int.tdiv_eq_ediv_of_nonneg h0⟩
set_option maxHeartbeats 800000 in
theorem impl_PointOf_yes {A B n g d a b p q:Int} (L:Lat A B n g d a b p q) (K:Int) (h0:0≤K) (h1:K<n) (w:World):
   Calls Tryz.prog 276 #[.agg #[.int .i64 A, .int .i64 B], .int .i64 K] w fun e w'=>e= .returned (.tuple #[.int .i64 (K % d), .int .i64 (K/d), .bool true])∧Below w.heap.size w w':=by
 obtain ⟨U,hU⟩: ∃U,K % d=U:=⟨_,rfl⟩
 obtain ⟨V,hV⟩: ∃V,K/d=V:=⟨_,rfl⟩
 obtain ⟨u1,u2,v1,v2,t1,t2⟩:=div5 L h0 h1
 rw [hU] at u1 u2 t1⊢
 rw [hV] at v1 v2 t2⊢
 have n1:=L.n1;have n2:=L.n2;have d1:=L.w1;have d2:=L.w2
 have HL:=Lib.hid L
 have HT1:=Lib.hid t1
 have HT2:=Lib.hid t2
 clear L t1 t2 hU hV
 go_enter Tryz.func276,Tryz.ntmps276
 go_wp2_with fail
 refine (impl_IsLattice _ _ _).mono ?_
 rw [lat_ok HL.out]
 rintro e w1 ⟨rfl,hb⟩
 have HB1:=Lib.hid (bTrans (Joins.below_alloc1 _ _) hb)
 have KB1:=Lib.hid ((Blk.new w 139 #[.int .i64 A, .int .i64 B]).below' hb)
 obtain ⟨z,c0,c1⟩:=KB1.out.c2
 clear hb
 go_wp2_with fail
 refine (impl_AreaOf_yes HL.out _).mono ?_
 rintro e w2 ⟨rfl,hb⟩
 have HB2:=Lib.hid (bTrans HB1.out hb)
 have KB2:=Lib.hid (KB1.out.below' hb)
 clear hb z c0 c1
 obtain ⟨z,c0,c1⟩:=KB2.out.c2
 go_wp2_with fail
 refine (impl_PeriodOf_yes HL.out _).mono ?_
 rintro e w3 ⟨rfl,hb⟩
 have HB3:=Lib.hid (bTrans HB2.out hb)
 clear hb z c0 c1
 have z1: ¬d=0:=by omega
 have z2:(d==0)=false:=by simp;omega
 have t1:=HT1.out
 have t2:=HT2.out
 have t3:IntKind.i64.wrap U=U:=IntWalk.i64_in _ (by omega)
 have t4:IntKind.i64.wrap V=V:=IntWalk.i64_in _ (by omega)
 go_wp2_with fail
 go_quiet (fail)
 go_wp2_with fail
 go_ret3
 exact ⟨rfl,bDraws HB3.out _⟩
theorem tmod_bd {x n:Int} (hn:1≤n):-n<x.tmod n∧x.tmod n<n:=by
 by_cases h:0≤x
 · rw [Int.tmod_eq_emod_of_nonneg h]
   have:=Int.emod_nonneg x (show n≠0 by omega)
   have:=Int.emod_lt_of_pos x (show 0<n by omega)
   omega
 · have:=tmod5 (a:=x) (n:=n) (by omega) hn
   omega
theorem tmod_dvd {x n:Int}:n ∣ x - x.tmod n:=⟨x.tdiv n,by have:=Int.mul_tdiv_add_tmod x n;omega⟩
theorem has_first {x y A B n:Int} (hn:1≤n):(x.tmod n*A+y.tmod n*B).tmod n=0↔n ∣ x*A+y*B:=by
 have e:n ∣ (x*A+y*B) - (x.tmod n*A+y.tmod n*B):=by
   rw [show x*A+y*B - (x.tmod n*A+y.tmod n*B)=(x - x.tmod n)*A+(y - y.tmod n)*B by simp only [Int.sub_mul];omega]
   exact Int.dvd_add (Int.dvd_mul_of_dvd_left tmod_dvd) (Int.dvd_mul_of_dvd_left tmod_dvd)
 rw [←Int.dvd_iff_tmod_eq_zero]
 constructor
 · intro h;have:=Int.dvd_add e h;rwa [Int.sub_add_cancel] at this
 · intro h;have:=Int.dvd_sub h e;rwa [show x*A+y*B - (x*A+y*B - (x.tmod n*A+y.tmod n*B))=x.tmod n*A+y.tmod n*B by omega] at this
theorem has_second {x y A B n:Int} (hn:1≤n):(y.tmod n*A - x.tmod n*B).tmod n=0↔n ∣ y*A - x*B:=by
 have e:n ∣ (y*A - x*B) - (y.tmod n*A - x.tmod n*B):=by
   rw [show y*A - x*B - (y.tmod n*A - x.tmod n*B)=(y - y.tmod n)*A - (x - x.tmod n)*B by simp only [Int.sub_mul];omega]
   exact Int.dvd_sub (Int.dvd_mul_of_dvd_left tmod_dvd) (Int.dvd_mul_of_dvd_left tmod_dvd)
 rw [←Int.dvd_iff_tmod_eq_zero]
 constructor
 · intro h;have:=Int.dvd_add e h;rwa [Int.sub_add_cancel] at this
 · intro h;have:=Int.dvd_sub h e;rwa [show y*A - x*B - (y*A - x*B - (y.tmod n*A - x.tmod n*B))=y.tmod n*A - x.tmod n*B by omega] at this
theorem prod_bd {u A m:Int} (h1:-m≤u) (h2:u≤m) (hm:0≤m) (a1:0≤A) (a2:A≤12):-(m*12)≤u*A∧u*A≤m*12:=by
 have e1:u*A≤m*A:=Int.mul_le_mul_of_nonneg_right h2 a1
 have e2:-m*A≤u*A:=Int.mul_le_mul_of_nonneg_right h1 a1
 have e3:m*A≤m*12:=Int.mul_le_mul_of_nonneg_left a2 hm
 rw [Int.neg_mul] at e2
 omega
set_option maxHeartbeats 1600000 in
theorem spec_l5Has {A B n g d a b p q:Int} (L:Lat A B n g d a b p q) (x y:Int) (w:World):
   Calls Tryz.prog 216 #[.agg #[.int .i64 A, .int .i64 B], .int .i64 x, .int .i64 y] w fun e w'=>e= .returned (.bool (decide (HasL A B x y)))∧Below w.heap.size w w':=by
 have n1:=L.n1;have n2:=L.n2
 have z1: ¬n=0:=by omega
 have z2:(n==0)=false:=by simp;omega
 obtain ⟨u1,u2⟩:=tmod_bd (x:=x) n1
 obtain ⟨v1,v2⟩:=tmod_bd (x:=y) n1
 have HE:Hid (HasL A B x y↔(x.tmod n*A+y.tmod n*B).tmod n=0∧(y.tmod n*A - x.tmod n*B).tmod n=0):=Lib.hid (by rw [L.has,has_first n1,has_second n1])
 obtain ⟨p1,p2⟩:=prod_bd (u:=x.tmod n) (m:=288) (A:=A) (by omega) (by omega) (by omega) (by have:=L.a1;omega) L.a2
 obtain ⟨p3,p4⟩:=prod_bd (u:=x.tmod n) (m:=288) (A:=B) (by omega) (by omega) (by omega) L.b1 L.b2
 obtain ⟨p5,p6⟩:=prod_bd (u:=y.tmod n) (m:=288) (A:=A) (by omega) (by omega) (by omega) (by have:=L.a1;omega) L.a2
 obtain ⟨p7,p8⟩:=prod_bd (u:=y.tmod n) (m:=288) (A:=B) (by omega) (by omega) (by omega) L.b1 L.b2
 obtain ⟨r1,r2⟩:=tmod_bd (x:=x.tmod n*A+y.tmod n*B) n1
 obtain ⟨r3,r4⟩:=tmod_bd (x:=y.tmod n*A - x.tmod n*B) n1
 have HL:=Lib.hid L
 clear L
 have HC:Hid (∀c1 c2:Bool,((x.tmod n*A+y.tmod n*B).tmod n==0)=c1→((y.tmod n*A - x.tmod n*B).tmod n==0)=c2→(c1 && c2)=decide (HasL A B x y)):=Lib.hid (by
   intro c1 c2 h1 h2
   rw [←h1,←h2]
   by_cases k1:(x.tmod n*A+y.tmod n*B).tmod n=0 <;>by_cases k2:(y.tmod n*A - x.tmod n*B).tmod n=0 <;>simp [HE.out,k1,k2])
 cases h1:((x.tmod n*A+y.tmod n*B).tmod n==0) <;>cases h2:((y.tmod n*A - x.tmod n*B).tmod n==0)
 all_goals (
   have HD:=Lib.hid (HC.out _ _ h1 h2)
   go_enter Tryz.func216,Tryz.ntmps216
   go_wp2_with fail
   refine (spec_l5Area HL.out _).mono ?_
   rintro e w1 ⟨rfl,hb⟩
   have HB1:=Lib.hid (bTrans (Joins.below_alloc1 _ _) hb)
   obtain ⟨z,c0,c1⟩:=((Blk.new w 139 #[.int .i64 A, .int .i64 B]).below' hb).c2
   clear hb
   go_wp2_with fail
   go_ret
   exact ⟨ret_bool (by rw [←HD.out];rfl),HB1.out⟩)
theorem name_has {A B n g d a b p q x y K:Int} (L:Lat A B n g d a b p q) (hK:IsName A B x y K) {k:Int} (h0:0≤k) (h1:k<n):decide (HasL A B (x - k % d) (y - k/d))=decide (k=K):=by
 by_cases h:k=K
 · subst h
   rw [decide_eq_true (L.isName.1 hK).2.2,decide_eq_true rfl]
 · rw [decide_eq_false h,decide_eq_false]
   intro hh
   exact h (L.name_one (L.isName.2 ⟨h0,h1,hh⟩) hK)
set_option maxHeartbeats 1600000 in
theorem spec_l5Name {A B n g d a b p q:Int} (L:Lat A B n g d a b p q) (x y K:Int) (hK:IsName A B x y K) (x1:-1000000≤x) (x2:x≤1000000) (y1:-1000000≤y) (y2:y≤1000000) (w:World):
   Calls Tryz.prog 169 #[.agg #[.int .i64 A, .int .i64 B], .int .i64 x, .int .i64 y] w fun e w'=>e= .returned (.int .i64 K)∧Below w.heap.size w w':=by
 have n1:=L.n1;have n2:=L.n2;have d1:=L.w1;have d2:=L.w2;have g1:=L.g1;have g2:=L.g2
 have hw:=L.wg
 have k0:=(L.isName.1 hK).1
 have k1:=(L.isName.1 hK).2.1
 obtain ⟨M,rfl⟩: ∃M:Nat,K=M:=⟨K.toNat,by omega⟩
 have HL:=Lib.hid L
 have HK:=Lib.hid hK
 clear L hK
 go_enter Tryz.func169,Tryz.ntmps169
 go_wp2_with fail
 refine (spec_l5Sides HL.out _).mono ?_
 rintro e w1 ⟨rfl,hb⟩
 have HB1:=Lib.hid (bTrans (Joins.below_alloc1 _ _) hb)
 have KB1:=Lib.hid ((Blk.new w 139 #[.int .i64 A, .int .i64 B]).below' hb)
 clear hb
 go_wp2_with fail
 go_loopw [9] (fun i wr=> ∃k:Nat,k≤M∧i= .int .i64 k∧Below w1.heap.size w1 wr) (fun i _=>M - (intOf i).toNat)
 case atStart=>exact ⟨0,Nat.zero_le _,rfl,Below.refl _ _⟩
 case round=>
   obtain ⟨k,hk,rfl,hg⟩:=hrel
   have HG:=Lib.hid hg
   have KR:=Lib.hid (KB1.out.below' hg)
   clear hg
   obtain ⟨z,c0,c1⟩:=KR.out.c2
   obtain ⟨U,hU⟩: ∃U,(k:Int) % d=U:=⟨_,rfl⟩
   obtain ⟨V,hV⟩: ∃V,(k:Int)/d=V:=⟨_,rfl⟩
   obtain ⟨u1,u2,v1,v2,t1,t2⟩:=div5 HL.out (K:=(k:Int)) (by omega) (by omega)
   have HN:=Lib.hid (name_has HL.out HK.out (k:=(k:Int)) (by omega) (by omega))
   rw [hU] at u1 u2 t1 HN
   rw [hV] at v1 v2 t2 HN
   clear hU hV
   have z1: ¬d=0:=by omega
   have z2:(d==0)=false:=by simp;omega
   have t3:IntKind.i64.wrap U=U:=IntWalk.i64_in _ (by omega)
   have t4:IntKind.i64.wrap V=V:=IntWalk.i64_in _ (by omega)
   have t5:IntKind.i64.wrap (x - U)=x - U:=IntWalk.i64_in _ (by omega)
   have t6:IntKind.i64.wrap (y - V)=y - V:=IntWalk.i64_in _ (by omega)
   have t7:IntKind.i64.wrap (d*g)=d*g:=by rw [hw];exact IntWalk.i64_in _ (by omega)
   have hkn:(k:Int)<d*g:=by omega
   go_wp2_with fail
   go_region_held3 (fun v=>v.cell? ⟨w.heap.size,0,none⟩=some (.int .i64 A)∧v.cell? ⟨w.heap.size,1,none⟩=some (.int .i64 B))
     (first | exact ⟨c0,c1⟩ | exact ⟨(hb.cell z).trans c0,(hb.cell z).trans c1⟩)
     (first
       | (go_at_call 216;((with_reducible refine (spec_l5Has HL.out _ _ _).mono ?_);rw [HN.out];rintro e v1 ⟨rfl,hb⟩)))
   have HG1:=Lib.hid (bTrans HG.out.drew hb)
   clear hb
   by_cases hkM:k=M
   · have q1:decide ((k:Int)=(M:Int))=true:=decide_eq_true (by omega)
     rw [q1]
     go_wp2_with fail
     go_ret
     exact ⟨ret_int (by omega),bTrans HB1.out HG1.out⟩
   · have q1:decide ((k:Int)=(M:Int))=false:=decide_eq_false (by omega)
     rw [q1]
     go_wp2_with fail
     go_roundw
     case rel=>exact ⟨k+1,by omega,by go_num,HG1.out⟩
     case measure=>simp [intOf];omega
set_option maxHeartbeats 400000 in
theorem impl_isPlace (x:Int) (w:World):
   Calls Tryz.prog 280 #[.int .i64 x] w fun e w'=>e= .returned (.bool (decide (-100000≤x∧x≤100000)))∧w=w':=by
 go_enter Tryz.func280,Tryz.ntmps280
 go_wp2
 all_goals (go_ret;exact ⟨ret_bool (by first | (simp [*];done) | (simp [*];omega) | (simp;intros;omega)),rfl⟩)
end Go.Proofs.YtmikajnpgcabfaaGreatDoor
namespace Go.Proofs.YtmikajnpgcabfaaGreatDoor
set_option linter.unusedVariables false
set_option linter.unusedSimpArgs false
def cand (A B U V I J:Int) (k:Nat):Int:=
 (U - (I+(k:Int) % 5 - 2)*A+(J+(k:Int)/5 - 2)*B)*(U - (I+(k:Int) % 5 - 2)*A+(J+(k:Int)/5 - 2)*B)+(V - (I+(k:Int) % 5 - 2)*B - (J+(k:Int)/5 - 2)*A)*(V - (I+(k:Int) % 5 - 2)*B - (J+(k:Int)/5 - 2)*A)
def BestAt (f:Nat→Int) (k:Nat) (b:Int):Prop:=(k=0∧b=-1)∨(0<k∧(∃j,j<k∧b=f j)∧ ∀j,j<k→b≤f j)
theorem best_start (f:Nat→Int):BestAt f 0 (-1):=Or.inl ⟨rfl,rfl⟩
theorem best_new {f:Nat→Int} {k:Nat} {b:Int} (h:BestAt f k b) (hn: ∀j,0≤f j) (hb:b<0∨f k<b):BestAt f (k+1) (f k):=by
 refine Or.inr ⟨by omega,⟨k,by omega,rfl⟩,fun j hj=>?_⟩
 by_cases e:j=k
 · rw [e];exact Int.le_refl _
 · rcases h with ⟨h1,h2⟩ | ⟨h1,⟨i,hi,h2⟩,h3⟩
   · omega
   · have:=h3 j (by omega)
     have:=hn i
     omega
theorem best_old {f:Nat→Int} {k:Nat} {b:Int} (h:BestAt f k b) (h0: ¬b<0) (hb: ¬f k<b):BestAt f (k+1) b:=by
 rcases h with ⟨h1,h2⟩ | ⟨h1,⟨i,hi,h2⟩,h3⟩
 · omega
 · refine Or.inr ⟨by omega,⟨i,by omega,h2⟩,fun j hj=>?_⟩
   by_cases e:j=k
   · rw [e];omega
   · exact h3 j (by omega)
theorem sq_ge (x:Int):0≤x*x:=by
 rcases Int.le_total 0 x with h | h
 · exact Int.mul_nonneg h h
 · have:=Int.mul_nonneg (show 0≤-x by omega) (show 0≤-x by omega)
   rwa [Int.neg_mul_neg] at this
theorem cand_nn (A B U V I J:Int) (k:Nat):0≤cand A B U V I J k:=by
 unfold cand
 have h1:=sq_ge (U - (I+(k:Int) % 5 - 2)*A+(J+(k:Int)/5 - 2)*B)
 have h2:=sq_ge (V - (I+(k:Int) % 5 - 2)*B - (J+(k:Int)/5 - 2)*A)
 omega
theorem best_bd {f:Nat→Int} {k:Nat} {b:Int} (h:BestAt f k b) (hn: ∀j,0≤f j):-1≤b:=by
 rcases h with ⟨h1,h2⟩ | ⟨h1,⟨i,hi,h2⟩,h3⟩
 · omega
 · have:=hn i;omega
theorem tdiv_near {Y n:Int} (hn:1≤n):Y.tdiv n=Y/n∨Y.tdiv n=Y/n+1:=by
 have h1:=Int.mul_tdiv_add_tmod Y n
 have h2:=Int.mul_ediv_add_emod Y n
 have h3:=Int.emod_nonneg Y (show n≠0 by omega)
 have h4:=Int.emod_lt_of_pos Y (show 0<n by omega)
 by_cases hy:0≤Y
 · left;exact Int.tdiv_eq_ediv_of_nonneg hy
 · obtain ⟨X,rfl⟩: ∃X,Y=-X:=⟨-Y,by omega⟩
   have e0:(-X).tmod n=-(X % n):=by rw [Int.neg_tmod,Int.tmod_eq_emod_of_nonneg (by omega)]
   have e1:=Int.emod_nonneg X (show n≠0 by omega)
   have e2:=Int.emod_lt_of_pos X (show 0<n by omega)
   rw [e0] at h1
   obtain ⟨t,ht⟩: ∃t,(-X).tdiv n=t:=⟨_,rfl⟩
   obtain ⟨f,hf⟩: ∃f,(-X)/n=f:=⟨_,rfl⟩
   rw [ht] at h1⊢
   rw [hf] at h2⊢
   have i1:n*(t - f)<n*2:=by rw [Int.mul_sub];omega
   have i2:n*(-1)<n*(t - f):=by rw [Int.mul_sub];omega
   have j1:=Int.lt_of_mul_lt_mul_left i1 (by omega)
   have j2:=Int.lt_of_mul_lt_mul_left i2 (by omega)
   omega
theorem best_near {A B n g w a b p q U V I J v:Int} (L:Lat A B n g w a b p q) (hI:I=(U*A+V*B)/n) (hJ:J=(V*A - U*B).tdiv n) (h:BestAt (cand A B U V I J) 25 v):v=nearF A B U V:=by
 rcases h with ⟨h1,_⟩ | ⟨_,⟨i,hi,h2⟩,h3⟩
 · omega
 have hle: ∀k,nearF A B U V≤cand A B U V I J k:=fun k=>L.near_le U V (I+(k:Int) % 5 - 2) (J+(k:Int)/5 - 2)
 obtain ⟨c,d,hc,hd,e⟩:=L.near_at U V
 have hJ2:=tdiv_near (Y:=V*A - U*B) L.n1
 rw [←hJ] at hJ2
 rw [←hI] at hc
 obtain ⟨F,hF⟩: ∃F,(V*A - U*B)/n=F:=⟨_,rfl⟩
 rw [hF] at hd hJ2
 obtain ⟨s,hs⟩: ∃s:Nat,(s:Int)=c - I+2:=⟨(c - I+2).toNat,by omega⟩
 obtain ⟨t,ht⟩: ∃t:Nat,(t:Int)=d - J+2:=⟨(d - J+2).toNat,by omega⟩
 have hk:=h3 (s+5*t) (by omega)
 have e1:((s+5*t:Nat):Int) % 5=s:=by omega
 have e2:((s+5*t:Nat):Int)/5=t:=by omega
 have e3:cand A B U V I J (s+5*t)=nearF A B U V:=by
   unfold cand
   rw [e1,e2,show I+(s:Int) - 2=c by omega,show J+(t:Int) - 2=d by omega,e]
 have:=hle i
 omega
end Go.Proofs.YtmikajnpgcabfaaGreatDoor
namespace Go.Proofs.YtmikajnpgcabfaaGreatDoor
open Go.RowKit
set_option linter.unusedVariables false
set_option linter.unusedSimpArgs false
theorem sq_bdN {x m:Int} (h1:-m≤x) (h2:x≤m):0≤x*x∧x*x≤m*m:=by
 refine ⟨sq_ge x,?_⟩
 rcases Int.le_total 0 x with h | h
 · exact Int.mul_le_mul h2 h2 h (by omega)
 · have:=Int.mul_le_mul (show -x≤m by omega) (show -x≤m by omega) (by omega) (by omega)
   rwa [Int.neg_mul_neg] at this
theorem near_start {A B n g d a b p q U V:Int} (L:Lat A B n g d a b p q) (u1:0≤U) (u2:U≤287) (v1:0≤V) (v2:V≤11):
   0≤U*A∧U*A≤3444∧0≤U*B∧U*B≤3444∧0≤V*A∧V*A≤132∧0≤V*B∧V*B≤132∧0≤(U*A+V*B)/n∧(U*A+V*B)/n≤4000∧-4000≤(V*A - U*B).tdiv n∧(V*A - U*B).tdiv n≤4000:=by
 have a1:=L.a1;have a2:=L.a2;have b1:=L.b1;have b2:=L.b2;have n1:=L.n1
 have h1:0≤U*A:=Int.mul_nonneg u1 (by omega)
 have h2:=Int.mul_le_mul u2 a2 (by omega) (by omega)
 have h3:0≤U*B:=Int.mul_nonneg u1 b1
 have h4:=Int.mul_le_mul u2 b2 b1 (by omega)
 have h5:0≤V*A:=Int.mul_nonneg v1 (by omega)
 have h6:=Int.mul_le_mul v2 a2 (by omega) (by omega)
 have h7:0≤V*B:=Int.mul_nonneg v1 b1
 have h8:=Int.mul_le_mul v2 b2 b1 (by omega)
 have q1:0≤(U*A+V*B)/n:=Int.ediv_nonneg (by omega) (by omega)
 have q2:(U*A+V*B)/n≤U*A+V*B:=Int.ediv_le_self _ (by omega)
 have q3:-4000≤(V*A - U*B).tdiv n∧(V*A - U*B).tdiv n≤4000:=by
   rcases tdiv_near (Y:=V*A - U*B) n1 with e | e
   all_goals (
     rw [e]
     have hlo:-3444≤(V*A - U*B)/n:=by
       apply Int.le_ediv_of_mul_le (by omega)
       have:-3444*n≤-3444*1:=Int.mul_le_mul_of_nonpos_left (by omega) n1
       omega
     have hhi:(V*A - U*B)/n<133:=by
       apply Int.ediv_lt_of_lt_mul (by omega)
       have:133*1≤133*n:=Int.mul_le_mul_of_nonneg_left n1 (by omega)
       omega
     omega)
 omega
theorem round_bd {A B U V I J:Int} (k:Nat) (hk:k<25) (a1:0≤A) (a2:A≤12) (b1:0≤B) (b2:B≤12) (u1:0≤U) (u2:U≤287) (v1:0≤V) (v2:V≤11) (i1:-4000≤I) (i2:I≤4000) (j1:-4000≤J) (j2:J≤4000):
   -60120≤(I+(k:Int) % 5 - 2)*A∧(I+(k:Int) % 5 - 2)*A≤60120∧-60120≤(J+(k:Int)/5 - 2)*B∧(J+(k:Int)/5 - 2)*B≤60120∧
   -60120≤(I+(k:Int) % 5 - 2)*B∧(I+(k:Int) % 5 - 2)*B≤60120∧-60120≤(J+(k:Int)/5 - 2)*A∧(J+(k:Int)/5 - 2)*A≤60120∧
   0≤(U - (I+(k:Int) % 5 - 2)*A+(J+(k:Int)/5 - 2)*B)*(U - (I+(k:Int) % 5 - 2)*A+(J+(k:Int)/5 - 2)*B)∧(U - (I+(k:Int) % 5 - 2)*A+(J+(k:Int)/5 - 2)*B)*(U - (I+(k:Int) % 5 - 2)*A+(J+(k:Int)/5 - 2)*B)≤40000000000∧
   0≤(V - (I+(k:Int) % 5 - 2)*B - (J+(k:Int)/5 - 2)*A)*(V - (I+(k:Int) % 5 - 2)*B - (J+(k:Int)/5 - 2)*A)∧(V - (I+(k:Int) % 5 - 2)*B - (J+(k:Int)/5 - 2)*A)*(V - (I+(k:Int) % 5 - 2)*B - (J+(k:Int)/5 - 2)*A)≤40000000000:=by
 obtain ⟨P,hP⟩: ∃P,I+(k:Int) % 5 - 2=P:=⟨_,rfl⟩
 obtain ⟨Q,hQ⟩: ∃Q,J+(k:Int)/5 - 2=Q:=⟨_,rfl⟩
 rw [hP,hQ]
 have p1:-5010≤P:=by omega
 have p2:P≤5010:=by omega
 have q1:-5010≤Q:=by omega
 have q2:Q≤5010:=by omega
 obtain ⟨e1,e2⟩:=prod_bd p1 p2 (by omega) a1 a2
 obtain ⟨e3,e4⟩:=prod_bd q1 q2 (by omega) b1 b2
 obtain ⟨e5,e6⟩:=prod_bd p1 p2 (by omega) b1 b2
 obtain ⟨e7,e8⟩:=prod_bd q1 q2 (by omega) a1 a2
 obtain ⟨f1,f2⟩:=sq_bdN (x:=U - P*A+Q*B) (m:=200000) (by omega) (by omega)
 obtain ⟨f3,f4⟩:=sq_bdN (x:=V - P*B - Q*A) (m:=200000) (by omega) (by omega)
 refine ⟨by omega,by omega,by omega,by omega,by omega,by omega,by omega,by omega,f1,by omega,f3,by omega⟩
set_option maxHeartbeats 3200000 in
theorem spec_l5Near {A B n g d a b p q:Int} (L:Lat A B n g d a b p q) (K R:Int) (h0:0≤K) (h1:K<n) (hR:nearF A B (K % d) (K/d)=R) (w:World):
   Calls Tryz.prog 215 #[.agg #[.int .i64 A, .int .i64 B], .int .i64 K] w fun e w'=>e= .returned (.int .i64 R)∧Below w.heap.size w w':=by
 obtain ⟨U,hU⟩: ∃U,K % d=U:=⟨_,rfl⟩
 obtain ⟨V,hV⟩: ∃V,K/d=V:=⟨_,rfl⟩
 obtain ⟨u1,u2,v1,v2,t1,t2⟩:=div5 L h0 h1
 rw [hU,hV] at hR
 have n1:=L.n1;have n2:=L.n2;have d1:=L.w1;have d2:=L.w2
 have a1:=L.a1;have a2:=L.a2;have b1:=L.b1;have b2:=L.b2
 have z1: ¬d=0:=by omega
 have z2:(d==0)=false:=by simp;omega
 have z3: ¬n=0:=by omega
 have z4:(n==0)=false:=by simp;omega
 obtain ⟨s1,s2,s3,s4,s5,s6,s7,s8,s9,s10,s11,s12⟩:=near_start L (U:=U) (V:=V) (by omega) (by omega) (by omega) (by omega)
 have HL:=Lib.hid L
 have HR:=Lib.hid hR
 clear L hR t1 t2
 go_enter Tryz.func215,Tryz.ntmps215
 go_wp2_with fail
 refine (spec_l5Sides HL.out _).mono ?_
 rintro e w1 ⟨rfl,hb⟩
 have HB1:=Lib.hid (bTrans (Joins.below_alloc1 _ _) hb)
 have KB1:=Lib.hid ((Blk.new w 139 #[.int .i64 A, .int .i64 B]).below' hb)
 obtain ⟨z,c0,c1⟩:=KB1.out.c2
 clear hb
 go_wp2_with fail
 refine (spec_l5Area HL.out _).mono ?_
 rintro e w2 ⟨rfl,hb⟩
 have HB2:=Lib.hid (bTrans HB1.out hb)
 have KB2:=Lib.hid (KB1.out.below' hb)
 clear hb z c0 c1
 obtain ⟨z,c0,c1⟩:=KB2.out.c2
 go_wp2_with fail
 rw [hU] at u1 u2
 rw [hV] at v1 v2
 clear hU hV
 obtain ⟨I,hI⟩: ∃I,(U*A+V*B)/n=I:=⟨_,rfl⟩
 obtain ⟨J,hJ⟩: ∃J,(V*A - U*B).tdiv n=J:=⟨_,rfl⟩
 rw [hI] at s9 s10⊢
 rw [hJ] at s11 s12⊢
 have HI:=Lib.hid hI
 have HJ:=Lib.hid hJ
 have HNN:=Lib.hid (cand_nn A B U V I J)
 clear hI hJ
 clear s1 s2 s3 s4 s5 s6 s7 s8 z1 z2 z3 z4
 go_loopw [12,13] (fun b i wr=> ∃(k:Nat) (best:Int),k≤25∧i= .int .i64 k∧b= .int .i64 best∧Hid (BestAt (cand A B U V I J) k best)∧wr=w2) (fun _ i _=>25 - (intOf i).toNat)
 case atStart=>exact ⟨0,-1,by omega,rfl,rfl,Lib.hid (best_start _),rfl⟩
 case round=>
   obtain ⟨k,best,hk,rfl,rfl,HT,rfl⟩:=hrel
   by_cases hlt:k<25
   · obtain ⟨r1,r2,r3,r4,r5,r6,r7,r8,r9,r10,r11,r12⟩:=round_bd (A:=A) (B:=B) (U:=U) (V:=V) (I:=I) (J:=J) k hlt (by omega) a2 b1 b2 u1 u2 v1 v2 (by omega) s10 s11 s12
     have q0:=best_bd HT.out HNN.out
     have HU:Hid (cand A B U V I J k=(U - (I+(k:Int) % 5 - 2)*A+(J+(k:Int)/5 - 2)*B)*(U - (I+(k:Int) % 5 - 2)*A+(J+(k:Int)/5 - 2)*B)+(V - (I+(k:Int) % 5 - 2)*B - (J+(k:Int)/5 - 2)*A)*(V - (I+(k:Int) % 5 - 2)*B - (J+(k:Int)/5 - 2)*A)):=Lib.hid rfl
     by_cases hb0:best<0
     · have HNW:=Lib.hid (best_new HT.out HNN.out (Or.inl hb0))
       go_wp2_with fail
       go_roundw
       case rel=>exact ⟨k+1,_,by omega,by go_num,rfl,Lib.hid (by rw [←HU.out];exact HNW.out),by first | trivial | rfl⟩
       case measure=>simp [intOf];omega
     · by_cases hc:cand A B U V I J k<best
       · have HNW:=Lib.hid (best_new HT.out HNN.out (Or.inr hc))
         rw [HU.out] at hc
         go_wp2_with fail
         go_roundw
         case rel=>exact ⟨k+1,_,by omega,by go_num,rfl,Lib.hid (by rw [←HU.out];exact HNW.out),by first | trivial | rfl⟩
         case measure=>simp [intOf];omega
       · have HNW:=Lib.hid (best_old HT.out hb0 hc)
         rw [HU.out] at hc
         go_wp2_with fail
         go_roundw
         case rel=>exact ⟨k+1,best,by omega,by go_num,rfl,Lib.hid HNW.out,by first | trivial | rfl⟩
         case measure=>simp [intOf];omega
   · obtain rfl:k=25:=by omega
     have HF:=Lib.hid (best_near HL.out HI.out.symm HJ.out.symm HT.out)
     go_wp2_with fail
     go_ret
     exact ⟨ret_int (by rw [HF.out,HR.out]),HB2.out⟩
set_option maxHeartbeats 400000 in
theorem impl_way5 (a b n:Int) (w:World) (h1:1≤n) (h2:n≤1000) (h3:-1000000≤a) (h4:a≤1000000) (h5:-1000000≤b) (h6:b≤1000000):
   Calls Tryz.prog 316 #[.int .i64 a, .int .i64 b, .int .i64 n] w fun e w'=>e= .returned (.int .i64 (wayG (b - a) n))∧w=w':=by
 have b1:=Int.emod_nonneg (b - a) (show n≠0 by omega)
 have b2:=Int.emod_lt_of_pos (b - a) (show 0<n by omega)
 go_enter Tryz.func316,Tryz.ntmps316
 go_wp2_with fail
 refine (rem5 _ _ _ h1 (by omega)).mono ?_
 rintro e w2 ⟨rfl,rfl⟩
 go_wp2_with fail
 all_goals (go_ret;exact ⟨ret_int (by unfold wayG;omega),rfl⟩)
set_option maxHeartbeats 800000 in
theorem impl_torus5 (n X Y:Int) (w:World) (h1:1≤n) (h2:n≤1000) (h3:-1000000≤X) (h4:X≤1000000) (h5:-1000000≤Y) (h6:Y≤1000000):
   Calls Tryz.prog 303 #[.int .i64 n, .int .i64 n, .agg #[.int .i64 0, .int .i64 0], .agg #[.int .i64 X, .int .i64 Y]] w fun e w'=>e= .returned (.int .i64 (wayG X n*wayG X n+wayG Y n*wayG Y n))∧Below w.heap.size w w':=by
 obtain ⟨x1,x2⟩:=wayG_bd (d:=X) h1
 obtain ⟨y1,y2⟩:=wayG_bd (d:=Y) h1
 obtain ⟨S,hS⟩: ∃S,wayG X n=S:=⟨_,rfl⟩
 obtain ⟨T,hT⟩: ∃T,wayG Y n=T:=⟨_,rfl⟩
 rw [hS] at x1 x2⊢
 rw [hT] at y1 y2⊢
 obtain ⟨m1,m2⟩:=sq_bdN (x:=S) (m:=1000) (by omega) (by omega)
 obtain ⟨m3,m4⟩:=sq_bdN (x:=T) (m:=1000) (by omega) (by omega)
 have HX:Hid (wayG (X - 0) n=S):=Lib.hid (by rw [Int.sub_zero];exact hS)
 have HY:Hid (wayG (Y - 0) n=T):=Lib.hid (by rw [Int.sub_zero];exact hT)
 clear hS hT
 go_enter Tryz.func303,Tryz.ntmps303
 go_wp2_with fail
 have ka:=(Blk.new w 191 #[.int .i64 0, .int .i64 0]).alloc (.cells #[.int .i64 X, .int .i64 Y] 191)
 have kb:=Blk.new' (g:=w.heap.size+1) (w:=w.alloc (.cells #[.int .i64 0, .int .i64 0] 191)) 191 #[.int .i64 X, .int .i64 Y] (by simp)
 have a0:=ka.cell 0
 have a1:=ka.cell 1
 have b0:=kb.cell 0
 have b1:=kb.cell 1
 simp only [List.getElem?_toArray,List.getElem?_cons_zero,List.getElem?_cons_succ] at a0 a1 b0 b1
 go_region_held3 (fun v=>v.cell? ⟨w.heap.size,0,none⟩=some (.int .i64 0)∧v.cell? ⟨w.heap.size,1,none⟩=some (.int .i64 0)∧v.cell? ⟨w.heap.size+1,0,none⟩=some (.int .i64 X)∧v.cell? ⟨w.heap.size+1,1,none⟩=some (.int .i64 Y))
   (first | exact ⟨a0,a1,b0,b1⟩)
   (first
     | (go_at_call 316;((with_reducible refine (impl_way5 _ _ _ _ (by omega) (by omega) (by omega) (by omega) (by omega) (by omega)).mono ?_);rintro e v1 ⟨rfl,rfl⟩;first | rw [HX.out] | rw [HY.out])))
 all_goals (
   go_wp2_with fail
   go_ret
   exact ⟨rfl,((Joins.below_alloc2 w _ _).drew)⟩)
theorem near_mod2 {A B n g d a b p q:Int} (L:Lat A B n g d a b p q) (x y:Int):
   (wayG (x % n*A+y % n*B) n*wayG (x % n*A+y % n*B) n+wayG (y % n*A - x % n*B) n*wayG (y % n*A - x % n*B) n).tdiv n=nearF A B x y∧
   0≤wayG (x % n*A+y % n*B) n*wayG (x % n*A+y % n*B) n+wayG (y % n*A - x % n*B) n*wayG (y % n*A - x % n*B) n∧
   wayG (x % n*A+y % n*B) n*wayG (x % n*A+y % n*B) n+wayG (y % n*A - x % n*B) n*wayG (y % n*A - x % n*B) n≤200000:=by
 have hn:=L.n1;have hn2:=L.n2
 have h:=L.near_n (x % n) (y % n)
 rw [L.near_mod] at h
 obtain ⟨x1,x2⟩:=wayG_bd (d:=x % n*A+y % n*B) hn
 obtain ⟨y1,y2⟩:=wayG_bd (d:=y % n*A - x % n*B) hn
 obtain ⟨m1,m2⟩:=sq_bdN (x:=wayG (x % n*A+y % n*B) n) (m:=288) (by omega) (by omega)
 obtain ⟨m3,m4⟩:=sq_bdN (x:=wayG (y % n*A - x % n*B) n) (m:=288) (by omega) (by omega)
 refine ⟨?_,by omega,by omega⟩
 rw [←h]
 exact Int.mul_tdiv_cancel_left _ (by omega)
set_option maxHeartbeats 1600000 in
theorem impl_nearSquare {A B n g d a b p q:Int} (L:Lat A B n g d a b p q) (x y R:Int) (hR:nearF A B x y=R) (w:World):
   Calls Tryz.prog 278 #[.agg #[.int .i64 A, .int .i64 B], .agg #[.int .i64 x, .int .i64 y]] w fun e w'=>e= .returned (.int .i64 R)∧Below w.heap.size w w':=by
 have n1:=L.n1;have n2:=L.n2
 have a1:=L.a1;have a2:=L.a2;have b1:=L.b1;have b2:=L.b2
 obtain ⟨q1,q2,q3⟩:=near_mod2 L x y
 rw [hR] at q1
 obtain ⟨U,hU⟩: ∃U,x % n=U:=⟨_,rfl⟩
 obtain ⟨V,hV⟩: ∃V,y % n=V:=⟨_,rfl⟩
 have u1:=Int.emod_nonneg x (show n≠0 by omega)
 have u2:=Int.emod_lt_of_pos x (show 0<n by omega)
 have v1:=Int.emod_nonneg y (show n≠0 by omega)
 have v2:=Int.emod_lt_of_pos y (show 0<n by omega)
 rw [hU] at u1 u2 q1 q2 q3
 rw [hV] at v1 v2 q1 q2 q3
 obtain ⟨p1,p2⟩:=prod_bd (u:=U) (m:=288) (A:=A) (by omega) (by omega) (by omega) (by omega) a2
 obtain ⟨p3,p4⟩:=prod_bd (u:=U) (m:=288) (A:=B) (by omega) (by omega) (by omega) b1 b2
 obtain ⟨p5,p6⟩:=prod_bd (u:=V) (m:=288) (A:=A) (by omega) (by omega) (by omega) (by omega) a2
 obtain ⟨p7,p8⟩:=prod_bd (u:=V) (m:=288) (A:=B) (by omega) (by omega) (by omega) b1 b2
 obtain ⟨X,hX⟩: ∃X,U*A+V*B=X:=⟨_,rfl⟩
 obtain ⟨Y,hY⟩: ∃Y,V*A - U*B=Y:=⟨_,rfl⟩
 rw [hX,hY] at q1 q2 q3
 obtain ⟨D,hD⟩: ∃D,wayG X n*wayG X n+wayG Y n*wayG Y n=D:=⟨_,rfl⟩
 rw [hD] at q1 q2 q3
 have r0:0≤R:=by rw [←hR];exact L.near_nn x y
 have HL:=Lib.hid L
 have HU:=Lib.hid hU
 have HV:=Lib.hid hV
 have HD:=Lib.hid hD
 have HQ:=Lib.hid q1
 have z1: ¬n=0:=by omega
 have z2:(n==0)=false:=by simp;omega
 clear L hR hU hV hD q1
 go_enter Tryz.func278,Tryz.ntmps278
 go_wp2_with fail
 refine (impl_AreaOf_yes HL.out _).mono ?_
 rintro e w1 ⟨rfl,hb⟩
 have HB1:=Lib.hid (bTrans (Joins.below_alloc2 _ _ _) hb)
 have KA1:=Lib.hid (((Blk.new w 139 #[.int .i64 A, .int .i64 B]).alloc (.cells #[.int .i64 x, .int .i64 y] 191)).below' hb)
 have KC1:=Lib.hid ((Blk.new' (g:=w.heap.size+1) (w:=w.alloc (.cells #[.int .i64 A, .int .i64 B] 139)) 191 #[.int .i64 x, .int .i64 y] (by simp)).below' hb)
 obtain ⟨z,c0,c1⟩:=KA1.out.c2
 obtain ⟨y',d0,d1⟩:=KC1.out.c2
 clear hb
 go_wp2_with fail
 go_region_held3 (fun v=>v.cell? ⟨w.heap.size+1,0,none⟩=some (.int .i64 x)∧v.cell? ⟨w.heap.size+1,1,none⟩=some (.int .i64 y))
   (first | exact ⟨d0,d1⟩)
   (first
     | (go_at_call 123;((with_reducible refine (rem5 _ _ _ n1 (by omega)).mono ?_);rintro e v1 ⟨rfl,rfl⟩;first | rw [HU.out] | rw [HV.out])))
 have l0:w1.drew.cell? ⟨w.heap.size,0,none⟩=some (.int .i64 A):=c0
 have l1:w1.drew.cell? ⟨w.heap.size,1,none⟩=some (.int .i64 B):=c1
 go_wp2_with fail
 refine (impl_torus5 n X Y _ n1 (by omega) (by omega) (by omega) (by omega) (by omega)).mono ?_
 rw [HD.out]
 rintro e w2 ⟨rfl,hb⟩
 have HB2:=Lib.hid (bTrans (bAlloc HB1.out (.cells #[.int .i64 X, .int .i64 Y] 191)).drew hb)
 clear hb
 have e0:0≤D/n:=Int.ediv_nonneg q2 (by omega)
 have e1:D/n≤200000:=Int.le_trans (Int.ediv_le_self _ q2) q3
 have HE:Hid (D/n=R):=Lib.hid (by rw [←Int.tdiv_eq_ediv_of_nonneg q2];exact HQ.out)
 go_wp2_with fail
 go_ret
 exact ⟨ret_int HE.out,HB2.out⟩
end Go.Proofs.YtmikajnpgcabfaaGreatDoor
