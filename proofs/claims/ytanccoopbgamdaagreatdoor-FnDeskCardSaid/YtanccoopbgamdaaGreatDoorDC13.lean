/-
  Contracts and plain facts on which the theorem of this claim rests, text 13.
-/
import Derived.Deep.RegionHeld3
import Derived.RegionTactic
import Derived.Test.YtanccoopbgamdaaGreatDoorDC3
import Derived.Test.YtanccoopbgamdaaGreatDoorDC5
import Derived.Test.YtanccoopbgamdaaGreatDoorDC6
import Derived.Test.YtanccoopbgamdaaGreatDoorDC10
import Derived.Test.YtanccoopbgamdaaGreatDoorDC12
namespace Go.Proofs.YtanccoopbgamdaaGreatDoor
open Go.RowKit
set_option linter.unusedVariables false
set_option linter.unusedSimpArgs false
def okV (ps:List PV) (k:Nat):Prop:=picOk (pv ps k).W (pv ps k).H (pv ps k).ink 1=true∧(pv ps k).W=(pv ps 0).W∧(pv ps k).H=(pv ps 0).H
theorem stackV {ps:List PV}:stackOk (picsV ps)=true↔1≤ps.length∧ps.length≤4∧ ∀k,k<ps.length→okV ps k:=by
 constructor
 · intro h
   obtain ⟨h1,h2,h3⟩:=stack_bd h
   rw [picsV_len] at h1 h2 h3
   refine ⟨h1,h2,fun k hk=>?_⟩
   have:=h3 k hk
   rw [picsV_at ps k hk,picsV_at ps 0 (by omega)] at this
   exact this
 · rintro ⟨h1,h2,h3⟩
   refine stack_mk (by rw [picsV_len];exact h1) (by rw [picsV_len];exact h2) (fun k hk=>?_)
   rw [picsV_len] at hk
   rw [picsV_at ps k hk,picsV_at ps 0 (by omega)]
   exact h3 k hk
theorem stackV_no {ps:List PV} {k:Nat} (hk:k<ps.length) (h: ¬okV ps k):stackOk (picsV ps)=false:=by
 cases hs:stackOk (picsV ps) with
 | false=>rfl
 | true=>exact absurd ((stackV.1 hs).2.2 k hk) h
theorem stackV_size {ps:List PV} (h: ¬(1≤ps.length∧ps.length≤4)):stackOk (picsV ps)=false:=by
 cases hs:stackOk (picsV ps) with
 | false=>rfl
 | true=>have:=stackV.1 hs;exact absurd ⟨this.1,this.2.1⟩ h
set_option maxHeartbeats 3200000 in
theorem impl_IsStack (ad:Option Addr) (n cap:Nat) (ps:List PV) (w:World) (hn:ps.length=n) (ha:RdV w ad ps) (hl:n≤1048576) (h4: ∀k,k<ps.length→(pv ps k).n≤1048576):
   Calls Tryz.prog 41 #[.slice ad n cap] w fun e w'=>e= .returned (.bool (stackOk (picsV ps)))∧Below w.heap.size w w':=by
 have HN:=Lib.hid hn
 have HA:=Lib.hid ha
 have H4:=Lib.hid h4
 clear hn ha h4
 by_cases hs1:n<1
 · have E:Hid (stackOk (picsV ps)=false):=Lib.hid (stackV_size (by have:=HN.out;omega))
   go_enter Tryz.func41,Tryz.ntmps41
   go_wp2_with fail
   go_ret
   exact ⟨ret_bool E.out.symm,Below.refl _ _⟩
 by_cases hs2:4<n
 · have E:Hid (stackOk (picsV ps)=false):=Lib.hid (stackV_size (by have:=HN.out;omega))
   have g0:decide ((n:Int)<1)=false:=by simp;omega
   have g1:decide (4<(n:Int))=true:=by simp;omega
   go_enter Tryz.func41,Tryz.ntmps41
   go_wp2_with fail
   go_ret
   exact ⟨ret_bool E.out.symm,Below.refl _ _⟩
 have s1:1≤n:=by omega
 have s2:n≤4:=by omega
 have s3:1≤(n:Int):=by omega
 have s4:(n:Int)≤4:=by omega
 obtain ⟨b,off,hae,hal⟩:=HA.out.addr (by have:=HN.out;omega)
 subst hae
 have n0:(0:Int)<(n:Int):=by omega
 have n00:0<n:=by omega
 clear hs1 hs2
 go_enter Tryz.func41,Tryz.ntmps41
 go_wp2_with fail
 go_loopw [15] (fun i wr=> ∃k:Nat,k≤n∧i= .int .i64 k∧Hid (∀j,j<k→okV ps j)∧Hid (Below w.heap.size w wr)) (fun i _=>n - (intOf i).toNat)
 case atStart=>exact ⟨0,Nat.zero_le _,rfl,Lib.hid (fun j hj=>by omega),Lib.hid (Below.refl _ _)⟩
 case round=>
   obtain ⟨k,hk,rfl,HALL,HW⟩:=hrel
   by_cases hlt:k<n
   · have HR :=Lib.hid (HA.out.below HW.out)
     obtain ⟨_,c0,c1,c2⟩:=HR.out.cells (k:=k) (by have:=HN.out;omega)
     obtain ⟨hal2,d0,d1,d2⟩:=HR.out.cells (k:=0) (by have:=HN.out;omega)
     have ln1:=HR.out.len (k:=k) (by have:=HN.out;omega)
     have rd1:=HR.out.rd (k:=k) (by have:=HN.out;omega)
     have l1:=H4.out k (by have:=HN.out;omega)
     have hno: ¬okV ps k→stackOk (picsV ps)=false:=stackV_no (by have:=HN.out;omega)
     have hok:okV ps k↔picOk (pv ps k).W (pv ps k).H (pv ps k).ink 1=true∧(pv ps k).W=(pv ps 0).W∧(pv ps k).H=(pv ps 0).H:=Iff.rfl
     simp only [Nat.zero_mul,Nat.add_zero] at d0 d1 d2
     obtain ⟨p,hp⟩: ∃p,pv ps k=p:=⟨_,rfl⟩
     obtain ⟨q,hq⟩: ∃q,pv ps 0=q:=⟨_,rfl⟩
     rw [hp] at c0 c1 c2 ln1 rd1 l1 hok
     rw [hq] at d0 d1 d2 hok
     have HNO:=Lib.hid hno
     have HOK:=Lib.hid hok
     have L1:=Lib.hid ln1
     have R1:=Lib.hid rd1
     have k0:(0:Int)≤(k:Int):=by omega
     have k1:(k:Int)<(n:Int):=by omega
     clear hp hq ln1 rd1 hno hok
     have KB:=Blk.new wr 27 #[.int .i64 p.W, .int .i64 p.H, .slice p.a p.n p.c]
     obtain ⟨kl,e0,e1,e2⟩:=KB.c3
     have R2:=Lib.hid (R1.out.alloc (.cells #[.int .i64 p.W, .int .i64 p.H, .slice p.a p.n p.c] 27))
     have HW2:=Lib.hid (bAlloc HW.out (.cells #[.int .i64 p.W, .int .i64 p.H, .slice p.a p.n p.c] 27))
     have bl:b<(wr.alloc (.cells #[.int .i64 p.W, .int .i64 p.H, .slice p.a p.n p.c] 27)).heap.size:=by simp;omega
     have dd0:(wr.alloc (.cells #[.int .i64 p.W, .int .i64 p.H, .slice p.a p.n p.c] 27)).cell? ⟨b,off,none⟩=some (.int .i64 q.W):=(World.cell?_alloc_lt _ _ _ hal2).trans d0
     have dd1:(wr.alloc (.cells #[.int .i64 p.W, .int .i64 p.H, .slice p.a p.n p.c] 27)).cell? ⟨b,off+1,none⟩=some (.int .i64 q.H):=(World.cell?_alloc_lt _ _ _ hal2).trans d1
     have dd2:(wr.alloc (.cells #[.int .i64 p.W, .int .i64 p.H, .slice p.a p.n p.c] 27)).cell? ⟨b,off+2,none⟩=some (.slice q.a q.n q.c):=(World.cell?_alloc_lt _ _ _ hal2).trans d2
     clear KB
     by_cases hp:picOk p.W p.H p.ink 1=true
     case neg=>
       have hp2:picOk p.W p.H p.ink 1=false:=by simpa using hp
       have E:Hid (stackOk (picsV ps)=false):=Lib.hid (HNO.out (fun h=>hp (HOK.out.1 h).1))
       have CP:Hid (∀v:World,Rd v p.a p.ink→Calls Tryz.prog 29 #[.agg #[.int .i64 p.W, .int .i64 p.H, .slice p.a p.n p.c]] v fun e w'=>e= .returned (.bool false)∧Below v.heap.size v w'):=Lib.hid (fun v h=>by have:=impl_IsPlate p.W p.H p.a p.n p.c p.ink v L1.out h (by omega);rwa [hp2] at this)
       clear hp hp2
       go_wp2_with fail
       clear c0 c1 c2 d0 d1 d2
       refine wp_region_held_drew (S:=fun v=>v.cell? ⟨wr.heap.size,0,none⟩=some (.int .i64 p.W)∧v.cell? ⟨wr.heap.size,1,none⟩=some (.int .i64 p.H)∧v.cell? ⟨wr.heap.size,2,none⟩=some (.slice p.a p.n p.c)∧v.cell? ⟨b,off,none⟩=some (.int .i64 q.W)∧v.cell? ⟨b,off+1,none⟩=some (.int .i64 q.H)) (by kernel_rfl) ⟨e0,e1,e2,dd0,dd1⟩ ?_
       intro hHeld
       refine hTake 0 ?_
       refine simpR ?_
       refine hOne 1 (fun K hK=>?_)
       go_simp
       go_at_call 29
       ((with_reducible refine (CP.out _ (by exact R2.out.drew)).mono ?_);rintro e v1 ⟨rfl,hq1⟩)
       have hS1:v1.cell? ⟨wr.heap.size,0,none⟩=some (.int .i64 p.W)∧v1.cell? ⟨wr.heap.size,1,none⟩=some (.int .i64 p.H)∧v1.cell? ⟨wr.heap.size,2,none⟩=some (.slice p.a p.n p.c)∧v1.cell? ⟨b,off,none⟩=some (.int .i64 q.W)∧v1.cell? ⟨b,off+1,none⟩=some (.int .i64 q.H):=⟨(hq1.cell kl).trans e0,(hq1.cell kl).trans e1,(hq1.cell kl).trans e2,(hq1.cell bl).trans dd0,(hq1.cell bl).trans dd1⟩
       have HS1:=Lib.hid hS1
       clear hS1
       go_wp2_with fail
       refine hK.out _ _ HS1.out (fun hHeld=>?_)
       clear hK K
       refine simpR ?_
       refine hTake 2 ?_
       refine hTake 3 ?_
       refine simpR ?_
       refine hSkip 4 ?_
       refine hSkip 6 ?_
       refine hSkip 7 ?_
       refine hSkip 8 ?_
       refine hOne 5 (fun K hK=>?_)
       go_simp
       refine hK.out _ _ (by first | exact hHeld | assumption) (fun hHeld=>?_)
       clear hK K
       refine hOne 9 (fun K hK=>?_)
       go_simp
       refine hK.out _ _ (by first | exact hHeld | assumption) (fun hHeld=>?_)
       clear hK K
       refine hOne 10 (fun K hK=>?_)
       go_simp
       refine hK.out _ _ (by first | exact hHeld | assumption) (fun hHeld=>?_)
       clear hK K
       refine simpR ?_
       refine hTake 11 ?_
       refine simpR ?_
       refine wpAnyH_done (by kernel_rfl) ?_ _
       have HW5:=Lib.hid (HW2.out.drew.trans (hq1.mono (by have:=HW2.out.size;exact this)))
       clear hq1 e0 e1 e2 dd0 dd1 dd2 HS1
       go_wp2_with fail
       go_ret
       exact ⟨ret_bool E.out.symm,HW5.out⟩
     case pos=>
       have CP:Hid (∀v:World,Rd v p.a p.ink→Calls Tryz.prog 29 #[.agg #[.int .i64 p.W, .int .i64 p.H, .slice p.a p.n p.c]] v fun e w'=>e= .returned (.bool true)∧Below v.heap.size v w'):=Lib.hid (fun v h=>by have:=impl_IsPlate p.W p.H p.a p.n p.c p.ink v L1.out h (by omega);rwa [hp] at this)
       have HP:=Lib.hid hp
       clear hp
       by_cases hw:p.W=q.W
       case neg=>
         have E:Hid (stackOk (picsV ps)=false):=Lib.hid (HNO.out (fun h=>hw (HOK.out.1 h).2.1))
         have hw2:(p.W !=q.W)=true:=by simpa using hw
         have hw3:(p.W==q.W)=false:=by simpa using hw
         have ha3:=arr_eq p.W p.H q.W q.H false (by rw [hw3];rfl)
         clear hw
         go_wp2_with fail
         clear c0 c1 c2 d0 d1 d2
         obtain ⟨wq,hwq⟩: ∃wq,wq=wr.alloc (.cells #[.int .i64 p.W, .int .i64 p.H, .slice p.a p.n p.c] 27):=⟨_,rfl⟩
         rw [←hwq] at kl e0 e1 e2 bl dd0 dd1 dd2 R2 HW2⊢
         have MK:Hid (∀v,BelowL wq v→v.cell? ⟨wr.heap.size,0,none⟩=some (.int .i64 p.W)∧v.cell? ⟨wr.heap.size,1,none⟩=some (.int .i64 p.H)∧v.cell? ⟨wr.heap.size,2,none⟩=some (.slice p.a p.n p.c)∧v.cell? ⟨b,off,none⟩=some (.int .i64 q.W)∧v.cell? ⟨b,off+1,none⟩=some (.int .i64 q.H)∧v.cell? ⟨b,off+2,none⟩=some (.slice q.a q.n q.c)∧BelowL wq v):=Lib.hid (fun v hB=>⟨(hB.out.cell kl).trans e0,(hB.out.cell kl).trans e1,(hB.out.cell kl).trans e2,(hB.out.cell bl).trans dd0,(hB.out.cell bl).trans dd1,(hB.out.cell bl).trans dd2,hB⟩)
         clear hwq
         go_region_held3 (fun v=>v.cell? ⟨wr.heap.size,0,none⟩=some (.int .i64 p.W)∧v.cell? ⟨wr.heap.size,1,none⟩=some (.int .i64 p.H)∧v.cell? ⟨wr.heap.size,2,none⟩=some (.slice p.a p.n p.c)∧v.cell? ⟨b,off,none⟩=some (.int .i64 q.W)∧v.cell? ⟨b,off+1,none⟩=some (.int .i64 q.H)∧v.cell? ⟨b,off+2,none⟩=some (.slice q.a q.n q.c)∧BelowL wq v)
           (first | exact MK.out _ hb3 | exact MK.out _ hb2 | exact MK.out _ hb1 | exact MK.out _ (BelowL.start _))
           (first
             | (go_at_call 29;((with_reducible refine (CP.out _ (by exact R2.out.below (BelowL.out (limb7 (by assumption))))).mono ?_);rintro e v1 ⟨rfl,hq1⟩;have hb1:=BelowL.call (limb7 (by assumption)) hq1))
             | (go_at_call 42;((with_reducible refine (impl_sidesOf p.W p.H p.a p.n p.c _).mono ?_);rintro e v2 ⟨rfl,hq2⟩;have hb2:=BelowL.call (limb7 (by assumption)) hq2))
             | (go_at_call 42;((with_reducible refine (impl_sidesOf q.W q.H q.a q.n q.c _).mono ?_);rintro e v3 ⟨rfl,hq3⟩;have hb3:=BelowL.call (limb7 (by assumption)) hq3)))
         have HW5:=Lib.hid (bTrans HW2.out hb3.out)
         clear hq1 hq2 hq3 e0 e1 e2 dd0 dd1 dd2 hb1 hb2 hb3
         all_goals
           go_wp2_with fail
           go_ret
           exact ⟨ret_bool E.out.symm,HW5.out⟩
       case pos=>
         have hw2:(p.W !=q.W)=false:=by simpa using hw
         have hw3:(p.W==q.W)=true:=by simpa using hw
         by_cases hh:p.H=q.H
         case neg=>
           have E:Hid (stackOk (picsV ps)=false):=Lib.hid (HNO.out (fun h=>hh (HOK.out.1 h).2.2))
           have hh2:(p.H !=q.H)=true:=by simpa using hh
           have hh3:(p.H==q.H)=false:=by simpa using hh
           have ha3:=arr_eq p.W p.H q.W q.H false (by rw [hw3,hh3];rfl)
           clear hh hw
           go_wp2_with fail
           clear c0 c1 c2 d0 d1 d2
           obtain ⟨wq,hwq⟩: ∃wq,wq=wr.alloc (.cells #[.int .i64 p.W, .int .i64 p.H, .slice p.a p.n p.c] 27):=⟨_,rfl⟩
           rw [←hwq] at kl e0 e1 e2 bl dd0 dd1 dd2 R2 HW2⊢
           have MK:Hid (∀v,BelowL wq v→v.cell? ⟨wr.heap.size,0,none⟩=some (.int .i64 p.W)∧v.cell? ⟨wr.heap.size,1,none⟩=some (.int .i64 p.H)∧v.cell? ⟨wr.heap.size,2,none⟩=some (.slice p.a p.n p.c)∧v.cell? ⟨b,off,none⟩=some (.int .i64 q.W)∧v.cell? ⟨b,off+1,none⟩=some (.int .i64 q.H)∧v.cell? ⟨b,off+2,none⟩=some (.slice q.a q.n q.c)∧BelowL wq v):=Lib.hid (fun v hB=>⟨(hB.out.cell kl).trans e0,(hB.out.cell kl).trans e1,(hB.out.cell kl).trans e2,(hB.out.cell bl).trans dd0,(hB.out.cell bl).trans dd1,(hB.out.cell bl).trans dd2,hB⟩)
           clear hwq
           go_region_held3 (fun v=>v.cell? ⟨wr.heap.size,0,none⟩=some (.int .i64 p.W)∧v.cell? ⟨wr.heap.size,1,none⟩=some (.int .i64 p.H)∧v.cell? ⟨wr.heap.size,2,none⟩=some (.slice p.a p.n p.c)∧v.cell? ⟨b,off,none⟩=some (.int .i64 q.W)∧v.cell? ⟨b,off+1,none⟩=some (.int .i64 q.H)∧v.cell? ⟨b,off+2,none⟩=some (.slice q.a q.n q.c)∧BelowL wq v)
             (first | exact MK.out _ hb3 | exact MK.out _ hb2 | exact MK.out _ hb1 | exact MK.out _ (BelowL.start _))
             (first
               | (go_at_call 29;((with_reducible refine (CP.out _ (by exact R2.out.below (BelowL.out (limb7 (by assumption))))).mono ?_);rintro e v1 ⟨rfl,hq1⟩;have hb1:=BelowL.call (limb7 (by assumption)) hq1))
               | (go_at_call 42;((with_reducible refine (impl_sidesOf p.W p.H p.a p.n p.c _).mono ?_);rintro e v2 ⟨rfl,hq2⟩;have hb2:=BelowL.call (limb7 (by assumption)) hq2))
               | (go_at_call 42;((with_reducible refine (impl_sidesOf q.W q.H q.a q.n q.c _).mono ?_);rintro e v3 ⟨rfl,hq3⟩;have hb3:=BelowL.call (limb7 (by assumption)) hq3)))
           have HW5:=Lib.hid (bTrans HW2.out hb3.out)
           clear hq1 hq2 hq3 e0 e1 e2 dd0 dd1 dd2 hb1 hb2 hb3
           all_goals
             go_wp2_with fail
             go_ret
             exact ⟨ret_bool E.out.symm,HW5.out⟩
         case pos=>
           have hh2:(p.H !=q.H)=false:=by simpa using hh
           have hh3:(p.H==q.H)=true:=by simpa using hh
           have ha3:=arr_eq p.W p.H q.W q.H true (by rw [hw3,hh3];rfl)
           have HOK2:Hid (okV ps k):=Lib.hid (HOK.out.2 ⟨HP.out,hw,hh⟩)
           have HALL2:Hid (∀j,j<k+1→okV ps j):=Lib.hid (fun j hj=>by
             by_cases e:j=k
             · subst e;exact HOK2.out
             · exact HALL.out j (by omega))
           clear hh hw
           go_wp2_with fail
           clear c0 c1 c2 d0 d1 d2
           obtain ⟨wq,hwq⟩: ∃wq,wq=wr.alloc (.cells #[.int .i64 p.W, .int .i64 p.H, .slice p.a p.n p.c] 27):=⟨_,rfl⟩
           rw [←hwq] at kl e0 e1 e2 bl dd0 dd1 dd2 R2 HW2⊢
           have MK:Hid (∀v,BelowL wq v→v.cell? ⟨wr.heap.size,0,none⟩=some (.int .i64 p.W)∧v.cell? ⟨wr.heap.size,1,none⟩=some (.int .i64 p.H)∧v.cell? ⟨wr.heap.size,2,none⟩=some (.slice p.a p.n p.c)∧v.cell? ⟨b,off,none⟩=some (.int .i64 q.W)∧v.cell? ⟨b,off+1,none⟩=some (.int .i64 q.H)∧v.cell? ⟨b,off+2,none⟩=some (.slice q.a q.n q.c)∧BelowL wq v):=Lib.hid (fun v hB=>⟨(hB.out.cell kl).trans e0,(hB.out.cell kl).trans e1,(hB.out.cell kl).trans e2,(hB.out.cell bl).trans dd0,(hB.out.cell bl).trans dd1,(hB.out.cell bl).trans dd2,hB⟩)
           clear hwq
           go_region_held3 (fun v=>v.cell? ⟨wr.heap.size,0,none⟩=some (.int .i64 p.W)∧v.cell? ⟨wr.heap.size,1,none⟩=some (.int .i64 p.H)∧v.cell? ⟨wr.heap.size,2,none⟩=some (.slice p.a p.n p.c)∧v.cell? ⟨b,off,none⟩=some (.int .i64 q.W)∧v.cell? ⟨b,off+1,none⟩=some (.int .i64 q.H)∧v.cell? ⟨b,off+2,none⟩=some (.slice q.a q.n q.c)∧BelowL wq v)
             (first | exact MK.out _ hb3 | exact MK.out _ hb2 | exact MK.out _ hb1 | exact MK.out _ (BelowL.start _))
             (first
               | (go_at_call 29;((with_reducible refine (CP.out _ (by exact R2.out.below (BelowL.out (limb7 (by assumption))))).mono ?_);rintro e v1 ⟨rfl,hq1⟩;have hb1:=BelowL.call (limb7 (by assumption)) hq1))
               | (go_at_call 42;((with_reducible refine (impl_sidesOf p.W p.H p.a p.n p.c _).mono ?_);rintro e v2 ⟨rfl,hq2⟩;have hb2:=BelowL.call (limb7 (by assumption)) hq2))
               | (go_at_call 42;((with_reducible refine (impl_sidesOf q.W q.H q.a q.n q.c _).mono ?_);rintro e v3 ⟨rfl,hq3⟩;have hb3:=BelowL.call (limb7 (by assumption)) hq3)))
           have HW5:=Lib.hid (bTrans HW2.out hb3.out)
           clear hq1 hq2 hq3 e0 e1 e2 dd0 dd1 dd2 hb1 hb2 hb3
           all_goals
             go_wp2_with fail
             go_roundw
             case rel=>exact ⟨k+1,by omega,by go_num,HALL2,HW5⟩
             case measure=>simp [intOf];omega
   · obtain rfl:k=n:=by omega
     go_wp2_with fail
     go_ret
     exact ⟨ret_bool (stackV.2 ⟨by have:=HN.out;omega,by have:=HN.out;omega,fun j hj=>HALL.out j (by rw [←HN.out];exact hj)⟩).symm,HW.out⟩
def bV (ps:List PV) (i k:Nat):Int:=(pv ps k).ink.getD i 0
theorem bitsTo_congr {b c:Nat→Int} {m:Nat} (h: ∀k,k<m→b k=c k):bitsTo b m=bitsTo c m:=by
 induction m with
 | zero=>rfl
 | succ m ih=>unfold bitsTo;rw [ih (fun k hk=>h k (by omega)),h m (by omega)]
theorem markG_V (ps:List PV) (i:Nat):markG (picsV ps) i=bitsTo (bV ps i) ps.length:=by
 unfold markG
 rw [picsV_len]
 exact bitsTo_congr (fun k hk=>by rw [picsV_at ps k hk];rfl)
structure Stk (ps:List PV) (n N:Nat) (W H:Int):Prop where
 ok:stackOk (picsV ps)=true
 len:ps.length=n
 n1:1≤n
 n4:n≤4
 size:sizeOk W H=true
 area:(N:Int)=W*H
 N1:1≤N
 N2:N≤1024
 W0:(pv ps 0).W=W
 H0:(pv ps 0).H=H
 ink: ∀k,k<n→(pv ps k).ink.length=N∧within (pv ps k).ink 1=true
theorem stk_of {ps:List PV} {n:Nat} (hn:ps.length=n) (h:stackOk (picsV ps)=true): ∃N W H,Stk ps n N W H:=by
 obtain ⟨h1,h2,h3⟩:=stackV.1 h
 obtain ⟨p0,_,_⟩:=h3 0 (by omega)
 obtain ⟨s0,q0,w0⟩:=picOk_bd rfl p0
 obtain ⟨b1,b2,b3,b4,b5,b6⟩:=sizeOk_bd s0
 refine ⟨(pv ps 0).ink.length,(pv ps 0).W,(pv ps 0).H,h,hn,by omega,by omega,s0,q0,by omega,by omega,rfl,rfl,fun k hk=>?_⟩
 obtain ⟨pk,ew,eh⟩:=h3 k (by omega)
 obtain ⟨sk,qk,wk⟩:=picOk_bd rfl pk
 rw [ew,eh,←q0] at qk
 exact ⟨by omega,wk⟩
namespace Stk
variable {ps : List PV} {n N : Nat} {W H : Int}
theorem dot (h:Stk ps n N W H) {i k:Nat} (hi:i<N) (hk:k<n):bV ps i k=0∨bV ps i k=1:=by
 obtain ⟨h1,h2⟩:=h.ink k hk
 have:=within_at h2 i (by omega)
 unfold bV
 simp only [List.getD_eq_getElem?_getD]
 omega
theorem bits (h:Stk ps n N W H) {i k:Nat} (hi:i<N) (hk:k≤n):0≤bitsTo (bV ps i) k∧bitsTo (bV ps i) k<2^k:=bitsTo_bd (fun j hj=>h.dot hi (by omega))
theorem mark (h:Stk ps n N W H) (i:Nat):markG (picsV ps) i=bitsTo (bV ps i) n:=by rw [markG_V,h.len]
theorem pic0 (h:Stk ps n N W H):(picsV ps).getD 0 noPic=(pv ps 0).pic:=picsV_at ps 0 (by rw [h.len];exact h.n1)
theorem inkLen (h:Stk ps n N W H):((picsV ps).getD 0 noPic).ink.length=N:=by
 rw [h.pic0]
 exact (h.ink 0 (by have:=h.n1;omega)).1
end Stk
theorem pow_small {k:Nat} (hk:k≤4):1≤(2:Int)^k∧(2:Int)^k≤16:=by
 have:k=0∨k=1∨k=2∨k=3∨k=4:=by omega
 rcases this with rfl | rfl | rfl | rfl | rfl <;>decide
theorem bit_mul {v:Int} {k:Nat} (hv:v=0∨v=1) (hk:k≤4):0≤v*2^k∧v*2^k≤16:=by
 have:=pow_small hk
 rcases hv with rfl | rfl
 · simp
 · rw [Int.one_mul];omega
set_option maxHeartbeats 400000 in
theorem impl_markLimit (ad:Option Addr) (n cap:Nat) (w:World) (h2:n≤4):
   Calls Tryz.prog 140 #[.slice ad n cap] w fun e w'=>e= .returned (.int .i64 (((2^n:Nat):Int)))∧w=w':=by
 have h3:(n:Int)≤4:=by omega
 have E:Hid (((2^n:Nat):Int)=(2:Int)^n):=Lib.hid (by push_cast;rfl)
 obtain ⟨p1,p2⟩:=pow_small h2
 obtain ⟨P,hP⟩: ∃P,(2:Int)^n=P:=⟨_,rfl⟩
 rw [hP] at p1 p2 E
 rw [E.out]
 go_enter Tryz.func140,Tryz.ntmps140
 go_wp2_with fail
 go_ret
 exact ⟨rfl,rfl⟩
theorem gen_setW {N:Nat} {f g:Nat→Int} {j:Nat} {v:Int} (hj:j<N) (hv:g j=v) (hg: ∀i,i<N→i≠j→g i=f i):(gen N f).set j v=gen N g:=by
 refine gen_ext N g _ (by rw [List.length_set,gen_len]) (fun i hi=>?_)
 by_cases e:i=j
 · subst e
   simp only [List.getD,List.getElem?_set]
   rw [if_pos trivial,if_pos (by rw [gen_len];exact hi)]
   exact hv.symm
 · simp only [List.getD,List.getElem?_set]
   rw [if_neg (by omega)]
   have:=gen_get N f i hi
   simp only [List.getD] at this
   rw [this,hg i hi e]
def markR (ps:List PV) (N k j:Nat):List Int:=gen N (fun i=>bitsTo (bV ps i) (if i<j then k+1 else k))
theorem markR_start (ps:List PV) (N:Nat):List.replicate N 0=markR ps N 0 0:=by
 unfold markR
 refine gen_ext N _ _ (by simp) (fun i hi=>?_)
 simp [bitsTo,List.getD,hi]
theorem markR_next (ps:List PV) (N k:Nat):markR ps N k N=markR ps N (k+1) 0:=by
 unfold markR
 refine gen_ext N _ _ (gen_len _ _) (fun i hi=>?_)
 rw [gen_get _ _ _ hi,if_pos hi,if_neg (by omega)]
theorem markR_set {ps:List PV} {N k j:Nat} (hj:j<N) {S M:Int} (hS:bitsTo (bV ps j) k=S) (hM:bV ps j k*2^k=M):(markR ps N k j).set j (S+M)=markR ps N k (j+1):=by
 unfold markR
 refine gen_setW hj ?_ (fun i hi hne=>?_)
 · rw [if_pos (by omega),←hS,←hM];rfl
 · by_cases e:i<j
   · rw [if_pos e,if_pos (by omega)]
   · rw [if_neg e,if_neg (by omega)]
theorem markR_get {ps:List PV} {N k j:Nat} (hj:j<N):(markR ps N k j).getD j 0=bitsTo (bV ps j) k:=by
 unfold markR
 rw [gen_get _ _ _ hj,if_neg (by omega)]
def marksL (ps:List PV) (N:Nat):List Int:=gen N (fun i=>markG (picsV ps) i)
theorem markR_end {ps:List PV} {n N:Nat} {W H:Int} (T:Stk ps n N W H):markR ps N n 0=marksL ps N:=by
 unfold markR marksL
 refine gen_ext N _ _ (gen_len _ _) (fun i hi=>?_)
 rw [gen_get _ _ _ hi,if_neg (by omega),T.mark]
def RowOut (w:World) (N:Nat) (ys:List Int) (e:Ending) (w':World):Prop:= ∃g,e= .returned (.slice (some ⟨g,0,none⟩) N N)∧w.heap.size≤g∧Own w' g N N ys∧Below w.heap.size w w'
set_option maxHeartbeats 3200000 in
theorem impl_marksOf {ps:List PV} {n N:Nat} {W H:Int} (T:Stk ps n N W H) (ad:Option Addr) (cap:Nat) (w:World) (ha:RdV w ad ps):
   Calls Tryz.prog 141 #[.slice ad n cap] w (RowOut w N (marksL ps N)):=by
 have HT:=Lib.hid T
 have HA:=Lib.hid ha
 have hn1:=T.n1
 have hn4:=T.n4
 have hN1:=T.N1
 have hN2:=T.N2
 have E:=Lib.hid (markR_end T)
 obtain ⟨b,off,hae,hal⟩:=ha.addr (by have:=T.len;omega)
 subst hae
 obtain ⟨_,c0,c1,c2⟩:=ha.cells (k:=0) (by have:=T.len;omega)
 have ln0:=ha.len (k:=0) (by have:=T.len;omega)
 have hnn:(pv ps 0).n=N:=by have:=(T.ink 0 (by omega)).1;omega
 simp only [Nat.zero_mul,Nat.add_zero] at c0 c1 c2
 rw [hnn] at c2
 have n0:(0:Int)<(n:Int):=by omega
 clear T ha ln0 hnn
 go_enter Tryz.func141,Tryz.ntmps141
 go_wp2_with (at_make;refine wp_make _ rfl _ _ rfl .i64 .i64 _ _ N rfl rfl rfl rfl (by omega) ?_;intro M hM)
 have HM:=Lib.hid hM
 clear hM c0 c1 c2
 have HO0:=Lib.hid (HM.out.own w)
 have HB0:=Lib.hid (Joins.below_alloc1 w (.cells M 3))
 obtain ⟨w1,hw1⟩: ∃w1,w1=w.alloc (.cells M 3):=⟨_,rfl⟩
 rw [←hw1] at HO0 HB0⊢
 have HA1:=Lib.hid (HA.out.below HB0.out)
 clear hw1
 go_loopw [16] (fun i wr=> ∃k:Nat,k≤n∧i= .int .i64 k∧Hid (Own wr w.heap.size N N (markR ps N k 0))∧Hid (Below w.heap.size w wr)) (fun i _=>n - (intOf i).toNat)
 case atStart=>exact ⟨0,Nat.zero_le _,rfl,Lib.hid (by rw [←markR_start];exact HO0.out),HB0⟩
 case round=>
   obtain ⟨k,hk,rfl,HO,HW⟩:=hrel
   by_cases hlt:k<n
   · have HR :=Lib.hid (HA.out.below HW.out)
     obtain ⟨_,c0,c1,c2⟩:=HR.out.cells (k:=k) (by have:=HT.out.len;omega)
     have ln1:=HR.out.len (k:=k) (by have:=HT.out.len;omega)
     have rd1:=HR.out.rd (k:=k) (by have:=HT.out.len;omega)
     obtain ⟨hil,_⟩:=HT.out.ink k hlt
     have hbv: ∀i,bV ps i k=(pv ps k).ink.getD i 0:=fun i=>rfl
     obtain ⟨p,hp⟩: ∃p,pv ps k=p:=⟨_,rfl⟩
     rw [hp] at c0 c1 c2 ln1 rd1 hil hbv
     rw [show p.n=N by omega] at c2
     obtain ⟨bi,oi,hie,hil2,_⟩:=rd1 0 (by omega)
     rw [hie] at c2 rd1
     have HIL:=Lib.hid hil
     have HBV:=Lib.hid hbv
     have RD:=Lib.hid (rd1.alloc (.cells #[.int .i64 p.W, .int .i64 p.H, .slice p.a p.n p.c] 27))
     have HR1:=Lib.hid rd1
     have HO2:=Lib.hid (HO.out.alloc (.cells #[.int .i64 p.W, .int .i64 p.H, .slice (some ⟨bi,oi,none⟩) N p.c] 27))
     have HW2:=Lib.hid (bAlloc HW.out (.cells #[.int .i64 p.W, .int .i64 p.H, .slice (some ⟨bi,oi,none⟩) N p.c] 27))
     have RA2:=Lib.hid ((HA.out.below HW.out))
     obtain ⟨w2,hw2⟩: ∃w2,w2=wr.alloc (.cells #[.int .i64 p.W, .int .i64 p.H, .slice (some ⟨bi,oi,none⟩) N p.c] 27):=⟨_,rfl⟩
     have HI2:=Lib.hid (HR1.out.alloc (.cells #[.int .i64 p.W, .int .i64 p.H, .slice (some ⟨bi,oi,none⟩) N p.c] 27))
     have HAP:Hid (bi<w.heap.size):=Lib.hid (by
       have h:=HA.out.rd (k:=k) (by have:=HT.out.len;omega)
       rw [hp] at h
       obtain ⟨b2,o2,h1,h2,_⟩:=h 0 (by omega)
       rw [hie] at h1
       have e1:=Option.some.inj h1
       simp only [Addr.mk.injEq] at e1
       omega)
     have k0:(0:Int)≤(k:Int):=by omega
     have kk:(k:Int)≤64:=by omega
     clear hp hil hbv rd1 ln1 hie RD
     go_wp2_with fail
     rw [←hw2] at HO2 HW2 HI2⊢
     clear hw2 c0 c1 c2
     go_loopw [24] (fun i wr=> ∃j:Nat,j≤N∧i= .int .i64 j∧Hid (Own wr w.heap.size N N (markR ps N k j))∧Hid (Below w.heap.size w wr)) (fun i _=>N - (intOf i).toNat)
     case atStart=>exact ⟨0,Nat.zero_le _,rfl,HO2,HW2⟩
     case round=>
       obtain ⟨j,hj,rfl,HOj,HWj⟩:=hrel
       by_cases hjt:j<N
       · have hS:=markR_get (ps:=ps) (k:=k) hjt
         have g2:=HOj.out.cell hjt
         have g3:=HOj.out.frozen j
         rw [hS] at g2
         have hr3:=HR1.out
         have hd:=HT.out.dot hjt hlt
         have hb1:=HT.out.bits hjt (show k≤n by omega)
         have hp1:=(pow_small (show k≤4 by omega)).2
         obtain ⟨M0,M1⟩:=bit_mul hd (show k≤4 by omega)
         have ci:wr.cell? ⟨bi,oi+j,none⟩=some (.int .i64 (bV ps j k)):=by
           rw [HBV.out]
           have h:=(HA.out.below HWj.out).rd (k:=k) (by have:=HT.out.len;omega)
           have h2:Rd wr (some ⟨bi,oi,none⟩) p.ink:=by
             intro q hq
             obtain ⟨b3,o3,h4,h5,h6⟩:=HR1.out q hq
             have e1:=Option.some.inj h4
             simp only [Addr.mk.injEq] at e1
             obtain ⟨rfl,rfl,_⟩:=e1
             refine ⟨bi,oi,rfl,by have:=HAP.out;have:=HWj.out.size;omega,?_⟩
             have c1:=HWj.out.cell (p:=⟨bi,oi+q,none⟩) HAP.out
             have c2:=HW.out.cell (p:=⟨bi,oi+q,none⟩) HAP.out
             rw [c1,←c2]
             exact h6
           obtain ⟨b3,o3,h4,h5,h6⟩:=h2 j (by have:=HIL.out;omega)
           have e1:=Option.some.inj h4
           simp only [Addr.mk.injEq] at e1
           obtain ⟨rfl,rfl,_⟩:=e1
           exact h6
         obtain ⟨v,hv⟩: ∃v,bV ps j k=v:=⟨_,rfl⟩
         rw [hv] at ci M0 M1
         obtain ⟨Mk,hM⟩: ∃M,v*2^k=M:=⟨_,rfl⟩
         rw [hM] at M0 M1
         obtain ⟨S,hSS⟩: ∃S,bitsTo (bV ps j) k=S:=⟨_,rfl⟩
         rw [hSS] at g2 hb1
         have HS:=Lib.hid (HOj.out.set j (S+Mk))
         have HSE:=Lib.hid (markR_set hjt hSS (M:=Mk) (by rw [hv];exact hM))
         have hb2:0≤S∧S≤16:=by omega
         obtain ⟨S0,S1⟩:=hb2
         have wM:IntKind.i64.wrap Mk=Mk:=IntWalk.i64_in _ (by omega)
         have wS:IntKind.i64.wrap (S+Mk)=S+Mk:=IntWalk.i64_in _ (by omega)
         have j0:(0:Int)≤(j:Int):=by omega
         have j1:(j:Int)<(N:Int):=by omega
         clear hS hd hb1 hv hSS hr3
         go_wp2_with fail
         go_region
         all_goals
           go_wp2_with fail
           go_roundw
           case rel=>exact ⟨j+1,by omega,by go_num,Lib.hid (by rw [←HSE.out];exact HS.out),Lib.hid (HWj.out.drew.setCell (Nat.le_refl _) _)⟩
           case measure=>simp [intOf];omega
       · obtain rfl:j=N:=by omega
         have hOn:=HOj.out
         rw [markR_next] at hOn
         have HON:=Lib.hid hOn
         clear hOn
         go_wp2_with fail
         go_roundw
         case rel=>exact ⟨k+1,by omega,by go_num,HON,HWj⟩
         case measure=>simp [intOf];omega
   · obtain rfl:k=n:=by omega
     go_wp2_with fail
     go_ret
     exact ⟨w.heap.size,rfl,Nat.le_refl _,by rw [←E.out];exact HO.out,HW.out⟩
end Go.Proofs.YtanccoopbgamdaaGreatDoor
