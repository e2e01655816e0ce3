/-
  Contracts and plain facts on which the theorem of this claim rests, text 15.
-/
import Derived.Deep.RegionHeld3
import Derived.Test.YtanccoopbgamdaaGreatDoorKC5
import Derived.Test.YtanccoopbgamdaaGreatDoorKC7
import Derived.Test.YtanccoopbgamdaaGreatDoorKC12
import Derived.Test.YtanccoopbgamdaaGreatDoorKC14
namespace Go.Proofs.YtanccoopbgamdaaGreatDoor
open Go.RowKit
set_option linter.unusedVariables false
set_option linter.unusedSimpArgs false
def okV (ps:List PV) (k:Nat):Prop:=picOk (pv ps k).W (pv ps k).H (pv ps k).ink 1=true∧(pv ps k).W=(pv ps 0).W∧(pv ps k).H=(pv ps 0).H
theorem stackV {ps:List PV}:stackOk (picsV ps)=true↔1≤ps.length∧ps.length≤4∧ ∀k,k<ps.length→okV ps k:=by
 constructor
 · intro h
   obtain ⟨h1,h2,h3⟩:=stack_bd h
   rw [picsV_len] at h1 h2 h3
   refine ⟨h1,h2,fun k hk=>?_⟩
   have:=h3 k hk
   rw [picsV_at ps k hk,picsV_at ps 0 (by omega)] at this
   exact this
 · rintro ⟨h1,h2,h3⟩
   refine stack_mk (by rw [picsV_len];exact h1) (by rw [picsV_len];exact h2) (fun k hk=>?_)
   rw [picsV_len] at hk
   rw [picsV_at ps k hk,picsV_at ps 0 (by omega)]
   exact h3 k hk
theorem stackV_no {ps:List PV} {k:Nat} (hk:k<ps.length) (h: ¬okV ps k):stackOk (picsV ps)=false:=by
 cases hs:stackOk (picsV ps) with
 | false=>rfl
 | true=>exact absurd ((stackV.1 hs).2.2 k hk) h
theorem stackV_size {ps:List PV} (h: ¬(1≤ps.length∧ps.length≤4)):stackOk (picsV ps)=false:=by
 cases hs:stackOk (picsV ps) with
 | false=>rfl
 | true=>have:=stackV.1 hs;exact absurd ⟨this.1,this.2.1⟩ h
set_option maxHeartbeats 3200000 in
theorem spec_IsStack (ad:Option Addr) (n cap:Nat) (ps:List PV) (w:World) (hn:ps.length=n) (ha:RdV w ad ps) (hl:n≤1048576) (h4: ∀k,k<ps.length→(pv ps k).n≤1048576):
   Calls Tryz.prog 38 #[.slice ad n cap] w fun e w'=>e= .returned (.bool (stackOk (picsV ps)))∧Below w.heap.size w w':=by
 have HN:=Lib.hid hn
 have HA:=Lib.hid ha
 have H4:=Lib.hid h4
 clear hn ha h4
 by_cases hs:1≤(n:Int)∧(n:Int)≤4
 case neg=>
   have E:Hid (stackOk (picsV ps)=false):=Lib.hid (stackV_size (by have:=HN.out;omega))
   have HS:=Lib.hid hs
   clear hs
   go_enter Tryz.func38,Tryz.ntmps38
   go_wp2_with fail
   refine (spec_l1In_no _ _ _ _ HS.out).mono ?_
   rintro e w2 ⟨rfl,rfl⟩
   go_wp2_with fail
   go_ret
   exact ⟨ret_bool E.out.symm,Below.refl _ _⟩
 case pos=>
   obtain ⟨s1,s2⟩:=hs
   obtain ⟨b,off,hae,hal⟩:=HA.out.addr (by have:=HN.out;omega)
   subst hae
   have n0:(0:Int)<(n:Int):=by omega
   have n00:0<n:=by omega
   go_enter Tryz.func38,Tryz.ntmps38
   go_wp2_with fail
   refine (spec_l1In_yes _ _ _ _ s1 s2).mono ?_
   rintro e w2 ⟨rfl,rfl⟩
   go_wp2_with fail
   go_loopw [11] (fun i wr=> ∃k:Nat,k≤n∧i= .int .i64 k∧Hid (∀j,j<k→okV ps j)∧Hid (Below w.heap.size w wr)) (fun i _=>n - (intOf i).toNat)
   case atStart=>exact ⟨0,Nat.zero_le _,rfl,Lib.hid (fun j hj=>by omega),Lib.hid (Below.refl _ _)⟩
   case round=>
     obtain ⟨k,hk,rfl,HALL,HW⟩:=hrel
     by_cases hlt:k<n
     · have HR :=Lib.hid (HA.out.below HW.out)
       obtain ⟨_,c0,c1,c2⟩:=HR.out.cells (k:=k) (by have:=HN.out;omega)
       obtain ⟨hal2,d0,d1,d2⟩:=HR.out.cells (k:=0) (by have:=HN.out;omega)
       have ln1:=HR.out.len (k:=k) (by have:=HN.out;omega)
       have rd1:=HR.out.rd (k:=k) (by have:=HN.out;omega)
       have l1:=H4.out k (by have:=HN.out;omega)
       have hno: ¬okV ps k→stackOk (picsV ps)=false:=stackV_no (by have:=HN.out;omega)
       have hok:okV ps k↔picOk (pv ps k).W (pv ps k).H (pv ps k).ink 1=true∧(pv ps k).W=(pv ps 0).W∧(pv ps k).H=(pv ps 0).H:=Iff.rfl
       simp only [Nat.zero_mul,Nat.add_zero] at d0 d1 d2
       obtain ⟨p,hp⟩: ∃p,pv ps k=p:=⟨_,rfl⟩
       obtain ⟨q,hq⟩: ∃q,pv ps 0=q:=⟨_,rfl⟩
       rw [hp] at c0 c1 c2 ln1 rd1 l1 hok
       rw [hq] at d0 d1 d2 hok
       have HNO:=Lib.hid hno
       have HOK:=Lib.hid hok
       have L1:=Lib.hid ln1
       have R1:=Lib.hid rd1
       have k0:(0:Int)≤(k:Int):=by omega
       have k1:(k:Int)<(n:Int):=by omega
       clear hp hq ln1 rd1 hno hok
       have KB:=Blk.new wr 27 #[.int .i64 p.W, .int .i64 p.H, .slice p.a p.n p.c]
       obtain ⟨kl,e0,e1,e2⟩:=KB.c3
       have R2:=Lib.hid (R1.out.alloc (.cells #[.int .i64 p.W, .int .i64 p.H, .slice p.a p.n p.c] 27))
       have HW2:=Lib.hid (bAlloc HW.out (.cells #[.int .i64 p.W, .int .i64 p.H, .slice p.a p.n p.c] 27))
       have bl:b<(wr.alloc (.cells #[.int .i64 p.W, .int .i64 p.H, .slice p.a p.n p.c] 27)).heap.size:=by simp;omega
       have dd0:(wr.alloc (.cells #[.int .i64 p.W, .int .i64 p.H, .slice p.a p.n p.c] 27)).cell? ⟨b,off,none⟩=some (.int .i64 q.W):=(World.cell?_alloc_lt _ _ _ hal2).trans d0
       have dd1:(wr.alloc (.cells #[.int .i64 p.W, .int .i64 p.H, .slice p.a p.n p.c] 27)).cell? ⟨b,off+1,none⟩=some (.int .i64 q.H):=(World.cell?_alloc_lt _ _ _ hal2).trans d1
       have dd2:(wr.alloc (.cells #[.int .i64 p.W, .int .i64 p.H, .slice p.a p.n p.c] 27)).cell? ⟨b,off+2,none⟩=some (.slice q.a q.n q.c):=(World.cell?_alloc_lt _ _ _ hal2).trans d2
       clear KB
       by_cases hp:picOk p.W p.H p.ink 1=true
       case neg=>
         have hp2:picOk p.W p.H p.ink 1=false:=by simpa using hp
         have E:Hid (stackOk (picsV ps)=false):=Lib.hid (HNO.out (fun h=>hp (HOK.out.1 h).1))
         have CP:Hid (∀v:World,Rd v p.a p.ink→Calls Tryz.prog 61 #[.agg #[.int .i64 p.W, .int .i64 p.H, .slice p.a p.n p.c]] v fun e w'=>e= .returned (.bool false)∧Below v.heap.size v w'):=Lib.hid (fun v h=>by have:=spec_IsPlate p.W p.H p.a p.n p.c p.ink v L1.out h (by omega);rwa [hp2] at this)
         clear hp hp2
         go_wp2_with fail
         clear c0 c1 c2 d0 d1 d2
         refine wp_region_held_drew (S:=fun v=>v.cell? ⟨wr.heap.size,0,none⟩=some (.int .i64 p.W)∧v.cell? ⟨wr.heap.size,1,none⟩=some (.int .i64 p.H)∧v.cell? ⟨wr.heap.size,2,none⟩=some (.slice p.a p.n p.c)∧v.cell? ⟨b,off,none⟩=some (.int .i64 q.W)∧v.cell? ⟨b,off+1,none⟩=some (.int .i64 q.H)) (by kernel_rfl) ⟨e0,e1,e2,dd0,dd1⟩ ?_
         intro hHeld
         refine hTake 0 ?_
         refine simpR ?_
         refine hOne 1 (fun K hK=>?_)
         go_simp
         go_at_call 61
         ((with_reducible refine (CP.out _ (by exact R2.out.drew)).mono ?_);rintro e v1 ⟨rfl,hq1⟩)
         have hS1:v1.cell? ⟨wr.heap.size,0,none⟩=some (.int .i64 p.W)∧v1.cell? ⟨wr.heap.size,1,none⟩=some (.int .i64 p.H)∧v1.cell? ⟨wr.heap.size,2,none⟩=some (.slice p.a p.n p.c)∧v1.cell? ⟨b,off,none⟩=some (.int .i64 q.W)∧v1.cell? ⟨b,off+1,none⟩=some (.int .i64 q.H):=⟨(hq1.cell kl).trans e0,(hq1.cell kl).trans e1,(hq1.cell kl).trans e2,(hq1.cell bl).trans dd0,(hq1.cell bl).trans dd1⟩
         have HS1:=Lib.hid hS1
         clear hS1
         go_wp2_with fail
         refine hK.out _ _ HS1.out (fun hHeld=>?_)
         clear hK K
         refine simpR ?_
         refine hTake 2 ?_
         refine hTake 3 ?_
         refine simpR ?_
         refine hSkip 4 ?_
         refine hSkip 5 ?_
         refine hSkip 6 ?_
         refine hSkip 7 ?_
         refine hSkip 8 ?_
         refine hSkip 9 ?_
         refine hOne 10 (fun K hK=>?_)
         go_simp
         refine hK.out _ _ (by first | exact hHeld | assumption) (fun hHeld=>?_)
         clear hK K
         refine simpR ?_
         refine hTake 11 ?_
         refine hTake 12 ?_
         refine simpR ?_
         refine hSkip 13 ?_
         refine hSkip 14 ?_
         refine hSkip 15 ?_
         refine hSkip 16 ?_
         refine hSkip 17 ?_
         refine hSkip 18 ?_
         refine hOne 19 (fun K hK=>?_)
         go_simp
         refine hK.out _ _ (by first | exact hHeld | assumption) (fun hHeld=>?_)
         clear hK K
         refine simpR ?_
         refine hTake 20 ?_
         refine simpR ?_
         refine wpAnyH_done (by kernel_rfl) ?_ _
         have HW5:=Lib.hid (HW2.out.drew.trans (hq1.mono (by have:=HW2.out.size;exact this)))
         clear hq1 e0 e1 e2 dd0 dd1 dd2 HS1
         go_wp2_with fail
         go_ret
         exact ⟨ret_bool E.out.symm,HW5.out⟩
       case pos=>
         have CP:Hid (∀v:World,Rd v p.a p.ink→Calls Tryz.prog 61 #[.agg #[.int .i64 p.W, .int .i64 p.H, .slice p.a p.n p.c]] v fun e w'=>e= .returned (.bool true)∧Below v.heap.size v w'):=Lib.hid (fun v h=>by have:=spec_IsPlate p.W p.H p.a p.n p.c p.ink v L1.out h (by omega);rwa [hp] at this)
         have HP:=Lib.hid hp
         clear hp
         by_cases hw:p.W=q.W
         case neg=>
           have E:Hid (stackOk (picsV ps)=false):=Lib.hid (HNO.out (fun h=>hw (HOK.out.1 h).2.1))
           have hw2:(p.W !=q.W)=true:=by simpa using hw
           have hw3:(p.W==q.W)=false:=by simpa using hw
           have ha3:=arr_eq p.W p.H q.W q.H false (by rw [hw3];rfl)
           clear hw
           go_wp2_with fail
           clear c0 c1 c2 d0 d1 d2
           refine wp_region_held_drew (S:=fun v=>v.cell? ⟨wr.heap.size,0,none⟩=some (.int .i64 p.W)∧v.cell? ⟨wr.heap.size,1,none⟩=some (.int .i64 p.H)∧v.cell? ⟨wr.heap.size,2,none⟩=some (.slice p.a p.n p.c)∧v.cell? ⟨b,off,none⟩=some (.int .i64 q.W)∧v.cell? ⟨b,off+1,none⟩=some (.int .i64 q.H)) (by kernel_rfl) ⟨e0,e1,e2,dd0,dd1⟩ ?_
           intro hHeld
           refine hTake 0 ?_
           refine simpR ?_
           refine hOne 1 (fun K hK=>?_)
           go_simp
           go_at_call 61
           ((with_reducible refine (CP.out _ (by exact R2.out.drew)).mono ?_);rintro e v1 ⟨rfl,hq1⟩)
           have hS1:v1.cell? ⟨wr.heap.size,0,none⟩=some (.int .i64 p.W)∧v1.cell? ⟨wr.heap.size,1,none⟩=some (.int .i64 p.H)∧v1.cell? ⟨wr.heap.size,2,none⟩=some (.slice p.a p.n p.c)∧v1.cell? ⟨b,off,none⟩=some (.int .i64 q.W)∧v1.cell? ⟨b,off+1,none⟩=some (.int .i64 q.H):=⟨(hq1.cell kl).trans e0,(hq1.cell kl).trans e1,(hq1.cell kl).trans e2,(hq1.cell bl).trans dd0,(hq1.cell bl).trans dd1⟩
           have HS1:=Lib.hid hS1
           clear hS1
           go_wp2_with fail
           refine hK.out _ _ HS1.out (fun hHeld=>?_)
           clear hK K
           refine simpR ?_
           refine hTake 2 ?_
           refine hTake 3 ?_
           refine simpR ?_
           refine hTake 4 ?_
           refine hTake 5 ?_
           refine hTake 6 ?_
           refine hTake 7 ?_
           refine hTake 8 ?_
           refine hTake 9 ?_
           refine simpR ?_
           refine hTake 10 ?_
           refine hTake 11 ?_
           refine hTake 12 ?_
           refine simpR ?_
           refine hSkip 13 ?_
           refine hSkip 14 ?_
           refine hSkip 15 ?_
           refine hSkip 16 ?_
           refine hSkip 17 ?_
           refine hSkip 18 ?_
           refine hOne 19 (fun K hK=>?_)
           go_simp
           refine hK.out _ _ (by first | exact hHeld | assumption) (fun hHeld=>?_)
           clear hK K
           refine simpR ?_
           refine hTake 20 ?_
           refine simpR ?_
           refine wpAnyH_done (by kernel_rfl) ?_ _
           have HW5:=Lib.hid (HW2.out.drew.trans (hq1.mono (by have:=HW2.out.size;exact this)))
           clear hq1 e0 e1 e2 dd0 dd1 dd2 HS1
           all_goals
             go_wp2_with fail
             go_ret
             exact ⟨ret_bool E.out.symm,HW5.out⟩
         case pos=>
           have hw2:(p.W !=q.W)=false:=by simpa using hw
           have hw3:(p.W==q.W)=true:=by simpa using hw
           by_cases hh:p.H=q.H
           case neg=>
             have E:Hid (stackOk (picsV ps)=false):=Lib.hid (HNO.out (fun h=>hh (HOK.out.1 h).2.2))
             have hh2:(p.H !=q.H)=true:=by simpa using hh
             have hh3:(p.H==q.H)=false:=by simpa using hh
             have ha3:=arr_eq p.W p.H q.W q.H false (by rw [hw3,hh3];rfl)
             clear hh hw
             go_wp2_with fail
             clear c0 c1 c2 d0 d1 d2
             refine wp_region_held_drew (S:=fun v=>v.cell? ⟨wr.heap.size,0,none⟩=some (.int .i64 p.W)∧v.cell? ⟨wr.heap.size,1,none⟩=some (.int .i64 p.H)∧v.cell? ⟨wr.heap.size,2,none⟩=some (.slice p.a p.n p.c)∧v.cell? ⟨b,off,none⟩=some (.int .i64 q.W)∧v.cell? ⟨b,off+1,none⟩=some (.int .i64 q.H)) (by kernel_rfl) ⟨e0,e1,e2,dd0,dd1⟩ ?_
             intro hHeld
             refine hTake 0 ?_
             refine simpR ?_
             refine hOne 1 (fun K hK=>?_)
             go_simp
             go_at_call 61
             ((with_reducible refine (CP.out _ (by exact R2.out.drew)).mono ?_);rintro e v1 ⟨rfl,hq1⟩)
             have hS1:v1.cell? ⟨wr.heap.size,0,none⟩=some (.int .i64 p.W)∧v1.cell? ⟨wr.heap.size,1,none⟩=some (.int .i64 p.H)∧v1.cell? ⟨wr.heap.size,2,none⟩=some (.slice p.a p.n p.c)∧v1.cell? ⟨b,off,none⟩=some (.int .i64 q.W)∧v1.cell? ⟨b,off+1,none⟩=some (.int .i64 q.H):=⟨(hq1.cell kl).trans e0,(hq1.cell kl).trans e1,(hq1.cell kl).trans e2,(hq1.cell bl).trans dd0,(hq1.cell bl).trans dd1⟩
             have HS1:=Lib.hid hS1
             clear hS1
             go_wp2_with fail
             refine hK.out _ _ HS1.out (fun hHeld=>?_)
             clear hK K
             refine simpR ?_
             refine hTake 2 ?_
             refine hTake 3 ?_
             refine simpR ?_
             refine hTake 4 ?_
             refine hTake 5 ?_
             refine hTake 6 ?_
             refine hTake 7 ?_
             refine hTake 8 ?_
             refine hTake 9 ?_
             refine simpR ?_
             refine hTake 10 ?_
             refine hTake 11 ?_
             refine hTake 12 ?_
             refine simpR ?_
             refine hTake 13 ?_
             refine hTake 14 ?_
             refine hTake 15 ?_
             refine hTake 16 ?_
             refine hTake 17 ?_
             refine hTake 18 ?_
             refine simpR ?_
             refine hTake 19 ?_
             refine hTake 20 ?_
             refine simpR ?_
             refine wpAnyH_done (by kernel_rfl) ?_ _
             have HW5:=Lib.hid (HW2.out.drew.trans (hq1.mono (by have:=HW2.out.size;exact this)))
             clear hq1 e0 e1 e2 dd0 dd1 dd2 HS1
             all_goals
               go_wp2_with fail
               go_ret
               exact ⟨ret_bool E.out.symm,HW5.out⟩
           case pos=>
             have hh2:(p.H !=q.H)=false:=by simpa using hh
             have hh3:(p.H==q.H)=true:=by simpa using hh
             have ha3:=arr_eq p.W p.H q.W q.H true (by rw [hw3,hh3];rfl)
             have HOK2:Hid (okV ps k):=Lib.hid (HOK.out.2 ⟨HP.out,hw,hh⟩)
             have HALL2:Hid (∀j,j<k+1→okV ps j):=Lib.hid (fun j hj=>by
               by_cases e:j=k
               · subst e;exact HOK2.out
               · exact HALL.out j (by omega))
             clear hh hw
             go_wp2_with fail
             clear c0 c1 c2 d0 d1 d2
             refine wp_region_held_drew (S:=fun v=>v.cell? ⟨wr.heap.size,0,none⟩=some (.int .i64 p.W)∧v.cell? ⟨wr.heap.size,1,none⟩=some (.int .i64 p.H)∧v.cell? ⟨wr.heap.size,2,none⟩=some (.slice p.a p.n p.c)∧v.cell? ⟨b,off,none⟩=some (.int .i64 q.W)∧v.cell? ⟨b,off+1,none⟩=some (.int .i64 q.H)) (by kernel_rfl) ⟨e0,e1,e2,dd0,dd1⟩ ?_
             intro hHeld
             refine hTake 0 ?_
             refine simpR ?_
             refine hOne 1 (fun K hK=>?_)
             go_simp
             go_at_call 61
             ((with_reducible refine (CP.out _ (by exact R2.out.drew)).mono ?_);rintro e v1 ⟨rfl,hq1⟩)
             have hS1:v1.cell? ⟨wr.heap.size,0,none⟩=some (.int .i64 p.W)∧v1.cell? ⟨wr.heap.size,1,none⟩=some (.int .i64 p.H)∧v1.cell? ⟨wr.heap.size,2,none⟩=some (.slice p.a p.n p.c)∧v1.cell? ⟨b,off,none⟩=some (.int .i64 q.W)∧v1.cell? ⟨b,off+1,none⟩=some (.int .i64 q.H):=⟨(hq1.cell kl).trans e0,(hq1.cell kl).trans e1,(hq1.cell kl).trans e2,(hq1.cell bl).trans dd0,(hq1.cell bl).trans dd1⟩
             have HS1:=Lib.hid hS1
             clear hS1
             go_wp2_with fail
             refine hK.out _ _ HS1.out (fun hHeld=>?_)
             clear hK K
             refine simpR ?_
             refine hTake 2 ?_
             refine hTake 3 ?_
             refine simpR ?_
             refine hTake 4 ?_
             refine hTake 5 ?_
             refine hTake 6 ?_
             refine hTake 7 ?_
             refine hTake 8 ?_
             refine hTake 9 ?_
             refine simpR ?_
             refine hTake 10 ?_
             refine hTake 11 ?_
             refine hTake 12 ?_
             refine simpR ?_
             refine hTake 13 ?_
             refine hTake 14 ?_
             refine hTake 15 ?_
             refine hTake 16 ?_
             refine hTake 17 ?_
             refine hTake 18 ?_
             refine simpR ?_
             refine hTake 19 ?_
             refine hTake 20 ?_
             refine simpR ?_
             refine wpAnyH_done (by kernel_rfl) ?_ _
             have HW5:=Lib.hid (HW2.out.drew.trans (hq1.mono (by have:=HW2.out.size;exact this)))
             clear hq1 e0 e1 e2 dd0 dd1 dd2 HS1
             all_goals
               go_wp2_with fail
               go_roundw
               case rel=>exact ⟨k+1,by omega,by go_num,HALL2,HW5⟩
               case measure=>simp [intOf];omega
     · obtain rfl:k=n:=by omega
       go_wp2_with fail
       go_ret
       exact ⟨ret_bool (stackV.2 ⟨by have:=HN.out;omega,by have:=HN.out;omega,fun j hj=>HALL.out j (by rw [←HN.out];exact hj)⟩).symm,HW.out⟩
set_option maxHeartbeats 3200000 in
theorem impl_IsStack (ad:Option Addr) (n cap:Nat) (ps:List PV) (w:World) (hn:ps.length=n) (ha:RdV w ad ps) (hl:n≤1048576) (h4: ∀k,k<ps.length→(pv ps k).n≤1048576):
   Calls Tryz.prog 41 #[.slice ad n cap] w fun e w'=>e= .returned (.bool (stackOk (picsV ps)))∧Below w.heap.size w w':=by
 have HN:=Lib.hid hn
 have HA:=Lib.hid ha
 have H4:=Lib.hid h4
 clear hn ha h4
 by_cases hs1:n<1
 · have E:Hid (stackOk (picsV ps)=false):=Lib.hid (stackV_size (by have:=HN.out;omega))
   go_enter Tryz.func41,Tryz.ntmps41
   go_wp2_with fail
   go_ret
   exact ⟨ret_bool E.out.symm,Below.refl _ _⟩
 by_cases hs2:4<n
 · have E:Hid (stackOk (picsV ps)=false):=Lib.hid (stackV_size (by have:=HN.out;omega))
   have g0:decide ((n:Int)<1)=false:=by simp;omega
   have g1:decide (4<(n:Int))=true:=by simp;omega
   go_enter Tryz.func41,Tryz.ntmps41
   go_wp2_with fail
   go_ret
   exact ⟨ret_bool E.out.symm,Below.refl _ _⟩
 have s1:1≤n:=by omega
 have s2:n≤4:=by omega
 have s3:1≤(n:Int):=by omega
 have s4:(n:Int)≤4:=by omega
 obtain ⟨b,off,hae,hal⟩:=HA.out.addr (by have:=HN.out;omega)
 subst hae
 have n0:(0:Int)<(n:Int):=by omega
 have n00:0<n:=by omega
 clear hs1 hs2
 go_enter Tryz.func41,Tryz.ntmps41
 go_wp2_with fail
 go_loopw [15] (fun i wr=> ∃k:Nat,k≤n∧i= .int .i64 k∧Hid (∀j,j<k→okV ps j)∧Hid (Below w.heap.size w wr)) (fun i _=>n - (intOf i).toNat)
 case atStart=>exact ⟨0,Nat.zero_le _,rfl,Lib.hid (fun j hj=>by omega),Lib.hid (Below.refl _ _)⟩
 case round=>
   obtain ⟨k,hk,rfl,HALL,HW⟩:=hrel
   by_cases hlt:k<n
   · have HR :=Lib.hid (HA.out.below HW.out)
     obtain ⟨_,c0,c1,c2⟩:=HR.out.cells (k:=k) (by have:=HN.out;omega)
     obtain ⟨hal2,d0,d1,d2⟩:=HR.out.cells (k:=0) (by have:=HN.out;omega)
     have ln1:=HR.out.len (k:=k) (by have:=HN.out;omega)
     have rd1:=HR.out.rd (k:=k) (by have:=HN.out;omega)
     have l1:=H4.out k (by have:=HN.out;omega)
     have hno: ¬okV ps k→stackOk (picsV ps)=false:=stackV_no (by have:=HN.out;omega)
     have hok:okV ps k↔picOk (pv ps k).W (pv ps k).H (pv ps k).ink 1=true∧(pv ps k).W=(pv ps 0).W∧(pv ps k).H=(pv ps 0).H:=Iff.rfl
     simp only [Nat.zero_mul,Nat.add_zero] at d0 d1 d2
     obtain ⟨p,hp⟩: ∃p,pv ps k=p:=⟨_,rfl⟩
     obtain ⟨q,hq⟩: ∃q,pv ps 0=q:=⟨_,rfl⟩
     rw [hp] at c0 c1 c2 ln1 rd1 l1 hok
     rw [hq] at d0 d1 d2 hok
     have HNO:=Lib.hid hno
     have HOK:=Lib.hid hok
     have L1:=Lib.hid ln1
     have R1:=Lib.hid rd1
     have k0:(0:Int)≤(k:Int):=by omega
     have k1:(k:Int)<(n:Int):=by omega
     clear hp hq ln1 rd1 hno hok
     have KB:=Blk.new wr 27 #[.int .i64 p.W, .int .i64 p.H, .slice p.a p.n p.c]
     obtain ⟨kl,e0,e1,e2⟩:=KB.c3
     have R2:=Lib.hid (R1.out.alloc (.cells #[.int .i64 p.W, .int .i64 p.H, .slice p.a p.n p.c] 27))
     have HW2:=Lib.hid (bAlloc HW.out (.cells #[.int .i64 p.W, .int .i64 p.H, .slice p.a p.n p.c] 27))
     have bl:b<(wr.alloc (.cells #[.int .i64 p.W, .int .i64 p.H, .slice p.a p.n p.c] 27)).heap.size:=by simp;omega
     have dd0:(wr.alloc (.cells #[.int .i64 p.W, .int .i64 p.H, .slice p.a p.n p.c] 27)).cell? ⟨b,off,none⟩=some (.int .i64 q.W):=(World.cell?_alloc_lt _ _ _ hal2).trans d0
     have dd1:(wr.alloc (.cells #[.int .i64 p.W, .int .i64 p.H, .slice p.a p.n p.c] 27)).cell? ⟨b,off+1,none⟩=some (.int .i64 q.H):=(World.cell?_alloc_lt _ _ _ hal2).trans d1
     have dd2:(wr.alloc (.cells #[.int .i64 p.W, .int .i64 p.H, .slice p.a p.n p.c] 27)).cell? ⟨b,off+2,none⟩=some (.slice q.a q.n q.c):=(World.cell?_alloc_lt _ _ _ hal2).trans d2
     clear KB
     by_cases hp:picOk p.W p.H p.ink 1=true
     case neg=>
       have hp2:picOk p.W p.H p.ink 1=false:=by simpa using hp
       have E:Hid (stackOk (picsV ps)=false):=Lib.hid (HNO.out (fun h=>hp (HOK.out.1 h).1))
       have CP:Hid (∀v:World,Rd v p.a p.ink→Calls Tryz.prog 29 #[.agg #[.int .i64 p.W, .int .i64 p.H, .slice p.a p.n p.c]] v fun e w'=>e= .returned (.bool false)∧Below v.heap.size v w'):=Lib.hid (fun v h=>by have:=impl_IsPlate p.W p.H p.a p.n p.c p.ink v L1.out h (by omega);rwa [hp2] at this)
       clear hp hp2
       go_wp2_with fail
       clear c0 c1 c2 d0 d1 d2
       refine wp_region_held_drew (S:=fun v=>v.cell? ⟨wr.heap.size,0,none⟩=some (.int .i64 p.W)∧v.cell? ⟨wr.heap.size,1,none⟩=some (.int .i64 p.H)∧v.cell? ⟨wr.heap.size,2,none⟩=some (.slice p.a p.n p.c)∧v.cell? ⟨b,off,none⟩=some (.int .i64 q.W)∧v.cell? ⟨b,off+1,none⟩=some (.int .i64 q.H)) (by kernel_rfl) ⟨e0,e1,e2,dd0,dd1⟩ ?_
       intro hHeld
       refine hTake 0 ?_
       refine simpR ?_
       refine hOne 1 (fun K hK=>?_)
       go_simp
       go_at_call 29
       ((with_reducible refine (CP.out _ (by exact R2.out.drew)).mono ?_);rintro e v1 ⟨rfl,hq1⟩)
       have hS1:v1.cell? ⟨wr.heap.size,0,none⟩=some (.int .i64 p.W)∧v1.cell? ⟨wr.heap.size,1,none⟩=some (.int .i64 p.H)∧v1.cell? ⟨wr.heap.size,2,none⟩=some (.slice p.a p.n p.c)∧v1.cell? ⟨b,off,none⟩=some (.int .i64 q.W)∧v1.cell? ⟨b,off+1,none⟩=some (.int .i64 q.H):=⟨(hq1.cell kl).trans e0,(hq1.cell kl).trans e1,(hq1.cell kl).trans e2,(hq1.cell bl).trans dd0,(hq1.cell bl).trans dd1⟩
       have HS1:=Lib.hid hS1
       clear hS1
       go_wp2_with fail
       refine hK.out _ _ HS1.out (fun hHeld=>?_)
       clear hK K
       refine simpR ?_
       refine hTake 2 ?_
       refine hTake 3 ?_
       refine simpR ?_
       refine hSkip 4 ?_
       refine hSkip 6 ?_
       refine hSkip 7 ?_
       refine hSkip 8 ?_
       refine hOne 5 (fun K hK=>?_)
       go_simp
       refine hK.out _ _ (by first | exact hHeld | assumption) (fun hHeld=>?_)
       clear hK K
       refine hOne 9 (fun K hK=>?_)
       go_simp
       refine hK.out _ _ (by first | exact hHeld | assumption) (fun hHeld=>?_)
       clear hK K
       refine hOne 10 (fun K hK=>?_)
       go_simp
       refine hK.out _ _ (by first | exact hHeld | assumption) (fun hHeld=>?_)
       clear hK K
       refine simpR ?_
       refine hTake 11 ?_
       refine simpR ?_
       refine wpAnyH_done (by kernel_rfl) ?_ _
       have HW5:=Lib.hid (HW2.out.drew.trans (hq1.mono (by have:=HW2.out.size;exact this)))
       clear hq1 e0 e1 e2 dd0 dd1 dd2 HS1
       go_wp2_with fail
       go_ret
       exact ⟨ret_bool E.out.symm,HW5.out⟩
     case pos=>
       have CP:Hid (∀v:World,Rd v p.a p.ink→Calls Tryz.prog 29 #[.agg #[.int .i64 p.W, .int .i64 p.H, .slice p.a p.n p.c]] v fun e w'=>e= .returned (.bool true)∧Below v.heap.size v w'):=Lib.hid (fun v h=>by have:=impl_IsPlate p.W p.H p.a p.n p.c p.ink v L1.out h (by omega);rwa [hp] at this)
       have HP:=Lib.hid hp
       clear hp
       by_cases hw:p.W=q.W
       case neg=>
         have E:Hid (stackOk (picsV ps)=false):=Lib.hid (HNO.out (fun h=>hw (HOK.out.1 h).2.1))
         have hw2:(p.W !=q.W)=true:=by simpa using hw
         have hw3:(p.W==q.W)=false:=by simpa using hw
         have ha3:=arr_eq p.W p.H q.W q.H false (by rw [hw3];rfl)
         clear hw
         go_wp2_with fail
         clear c0 c1 c2 d0 d1 d2
         obtain ⟨wq,hwq⟩: ∃wq,wq=wr.alloc (.cells #[.int .i64 p.W, .int .i64 p.H, .slice p.a p.n p.c] 27):=⟨_,rfl⟩
         rw [←hwq] at kl e0 e1 e2 bl dd0 dd1 dd2 R2 HW2⊢
         have MK:Hid (∀v,BelowL wq v→v.cell? ⟨wr.heap.size,0,none⟩=some (.int .i64 p.W)∧v.cell? ⟨wr.heap.size,1,none⟩=some (.int .i64 p.H)∧v.cell? ⟨wr.heap.size,2,none⟩=some (.slice p.a p.n p.c)∧v.cell? ⟨b,off,none⟩=some (.int .i64 q.W)∧v.cell? ⟨b,off+1,none⟩=some (.int .i64 q.H)∧v.cell? ⟨b,off+2,none⟩=some (.slice q.a q.n q.c)∧BelowL wq v):=Lib.hid (fun v hB=>⟨(hB.out.cell kl).trans e0,(hB.out.cell kl).trans e1,(hB.out.cell kl).trans e2,(hB.out.cell bl).trans dd0,(hB.out.cell bl).trans dd1,(hB.out.cell bl).trans dd2,hB⟩)
         clear hwq
         go_region_held3 (fun v=>v.cell? ⟨wr.heap.size,0,none⟩=some (.int .i64 p.W)∧v.cell? ⟨wr.heap.size,1,none⟩=some (.int .i64 p.H)∧v.cell? ⟨wr.heap.size,2,none⟩=some (.slice p.a p.n p.c)∧v.cell? ⟨b,off,none⟩=some (.int .i64 q.W)∧v.cell? ⟨b,off+1,none⟩=some (.int .i64 q.H)∧v.cell? ⟨b,off+2,none⟩=some (.slice q.a q.n q.c)∧BelowL wq v)
           (first | exact MK.out _ hb3 | exact MK.out _ hb2 | exact MK.out _ hb1 | exact MK.out _ (BelowL.start _))
           (first
             | (go_at_call 29;((with_reducible refine (CP.out _ (by exact R2.out.below (BelowL.out (limb7 (by assumption))))).mono ?_);rintro e v1 ⟨rfl,hq1⟩;have hb1:=BelowL.call (limb7 (by assumption)) hq1))
             | (go_at_call 42;((with_reducible refine (impl_sidesOf p.W p.H p.a p.n p.c _).mono ?_);rintro e v2 ⟨rfl,hq2⟩;have hb2:=BelowL.call (limb7 (by assumption)) hq2))
             | (go_at_call 42;((with_reducible refine (impl_sidesOf q.W q.H q.a q.n q.c _).mono ?_);rintro e v3 ⟨rfl,hq3⟩;have hb3:=BelowL.call (limb7 (by assumption)) hq3)))
         have HW5:=Lib.hid (bTrans HW2.out hb3.out)
         clear hq1 hq2 hq3 e0 e1 e2 dd0 dd1 dd2 hb1 hb2 hb3
         all_goals
           go_wp2_with fail
           go_ret
           exact ⟨ret_bool E.out.symm,HW5.out⟩
       case pos=>
         have hw2:(p.W !=q.W)=false:=by simpa using hw
         have hw3:(p.W==q.W)=true:=by simpa using hw
         by_cases hh:p.H=q.H
         case neg=>
           have E:Hid (stackOk (picsV ps)=false):=Lib.hid (HNO.out (fun h=>hh (HOK.out.1 h).2.2))
           have hh2:(p.H !=q.H)=true:=by simpa using hh
           have hh3:(p.H==q.H)=false:=by simpa using hh
           have ha3:=arr_eq p.W p.H q.W q.H false (by rw [hw3,hh3];rfl)
           clear hh hw
           go_wp2_with fail
           clear c0 c1 c2 d0 d1 d2
           obtain ⟨wq,hwq⟩: ∃wq,wq=wr.alloc (.cells #[.int .i64 p.W, .int .i64 p.H, .slice p.a p.n p.c] 27):=⟨_,rfl⟩
           rw [←hwq] at kl e0 e1 e2 bl dd0 dd1 dd2 R2 HW2⊢
           have MK:Hid (∀v,BelowL wq v→v.cell? ⟨wr.heap.size,0,none⟩=some (.int .i64 p.W)∧v.cell? ⟨wr.heap.size,1,none⟩=some (.int .i64 p.H)∧v.cell? ⟨wr.heap.size,2,none⟩=some (.slice p.a p.n p.c)∧v.cell? ⟨b,off,none⟩=some (.int .i64 q.W)∧v.cell? ⟨b,off+1,none⟩=some (.int .i64 q.H)∧v.cell? ⟨b,off+2,none⟩=some (.slice q.a q.n q.c)∧BelowL wq v):=Lib.hid (fun v hB=>⟨(hB.out.cell kl).trans e0,(hB.out.cell kl).trans e1,(hB.out.cell kl).trans e2,(hB.out.cell bl).trans dd0,(hB.out.cell bl).trans dd1,(hB.out.cell bl).trans dd2,hB⟩)
           clear hwq
           go_region_held3 (fun v=>v.cell? ⟨wr.heap.size,0,none⟩=some (.int .i64 p.W)∧v.cell? ⟨wr.heap.size,1,none⟩=some (.int .i64 p.H)∧v.cell? ⟨wr.heap.size,2,none⟩=some (.slice p.a p.n p.c)∧v.cell? ⟨b,off,none⟩=some (.int .i64 q.W)∧v.cell? ⟨b,off+1,none⟩=some (.int .i64 q.H)∧v.cell? ⟨b,off+2,none⟩=some (.slice q.a q.n q.c)∧BelowL wq v)
             (first | exact MK.out _ hb3 | exact MK.out _ hb2 | exact MK.out _ hb1 | exact MK.out _ (BelowL.start _))
             (first
               | (go_at_call 29;((with_reducible refine (CP.out _ (by exact R2.out.below (BelowL.out (limb7 (by assumption))))).mono ?_);rintro e v1 ⟨rfl,hq1⟩;have hb1:=BelowL.call (limb7 (by assumption)) hq1))
               | (go_at_call 42;((with_reducible refine (impl_sidesOf p.W p.H p.a p.n p.c _).mono ?_);rintro e v2 ⟨rfl,hq2⟩;have hb2:=BelowL.call (limb7 (by assumption)) hq2))
               | (go_at_call 42;((with_reducible refine (impl_sidesOf q.W q.H q.a q.n q.c _).mono ?_);rintro e v3 ⟨rfl,hq3⟩;have hb3:=BelowL.call (limb7 (by assumption)) hq3)))
           have HW5:=Lib.hid (bTrans HW2.out hb3.out)
           clear hq1 hq2 hq3 e0 e1 e2 dd0 dd1 dd2 hb1 hb2 hb3
           all_goals
             go_wp2_with fail
             go_ret
             exact ⟨ret_bool E.out.symm,HW5.out⟩
         case pos=>
           have hh2:(p.H !=q.H)=false:=by simpa using hh
           have hh3:(p.H==q.H)=true:=by simpa using hh
           have ha3:=arr_eq p.W p.H q.W q.H true (by rw [hw3,hh3];rfl)
           have HOK2:Hid (okV ps k):=Lib.hid (HOK.out.2 ⟨HP.out,hw,hh⟩)
           have HALL2:Hid (∀j,j<k+1→okV ps j):=Lib.hid (fun j hj=>by
             by_cases e:j=k
             · subst e;exact HOK2.out
             · exact HALL.out j (by omega))
           clear hh hw
           go_wp2_with fail
           clear c0 c1 c2 d0 d1 d2
           obtain ⟨wq,hwq⟩: ∃wq,wq=wr.alloc (.cells #[.int .i64 p.W, .int .i64 p.H, .slice p.a p.n p.c] 27):=⟨_,rfl⟩
           rw [←hwq] at kl e0 e1 e2 bl dd0 dd1 dd2 R2 HW2⊢
           have MK:Hid (∀v,BelowL wq v→v.cell? ⟨wr.heap.size,0,none⟩=some (.int .i64 p.W)∧v.cell? ⟨wr.heap.size,1,none⟩=some (.int .i64 p.H)∧v.cell? ⟨wr.heap.size,2,none⟩=some (.slice p.a p.n p.c)∧v.cell? ⟨b,off,none⟩=some (.int .i64 q.W)∧v.cell? ⟨b,off+1,none⟩=some (.int .i64 q.H)∧v.cell? ⟨b,off+2,none⟩=some (.slice q.a q.n q.c)∧BelowL wq v):=Lib.hid (fun v hB=>⟨(hB.out.cell kl).trans e0,(hB.out.cell kl).trans e1,(hB.out.cell kl).trans e2,(hB.out.cell bl).trans dd0,(hB.out.cell bl).trans dd1,(hB.out.cell bl).trans dd2,hB⟩)
           clear hwq
           go_region_held3 (fun v=>v.cell? ⟨wr.heap.size,0,none⟩=some (.int .i64 p.W)∧v.cell? ⟨wr.heap.size,1,none⟩=some (.int .i64 p.H)∧v.cell? ⟨wr.heap.size,2,none⟩=some (.slice p.a p.n p.c)∧v.cell? ⟨b,off,none⟩=some (.int .i64 q.W)∧v.cell? ⟨b,off+1,none⟩=some (.int .i64 q.H)∧v.cell? ⟨b,off+2,none⟩=some (.slice q.a q.n q.c)∧BelowL wq v)
             (first | exact MK.out _ hb3 | exact MK.out _ hb2 | exact MK.out _ hb1 | exact MK.out _ (BelowL.start _))
             (first
               | (go_at_call 29;((with_reducible refine (CP.out _ (by exact R2.out.below (BelowL.out (limb7 (by assumption))))).mono ?_);rintro e v1 ⟨rfl,hq1⟩;have hb1:=BelowL.call (limb7 (by assumption)) hq1))
               | (go_at_call 42;((with_reducible refine (impl_sidesOf p.W p.H p.a p.n p.c _).mono ?_);rintro e v2 ⟨rfl,hq2⟩;have hb2:=BelowL.call (limb7 (by assumption)) hq2))
               | (go_at_call 42;((with_reducible refine (impl_sidesOf q.W q.H q.a q.n q.c _).mono ?_);rintro e v3 ⟨rfl,hq3⟩;have hb3:=BelowL.call (limb7 (by assumption)) hq3)))
           have HW5:=Lib.hid (bTrans HW2.out hb3.out)
           clear hq1 hq2 hq3 e0 e1 e2 dd0 dd1 dd2 hb1 hb2 hb3
           all_goals
             go_wp2_with fail
             go_roundw
             case rel=>exact ⟨k+1,by omega,by go_num,HALL2,HW5⟩
             case measure=>simp [intOf];omega
   · obtain rfl:k=n:=by omega
     go_wp2_with fail
     go_ret
     exact ⟨ret_bool (stackV.2 ⟨by have:=HN.out;omega,by have:=HN.out;omega,fun j hj=>HALL.out j (by rw [←HN.out];exact hj)⟩).symm,HW.out⟩
end Go.Proofs.YtanccoopbgamdaaGreatDoor
