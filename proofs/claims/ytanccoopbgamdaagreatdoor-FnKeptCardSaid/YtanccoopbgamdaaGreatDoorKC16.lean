/-
  Contracts and plain facts on which the theorem of this claim rests, text 16.
-/
import Derived.RegionTactic
import Derived.Test.YtanccoopbgamdaaGreatDoorKC3
import Derived.Test.YtanccoopbgamdaaGreatDoorKC12
import Derived.Test.YtanccoopbgamdaaGreatDoorKC13
import Derived.Test.YtanccoopbgamdaaGreatDoorKC14
import Derived.Test.YtanccoopbgamdaaGreatDoorKC15
namespace Go.Proofs.YtanccoopbgamdaaGreatDoor
open Go.RowKit
set_option linter.unusedVariables false
set_option linter.unusedSimpArgs false
def bV (ps:List PV) (i k:Nat):Int:=(pv ps k).ink.getD i 0
theorem bitsTo_congr {b c:Nat→Int} {m:Nat} (h: ∀k,k<m→b k=c k):bitsTo b m=bitsTo c m:=by
 induction m with
 | zero=>rfl
 | succ m ih=>unfold bitsTo;rw [ih (fun k hk=>h k (by omega)),h m (by omega)]
theorem markG_V (ps:List PV) (i:Nat):markG (picsV ps) i=bitsTo (bV ps i) ps.length:=by
 unfold markG
 rw [picsV_len]
 exact bitsTo_congr (fun k hk=>by rw [picsV_at ps k hk];rfl)
structure Stk (ps:List PV) (n N:Nat) (W H:Int):Prop where
 ok:stackOk (picsV ps)=true
 len:ps.length=n
 n1:1≤n
 n4:n≤4
 size:sizeOk W H=true
 area:(N:Int)=W*H
 N1:1≤N
 N2:N≤1024
 W0:(pv ps 0).W=W
 H0:(pv ps 0).H=H
 ink: ∀k,k<n→(pv ps k).ink.length=N∧within (pv ps k).ink 1=true
theorem stk_of {ps:List PV} {n:Nat} (hn:ps.length=n) (h:stackOk (picsV ps)=true): ∃N W H,Stk ps n N W H:=by
 obtain ⟨h1,h2,h3⟩:=stackV.1 h
 obtain ⟨p0,_,_⟩:=h3 0 (by omega)
 obtain ⟨s0,q0,w0⟩:=picOk_bd rfl p0
 obtain ⟨b1,b2,b3,b4,b5,b6⟩:=sizeOk_bd s0
 refine ⟨(pv ps 0).ink.length,(pv ps 0).W,(pv ps 0).H,h,hn,by omega,by omega,s0,q0,by omega,by omega,rfl,rfl,fun k hk=>?_⟩
 obtain ⟨pk,ew,eh⟩:=h3 k (by omega)
 obtain ⟨sk,qk,wk⟩:=picOk_bd rfl pk
 rw [ew,eh,←q0] at qk
 exact ⟨by omega,wk⟩
namespace Stk
variable {ps : List PV} {n N : Nat} {W H : Int}
theorem dot (h:Stk ps n N W H) {i k:Nat} (hi:i<N) (hk:k<n):bV ps i k=0∨bV ps i k=1:=by
 obtain ⟨h1,h2⟩:=h.ink k hk
 have:=within_at h2 i (by omega)
 unfold bV
 simp only [List.getD_eq_getElem?_getD]
 omega
theorem bits (h:Stk ps n N W H) {i k:Nat} (hi:i<N) (hk:k≤n):0≤bitsTo (bV ps i) k∧bitsTo (bV ps i) k<2^k:=bitsTo_bd (fun j hj=>h.dot hi (by omega))
theorem mark (h:Stk ps n N W H) (i:Nat):markG (picsV ps) i=bitsTo (bV ps i) n:=by rw [markG_V,h.len]
theorem pic0 (h:Stk ps n N W H):(picsV ps).getD 0 noPic=(pv ps 0).pic:=picsV_at ps 0 (by rw [h.len];exact h.n1)
theorem inkLen (h:Stk ps n N W H):((picsV ps).getD 0 noPic).ink.length=N:=by
 rw [h.pic0]
 exact (h.ink 0 (by have:=h.n1;omega)).1
end Stk
theorem pow_small {k:Nat} (hk:k≤4):1≤(2:Int)^k∧(2:Int)^k≤16:=by
 have:k=0∨k=1∨k=2∨k=3∨k=4:=by omega
 rcases this with rfl | rfl | rfl | rfl | rfl <;>decide
theorem bit_mul {v:Int} {k:Nat} (hv:v=0∨v=1) (hk:k≤4):0≤v*2^k∧v*2^k≤16:=by
 have:=pow_small hk
 rcases hv with rfl | rfl
 · simp
 · rw [Int.one_mul];omega
set_option maxHeartbeats 400000 in
theorem impl_markLimit (ad:Option Addr) (n cap:Nat) (w:World) (h2:n≤4):
   Calls Tryz.prog 140 #[.slice ad n cap] w fun e w'=>e= .returned (.int .i64 (((2^n:Nat):Int)))∧w=w':=by
 have h3:(n:Int)≤4:=by omega
 have E:Hid (((2^n:Nat):Int)=(2:Int)^n):=Lib.hid (by push_cast;rfl)
 obtain ⟨p1,p2⟩:=pow_small h2
 obtain ⟨P,hP⟩: ∃P,(2:Int)^n=P:=⟨_,rfl⟩
 rw [hP] at p1 p2 E
 rw [E.out]
 go_enter Tryz.func140,Tryz.ntmps140
 go_wp2_with fail
 go_ret
 exact ⟨rfl,rfl⟩
theorem gen_setW {N:Nat} {f g:Nat→Int} {j:Nat} {v:Int} (hj:j<N) (hv:g j=v) (hg: ∀i,i<N→i≠j→g i=f i):(gen N f).set j v=gen N g:=by
 refine gen_ext N g _ (by rw [List.length_set,gen_len]) (fun i hi=>?_)
 by_cases e:i=j
 · subst e
   simp only [List.getD,List.getElem?_set]
   rw [if_pos trivial,if_pos (by rw [gen_len];exact hi)]
   exact hv.symm
 · simp only [List.getD,List.getElem?_set]
   rw [if_neg (by omega)]
   have:=gen_get N f i hi
   simp only [List.getD] at this
   rw [this,hg i hi e]
def markR (ps:List PV) (N k j:Nat):List Int:=gen N (fun i=>bitsTo (bV ps i) (if i<j then k+1 else k))
theorem markR_start (ps:List PV) (N:Nat):List.replicate N 0=markR ps N 0 0:=by
 unfold markR
 refine gen_ext N _ _ (by simp) (fun i hi=>?_)
 simp [bitsTo,List.getD,hi]
theorem markR_next (ps:List PV) (N k:Nat):markR ps N k N=markR ps N (k+1) 0:=by
 unfold markR
 refine gen_ext N _ _ (gen_len _ _) (fun i hi=>?_)
 rw [gen_get _ _ _ hi,if_pos hi,if_neg (by omega)]
theorem markR_set {ps:List PV} {N k j:Nat} (hj:j<N) {S M:Int} (hS:bitsTo (bV ps j) k=S) (hM:bV ps j k*2^k=M):(markR ps N k j).set j (S+M)=markR ps N k (j+1):=by
 unfold markR
 refine gen_setW hj ?_ (fun i hi hne=>?_)
 · rw [if_pos (by omega),←hS,←hM];rfl
 · by_cases e:i<j
   · rw [if_pos e,if_pos (by omega)]
   · rw [if_neg e,if_neg (by omega)]
theorem markR_get {ps:List PV} {N k j:Nat} (hj:j<N):(markR ps N k j).getD j 0=bitsTo (bV ps j) k:=by
 unfold markR
 rw [gen_get _ _ _ hj,if_neg (by omega)]
def marksL (ps:List PV) (N:Nat):List Int:=gen N (fun i=>markG (picsV ps) i)
theorem markR_end {ps:List PV} {n N:Nat} {W H:Int} (T:Stk ps n N W H):markR ps N n 0=marksL ps N:=by
 unfold markR marksL
 refine gen_ext N _ _ (gen_len _ _) (fun i hi=>?_)
 rw [gen_get _ _ _ hi,if_neg (by omega),T.mark]
def RowOut (w:World) (N:Nat) (ys:List Int) (e:Ending) (w':World):Prop:= ∃g,e= .returned (.slice (some ⟨g,0,none⟩) N N)∧w.heap.size≤g∧Own w' g N N ys∧Below w.heap.size w w'
set_option maxHeartbeats 3200000 in
theorem impl_marksOf {ps:List PV} {n N:Nat} {W H:Int} (T:Stk ps n N W H) (ad:Option Addr) (cap:Nat) (w:World) (ha:RdV w ad ps):
   Calls Tryz.prog 141 #[.slice ad n cap] w (RowOut w N (marksL ps N)):=by
 have HT:=Lib.hid T
 have HA:=Lib.hid ha
 have hn1:=T.n1
 have hn4:=T.n4
 have hN1:=T.N1
 have hN2:=T.N2
 have E:=Lib.hid (markR_end T)
 obtain ⟨b,off,hae,hal⟩:=ha.addr (by have:=T.len;omega)
 subst hae
 obtain ⟨_,c0,c1,c2⟩:=ha.cells (k:=0) (by have:=T.len;omega)
 have ln0:=ha.len (k:=0) (by have:=T.len;omega)
 have hnn:(pv ps 0).n=N:=by have:=(T.ink 0 (by omega)).1;omega
 simp only [Nat.zero_mul,Nat.add_zero] at c0 c1 c2
 rw [hnn] at c2
 have n0:(0:Int)<(n:Int):=by omega
 clear T ha ln0 hnn
 go_enter Tryz.func141,Tryz.ntmps141
 go_wp2_with (at_make;refine wp_make _ rfl _ _ rfl .i64 .i64 _ _ N rfl rfl rfl rfl (by omega) ?_;intro M hM)
 have HM:=Lib.hid hM
 clear hM c0 c1 c2
 have HO0:=Lib.hid (HM.out.own w)
 have HB0:=Lib.hid (Joins.below_alloc1 w (.cells M 3))
 obtain ⟨w1,hw1⟩: ∃w1,w1=w.alloc (.cells M 3):=⟨_,rfl⟩
 rw [←hw1] at HO0 HB0⊢
 have HA1:=Lib.hid (HA.out.below HB0.out)
 clear hw1
 go_loopw [16] (fun i wr=> ∃k:Nat,k≤n∧i= .int .i64 k∧Hid (Own wr w.heap.size N N (markR ps N k 0))∧Hid (Below w.heap.size w wr)) (fun i _=>n - (intOf i).toNat)
 case atStart=>exact ⟨0,Nat.zero_le _,rfl,Lib.hid (by rw [←markR_start];exact HO0.out),HB0⟩
 case round=>
   obtain ⟨k,hk,rfl,HO,HW⟩:=hrel
   by_cases hlt:k<n
   · have HR :=Lib.hid (HA.out.below HW.out)
     obtain ⟨_,c0,c1,c2⟩:=HR.out.cells (k:=k) (by have:=HT.out.len;omega)
     have ln1:=HR.out.len (k:=k) (by have:=HT.out.len;omega)
     have rd1:=HR.out.rd (k:=k) (by have:=HT.out.len;omega)
     obtain ⟨hil,_⟩:=HT.out.ink k hlt
     have hbv: ∀i,bV ps i k=(pv ps k).ink.getD i 0:=fun i=>rfl
     obtain ⟨p,hp⟩: ∃p,pv ps k=p:=⟨_,rfl⟩
     rw [hp] at c0 c1 c2 ln1 rd1 hil hbv
     rw [show p.n=N by omega] at c2
     obtain ⟨bi,oi,hie,hil2,_⟩:=rd1 0 (by omega)
     rw [hie] at c2 rd1
     have HIL:=Lib.hid hil
     have HBV:=Lib.hid hbv
     have RD:=Lib.hid (rd1.alloc (.cells #[.int .i64 p.W, .int .i64 p.H, .slice p.a p.n p.c] 27))
     have HR1:=Lib.hid rd1
     have HO2:=Lib.hid (HO.out.alloc (.cells #[.int .i64 p.W, .int .i64 p.H, .slice (some ⟨bi,oi,none⟩) N p.c] 27))
     have HW2:=Lib.hid (bAlloc HW.out (.cells #[.int .i64 p.W, .int .i64 p.H, .slice (some ⟨bi,oi,none⟩) N p.c] 27))
     have RA2:=Lib.hid ((HA.out.below HW.out))
     obtain ⟨w2,hw2⟩: ∃w2,w2=wr.alloc (.cells #[.int .i64 p.W, .int .i64 p.H, .slice (some ⟨bi,oi,none⟩) N p.c] 27):=⟨_,rfl⟩
     have HI2:=Lib.hid (HR1.out.alloc (.cells #[.int .i64 p.W, .int .i64 p.H, .slice (some ⟨bi,oi,none⟩) N p.c] 27))
     have HAP:Hid (bi<w.heap.size):=Lib.hid (by
       have h:=HA.out.rd (k:=k) (by have:=HT.out.len;omega)
       rw [hp] at h
       obtain ⟨b2,o2,h1,h2,_⟩:=h 0 (by omega)
       rw [hie] at h1
       have e1:=Option.some.inj h1
       simp only [Addr.mk.injEq] at e1
       omega)
     have k0:(0:Int)≤(k:Int):=by omega
     have kk:(k:Int)≤64:=by omega
     clear hp hil hbv rd1 ln1 hie RD
     go_wp2_with fail
     rw [←hw2] at HO2 HW2 HI2⊢
     clear hw2 c0 c1 c2
     go_loopw [24] (fun i wr=> ∃j:Nat,j≤N∧i= .int .i64 j∧Hid (Own wr w.heap.size N N (markR ps N k j))∧Hid (Below w.heap.size w wr)) (fun i _=>N - (intOf i).toNat)
     case atStart=>exact ⟨0,Nat.zero_le _,rfl,HO2,HW2⟩
     case round=>
       obtain ⟨j,hj,rfl,HOj,HWj⟩:=hrel
       by_cases hjt:j<N
       · have hS:=markR_get (ps:=ps) (k:=k) hjt
         have g2:=HOj.out.cell hjt
         have g3:=HOj.out.frozen j
         rw [hS] at g2
         have hr3:=HR1.out
         have hd:=HT.out.dot hjt hlt
         have hb1:=HT.out.bits hjt (show k≤n by omega)
         have hp1:=(pow_small (show k≤4 by omega)).2
         obtain ⟨M0,M1⟩:=bit_mul hd (show k≤4 by omega)
         have ci:wr.cell? ⟨bi,oi+j,none⟩=some (.int .i64 (bV ps j k)):=by
           rw [HBV.out]
           have h:=(HA.out.below HWj.out).rd (k:=k) (by have:=HT.out.len;omega)
           have h2:Rd wr (some ⟨bi,oi,none⟩) p.ink:=by
             intro q hq
             obtain ⟨b3,o3,h4,h5,h6⟩:=HR1.out q hq
             have e1:=Option.some.inj h4
             simp only [Addr.mk.injEq] at e1
             obtain ⟨rfl,rfl,_⟩:=e1
             refine ⟨bi,oi,rfl,by have:=HAP.out;have:=HWj.out.size;omega,?_⟩
             have c1:=HWj.out.cell (p:=⟨bi,oi+q,none⟩) HAP.out
             have c2:=HW.out.cell (p:=⟨bi,oi+q,none⟩) HAP.out
             rw [c1,←c2]
             exact h6
           obtain ⟨b3,o3,h4,h5,h6⟩:=h2 j (by have:=HIL.out;omega)
           have e1:=Option.some.inj h4
           simp only [Addr.mk.injEq] at e1
           obtain ⟨rfl,rfl,_⟩:=e1
           exact h6
         obtain ⟨v,hv⟩: ∃v,bV ps j k=v:=⟨_,rfl⟩
         rw [hv] at ci M0 M1
         obtain ⟨Mk,hM⟩: ∃M,v*2^k=M:=⟨_,rfl⟩
         rw [hM] at M0 M1
         obtain ⟨S,hSS⟩: ∃S,bitsTo (bV ps j) k=S:=⟨_,rfl⟩
         rw [hSS] at g2 hb1
         have HS:=Lib.hid (HOj.out.set j (S+Mk))
         have HSE:=Lib.hid (markR_set hjt hSS (M:=Mk) (by rw [hv];exact hM))
         have hb2:0≤S∧S≤16:=by omega
         obtain ⟨S0,S1⟩:=hb2
         have wM:IntKind.i64.wrap Mk=Mk:=IntWalk.i64_in _ (by omega)
         have wS:IntKind.i64.wrap (S+Mk)=S+Mk:=IntWalk.i64_in _ (by omega)
         have j0:(0:Int)≤(j:Int):=by omega
         have j1:(j:Int)<(N:Int):=by omega
         clear hS hd hb1 hv hSS hr3
         go_wp2_with fail
         go_region
         all_goals
           go_wp2_with fail
           go_roundw
           case rel=>exact ⟨j+1,by omega,by go_num,Lib.hid (by rw [←HSE.out];exact HS.out),Lib.hid (HWj.out.drew.setCell (Nat.le_refl _) _)⟩
           case measure=>simp [intOf];omega
       · obtain rfl:j=N:=by omega
         have hOn:=HOj.out
         rw [markR_next] at hOn
         have HON:=Lib.hid hOn
         clear hOn
         go_wp2_with fail
         go_roundw
         case rel=>exact ⟨k+1,by omega,by go_num,HON,HWj⟩
         case measure=>simp [intOf];omega
   · obtain rfl:k=n:=by omega
     go_wp2_with fail
     go_ret
     exact ⟨w.heap.size,rfl,Nat.le_refl _,by rw [←E.out];exact HO.out,HW.out⟩
theorem marks_get {ps:List PV} {N i:Nat} (hi:i<N):(marksL ps N).getD i 0=markG (picsV ps) i:=by
 unfold marksL
 rw [gen_get _ _ _ hi]
def cntL (ps:List PV) (M i:Nat):List Int:=gen M (fun r=>cntI (markG (picsV ps)) r i)
theorem cntL_start (ps:List PV) (M:Nat):List.replicate M 0=cntL ps M 0:=by
 unfold cntL
 refine gen_ext M _ _ (by simp) (fun i hi=>?_)
 simp [cntI,List.getD,hi]
theorem cntL_step {ps:List PV} {M i m:Nat} (hm:markG (picsV ps) i=(m:Int)) (hM:m<M) {V:Int} (hV:cntI (markG (picsV ps)) m i=V):(cntL ps M i).set m (V+1)=cntL ps M (i+1):=by
 unfold cntL
 refine gen_setW hM ?_ (fun r hr hne=>?_)
 · show cntI (markG (picsV ps)) m i+(if markG (picsV ps) i=m then 1 else 0)=V+1
   rw [hm,if_pos rfl,hV]
 · show cntI (markG (picsV ps)) r i+(if markG (picsV ps) i=r then 1 else 0)=_
   rw [hm,if_neg (by omega),Int.add_zero]
theorem cntL_get {ps:List PV} {M i m:Nat} (hM:m<M):(cntL ps M i).getD m 0=cntI (markG (picsV ps)) m i:=by
 unfold cntL
 rw [gen_get _ _ _ hM]
theorem counts_yes {ps:List PV} {n N:Nat} {W H:Int} (T:Stk ps n N W H):markCountsF (picsV ps)=cntL ps (2^n) N:=by
 unfold markCountsF cntL
 rw [if_pos T.ok,picsV_len,T.len,T.inkLen]
theorem counts_no {L:List Pic} (h:stackOk L=false):markCountsF L=[]:=by unfold markCountsF;rw [h];rfl
theorem mark_lt {ps:List PV} {n N:Nat} {W H:Int} (T:Stk ps n N W H) {i:Nat} (hi:i<N): ∃m:Nat,markG (picsV ps) i=m∧m<2^n:=by
 obtain ⟨h1,h2⟩:=T.bits hi (Nat.le_refl n)
 rw [←T.mark] at h1 h2
 have e:(2:Int)^n=((2^n:Nat):Int):=by push_cast;rfl
 rw [e] at h2
 exact ⟨(markG (picsV ps) i).toNat,by omega,by omega⟩
theorem pow_nat {n:Nat} (h:n≤4):1≤2^n∧2^n≤16:=by
 have:=pow_small h
 have e:(2:Int)^n=((2^n:Nat):Int):=by push_cast;rfl
 omega
def CountsOut (w:World) (xs:List Int) (e:Ending) (w':World):Prop:= ∃a n c,e= .returned (.slice a n c)∧OwnA w' w.heap.size a n c xs∧n≤1048576∧Below w.heap.size w w'
set_option maxHeartbeats 3200000 in
theorem impl_MarkCounts (ad:Option Addr) (n cap:Nat) (ps:List PV) (w:World) (hn:ps.length=n) (ha:RdV w ad ps) (hl:n≤1048576) (h4: ∀k,k<ps.length→(pv ps k).n≤1048576):
   Calls Tryz.prog 110 #[.slice ad n cap] w (CountsOut w (markCountsF (picsV ps))):=by
 have HA:=Lib.hid ha
 have CS:=Lib.hid (impl_IsStack ad n cap ps w hn ha hl h4)
 by_cases hs:stackOk (picsV ps)=true
 case neg=>
   have hs2:stackOk (picsV ps)=false:=by simpa using hs
   rw [counts_no hs2]
   rw [hs2] at CS
   clear hs hs2 hn ha h4
   go_enter Tryz.func110,Tryz.ntmps110
   go_wp2_with fail
   refine CS.out.mono ?_
   rintro e w1 ⟨rfl,hb⟩
   have HB1:=Lib.hid hb
   clear hb
   go_wp2_with fail
   go_ret
   exact ⟨none,0,0,rfl,OwnA.none _ _,by omega,HB1.out⟩
 case pos=>
   obtain ⟨N,W,H,T⟩:=stk_of hn hs
   rw [counts_yes T]
   rw [hs] at CS
   have HT:=Lib.hid T
   have hn1:=T.n1
   have hn4:=T.n4
   have hN1:=T.N1
   have hN2:=T.N2
   obtain ⟨m1,m2⟩:=pow_nat hn4
   have CL:=Lib.hid (fun v:World=>impl_markLimit ad n cap v hn4)
   obtain ⟨M,hM⟩: ∃M,2^n=M:=⟨_,rfl⟩
   have hMl: ∀i:Nat,i<N→ ∃m:Nat,markG (picsV ps) i=m∧m<M:=fun i hi=>by rw [←hM];exact mark_lt T hi
   have HML:=Lib.hid hMl
   rw [hM] at m1 m2 CL⊢
   clear hs hn ha h4 T hM hMl
   go_enter Tryz.func110,Tryz.ntmps110
   go_wp2_with fail
   refine CS.out.mono ?_
   rintro e w1 ⟨rfl,hb⟩
   have HB1:=Lib.hid hb
   have HA1:=Lib.hid (HA.out.below hb)
   clear hb
   go_wp2_with fail
   refine (CL.out _).mono ?_
   rintro e w9 ⟨rfl,rfl⟩
   go_wp2_with (at_make;refine wp_make _ rfl _ _ rfl .i64 .i64 _ _ M rfl rfl rfl rfl (by omega) ?_;intro MM hMM)
   have HO0:=Lib.hid (hMM.own w1)
   have HB2:=Lib.hid (bAlloc HB1.out (.cells MM 3))
   have HA2:=Lib.hid (HA1.out.alloc (.cells MM 3))
   clear hMM
   refine (impl_marksOf HT.out ad cap _ (by exact HA2.out)).mono ?_
   rintro e w3 ⟨g,rfl,hg,ho,hb⟩
   have HO3:=Lib.hid (HO0.out.below hb HO0.out.lt)
   have HB3:=Lib.hid (bTrans HB2.out hb)
   have HG:Hid (w1.heap.size<g):=Lib.hid (by simp at hg;omega)
   have HR3:=Lib.hid ho
   have GL:Hid (w.heap.size≤w1.heap.size):=Lib.hid HB1.out.size
   clear hb ho hg
   go_wp2_with fail
   go_loopw [15] (fun i wr=> ∃k:Nat,k≤N∧i= .int .i64 k∧Hid (Own wr w1.heap.size M M (cntL ps M k))∧Hid (w3.grownBy wr (some w1.heap.size))) (fun i _=>N - (intOf i).toNat)
   case atStart=>exact ⟨0,Nat.zero_le _,rfl,Lib.hid (by rw [←cntL_start];exact HO3.out),Lib.hid (grown_refl _ _)⟩
   case round=>
     obtain ⟨k,hk,rfl,HO,HGR⟩:=hrel
     by_cases hlt:k<N
     · have HRr:=Lib.hid (HR3.out.grown HGR.out (by have:=HG.out;intro e;have:=Option.some.inj e;omega))
       have m4:=HRr.out.cell hlt
       rw [marks_get hlt] at m4
       obtain ⟨m,hm,hmM⟩:=HML.out k hlt
       rw [hm] at m4
       have hcb:=cntI_bd (markG (picsV ps)) m k
       obtain ⟨V,hV⟩: ∃V,cntI (markG (picsV ps)) m k=V:=⟨_,rfl⟩
       have hgm:=cntL_get (ps:=ps) (i:=k) hmM
       have HSE:=Lib.hid (cntL_step hm hmM hV)
       rw [hV] at hcb hgm
       obtain ⟨V0,V1⟩:=hcb
       have mm0:(m:Int)<(M:Int):=by omega
       have g2:=HO.out.cell hmM
       have g3:=HO.out.frozen m
       rw [hgm] at g2
       have HS:=Lib.hid (HO.out.set m (V+1))
       clear hm hV hgm
       go_wp2_with fail
       go_roundw
       case rel=>exact ⟨k+1,by omega,by go_num,Lib.hid (by rw [←HSE.out];exact HS.out),Lib.hid (grown_set HGR.out _)⟩
       case measure=>simp [intOf];omega
     · obtain rfl:k=N:=by omega
       have HBr:=Lib.hid (HB3.out.grown HGR.out HB3.out.size (by intro q hq;cases hq;exact GL.out))
       go_wp2_with fail
       go_ret
       exact ⟨_,_,_,rfl,OwnA.mk HO.out GL.out,by omega,HBr.out⟩
theorem PerfIn.last {w:World} {B g k r:Nat} {D:Dsk} (h:PerfIn w B g D) (hk:D.n=k+1) (hr:D.a=some ⟨r,0,none⟩):
   w.cell? ⟨r,k*3,none⟩=some (.int .i64 (pv D.ps k).W)∧w.cell? ⟨r,k*3+1,none⟩=some (.int .i64 (pv D.ps k).H)∧w.cell? ⟨r,k*3+2,none⟩=some (.slice (pv D.ps k).a (pv D.ps k).n (pv D.ps k).c)∧
   (pv D.ps k).ink.length=(pv D.ps k).n∧Rd w (pv D.ps k).a (pv D.ps k).ink∧(pv D.ps k).n≤1048576∧(pv D.ps k).n≤(pv D.ps k).c:=by
 have hl:k<D.ps.length:=by rw [h.own.s.len,hk];omega
 have rv:=h.own.s.rd
 rw [hr] at rv
 obtain ⟨_,c0,c1,c2⟩:=rv.cells hl
 simp only [Nat.zero_add] at c0 c1 c2
 refine ⟨c0,c1,c2,rv.len hl,rv.rd hl,h.small.s k hl,?_⟩
 rcases h.own.s.ink k (by omega) with ⟨_,h1,h2,_⟩ | ⟨_,_,_,h1⟩
 · omega
 · exact h1.2.choose_spec.2.1
def InI64 (v:Int):Prop:=-9223372036854775808≤v∧v≤9223372036854775807
def meanT (d:Dat) (q:Pic):Dat × List UInt8:=(d,textI [(meanF q.W q.H q.ink).1,(meanF q.W q.H q.ink).2])
def runsT (d:Dat) (q:Pic):Dat × List UInt8:=(d,textI (runsF q.W q.H q.ink))
def countsT (d:Dat) (q:Pic):Dat × List UInt8:=(d,textI (markCountsF d.2.2))
def errorT (d:Dat) (q:Pic):Dat × List UInt8:=(d,textI [errF d.1.W d.1.H d.1.ink q.W q.H q.ink])
theorem rd_lit2 (w:World) (a b:Int) (T:Nat):Rd (w.alloc (.cells #[.int .i64 a, .int .i64 b] T)) (some ⟨w.heap.size,0,none⟩) [a,b]:=by
 intro k hk
 refine ⟨w.heap.size,0,rfl,by simp,?_⟩
 rw [(Blk.new w T #[.int .i64 a, .int .i64 b]).cell]
 have hk2:k<2:=by simpa using hk
 rcases (show k=0∨k=1 by omega) with rfl | rfl <;>rfl
theorem rd_lit1 (w:World) (a:Int) (T:Nat):Rd (w.alloc (.cells #[.int .i64 a] T)) (some ⟨w.heap.size,0,none⟩) [a]:=by
 intro k hk
 obtain rfl:k=0:=by simpa using hk
 exact ⟨w.heap.size,0,rfl,by simp,by rw [(Blk.new w T #[.int .i64 a]).cell];rfl⟩
set_option maxRecDepth 100000 in
set_option maxHeartbeats 1600000 in
theorem told_mean (k r:Nat) (w:World) (B g:Nat) (D:Dsk) (hin:PerfIn w B g D) (hk:D.n=k+1) (hr:D.a=some ⟨r,0,none⟩) (hi:InI64 (meanF (pv D.ps k).W (pv D.ps k).H (pv D.ps k).ink).1∧InI64 (meanF (pv D.ps k).W (pv D.ps k).H (pv D.ps k).ink).2):
   Calls Tryz.prog 87 #[.pointer (some ⟨g,0,none⟩), .pointer (some ⟨r,k*3,none⟩)] w (PerfOut B g D (fun d=>meanT d (pv D.ps k).pic) w):=by
 have HIN:=Lib.hid hin
 obtain ⟨c0,c1,c2,ln,rd,sm,_⟩:=hin.last hk hr
 obtain ⟨q,hq⟩: ∃q,pv D.ps k=q:=⟨_,rfl⟩
 rw [hq] at c0 c1 c2 ln rd sm hi⊢
 have RD:=Lib.hid rd
 have LN:=Lib.hid ln
 have HI:=Lib.hid hi
 clear hin hk hr rd ln hi hq
 go_enter Tryz.func87,Tryz.ntmps87
 go_wp2_with fail
 refine (impl_MeanOf q.W q.H q.a q.n q.c q.ink _ LN.out (by exact RD.out) (by omega)).mono ?_
 rintro e w1 ⟨rfl,hb⟩
 obtain ⟨X,hX⟩: ∃X,(meanF q.W q.H q.ink).1=X:=⟨_,rfl⟩
 obtain ⟨Y,hY⟩: ∃Y,(meanF q.W q.H q.ink).2=Y:=⟨_,rfl⟩
 have E:Hid (meanT D.dat q.pic=(D.dat,textI [X,Y])):=Lib.hid (by unfold meanT;rw [show q.pic.W=q.W from rfl,show q.pic.H=q.H from rfl,show q.pic.ink=q.ink from rfl,hX,hY])
 rw [hX,hY] at HI⊢
 have HB1:=Lib.hid (bAlloc hb (.cells #[.int .i64 X, .int .i64 Y] 3))
 have HLw:=Lib.hid ((HIN.out.laid.below hb).below (Joins.below_alloc1 w1 (.cells #[.int .i64 X, .int .i64 Y] 3)))
 clear hb c0 c1 c2 hX hY
 go_wp2_with fail
 refine (impl_textOf (some ⟨w1.heap.size,0,none⟩) 2 2 [X,Y] _ rfl (by exact rd_lit2 _ _ _ _) (by omega) (fun x hx=>by simp at hx;rcases hx with rfl | rfl;exact HI.out.1;exact HI.out.2) (by exact HLw.out)).mono ?_
 rintro e w2 ⟨rfl,hb⟩
 have HB2:=Lib.hid (bTrans HB1.out hb)
 go_wp2_with fail
 go_ret
 exact HIN.out.stay HB2.out (by rw [E.out]) (by rw [E.out])
set_option maxRecDepth 100000 in
set_option maxHeartbeats 1600000 in
theorem told_runs (k r:Nat) (w:World) (B g:Nat) (D:Dsk) (hin:PerfIn w B g D) (hk:D.n=k+1) (hr:D.a=some ⟨r,0,none⟩) (hi:(runsF (pv D.ps k).W (pv D.ps k).H (pv D.ps k).ink).length≤4096∧ ∀x,x ∈ runsF (pv D.ps k).W (pv D.ps k).H (pv D.ps k).ink→InI64 x):
   Calls Tryz.prog 86 #[.pointer (some ⟨g,0,none⟩), .pointer (some ⟨r,k*3,none⟩)] w (PerfOut B g D (fun d=>runsT d (pv D.ps k).pic) w):=by
 have HIN:=Lib.hid hin
 obtain ⟨c0,c1,c2,ln,rd,sm,_⟩:=hin.last hk hr
 obtain ⟨q,hq⟩: ∃q,pv D.ps k=q:=⟨_,rfl⟩
 rw [hq] at c0 c1 c2 ln rd sm hi⊢
 have RD:=Lib.hid rd
 have LN:=Lib.hid ln
 have HI:=Lib.hid hi
 clear hin hk hr rd ln hi hq
 go_enter Tryz.func86,Tryz.ntmps86
 go_wp2_with fail
 refine (impl_RunsOf q.W q.H q.a q.n q.c q.ink _ LN.out (by exact RD.out) (by omega)).mono ?_
 obtain ⟨X,hX⟩: ∃X,runsF q.W q.H q.ink=X:=⟨_,rfl⟩
 have E:Hid (runsT D.dat q.pic=(D.dat,textI X)):=Lib.hid (by unfold runsT;rw [show q.pic.W=q.W from rfl,show q.pic.H=q.H from rfl,show q.pic.ink=q.ink from rfl,hX])
 rw [hX] at HI⊢
 rintro e w1 ⟨a1,n1,k1,rfl,ho,hn1,hb⟩
 have HB1:=Lib.hid hb
 have HO:=Lib.hid ho
 have HLw:=Lib.hid (HIN.out.laid.below hb)
 have ll:=HI.out.1
 rw [ho.len] at ll
 clear hb c0 c1 c2 hX ho
 go_wp2_with fail
 refine (impl_textOf a1 n1 k1 X _ HO.out.len (by exact HO.out.rd) ll (fun x hx=>HI.out.2 x hx) (by exact HLw.out)).mono ?_
 rintro e w2 ⟨rfl,hb⟩
 have HB2:=Lib.hid (bTrans HB1.out hb)
 go_wp2_with fail
 go_ret
 exact HIN.out.stay HB2.out (by rw [E.out]) (by rw [E.out])
set_option maxRecDepth 100000 in
set_option maxHeartbeats 1600000 in
theorem told_counts (k r:Nat) (w:World) (B g:Nat) (D:Dsk) (hin:PerfIn w B g D) (hk:D.n=k+1) (hr:D.a=some ⟨r,0,none⟩) (hi:(markCountsF (picsV D.ps)).length≤4096∧ ∀x,x ∈ markCountsF (picsV D.ps)→InI64 x):
   Calls Tryz.prog 88 #[.pointer (some ⟨g,0,none⟩), .pointer (some ⟨r,k*3,none⟩)] w (PerfOut B g D (fun d=>countsT d (pv D.ps k).pic) w):=by
 have HIN:=Lib.hid hin
 have KG:Blk w g 43 #[.int .i64 D.P.W, .int .i64 D.P.H, .slice D.P.a D.P.n D.P.c, .int .i64 D.M.W, .int .i64 D.M.H, .slice D.M.a D.M.n D.M.c, .slice D.a D.n D.c]:=hin.box
 obtain ⟨m0,d0,d1,d2,d3,d4,d5,d6⟩:=KG.c7
 have HI:=Lib.hid hi
 clear hin hk hr hi KG d0 d1 d2 d3 d4 d5
 go_enter Tryz.func88,Tryz.ntmps88
 go_wp2_with fail
 refine (impl_MarkCounts D.a D.n D.c D.ps _ HIN.out.own.s.len (by exact HIN.out.own.s.rd) (by have:=HIN.out.small.n;omega) (by exact HIN.out.small.s)).mono ?_
 obtain ⟨X,hX⟩: ∃X,markCountsF (picsV D.ps)=X:=⟨_,rfl⟩
 have E:Hid (countsT D.dat (pv D.ps k).pic=(D.dat,textI X)):=Lib.hid (by unfold countsT;rw [show D.dat.2.2=picsV D.ps from rfl,hX])
 rw [hX] at HI⊢
 rintro e w1 ⟨a1,n1,k1,rfl,ho,hn1,hb⟩
 have HB1:=Lib.hid hb
 have HO:=Lib.hid ho
 have HLw:=Lib.hid (HIN.out.laid.below hb)
 have ll:=HI.out.1
 rw [ho.len] at ll
 clear hb m0 d6 hX ho
 go_wp2_with fail
 refine (impl_textOf a1 n1 k1 X _ HO.out.len (by exact HO.out.rd) ll (fun x hx=>HI.out.2 x hx) (by exact HLw.out)).mono ?_
 rintro e w2 ⟨rfl,hb⟩
 have HB2:=Lib.hid (bTrans HB1.out hb)
 go_wp2_with fail
 go_ret
 exact HIN.out.stay HB2.out (by rw [E.out]) (by rw [E.out])
def IntsOut (w:World) (xs:List Int) (e:Ending) (w':World):Prop:=
 ∃a n c,e= .returned (.slice a n c)∧OwnA w' w.heap.size a n c xs∧n≤1048576∧Below w.heap.size w w'
set_option maxHeartbeats 800000 in
theorem impl_LevelsFor (W H:Int) (ad:Option Addr) (n cap:Nat) (xs:List Int) (W' H':Int) (ad':Option Addr) (n' cap':Nat) (ys:List Int) (w:World)
   (hn:xs.length=n) (ha:Rd w ad xs) (hl:n≤9223372036854775807) (hn':ys.length=n') (ha':Rd w ad' ys) (hl':n'≤9223372036854775807):
   Calls Tryz.prog 26 #[.agg #[.int .i64 W, .int .i64 H, .slice ad n cap], .agg #[.int .i64 W', .int .i64 H', .slice ad' n' cap']] w (IntsOut w (levelsF W H xs W' H' ys)):=by
 have HN:=Lib.hid hn
 have HA:=Lib.hid ha
 have HN':=Lib.hid hn'
 have HA':=Lib.hid ha'
 clear hn ha hn' ha'
 by_cases hp:matOk W H xs=true
 case neg=>
   have hp2:matOk W H xs=false:=by simpa using hp
   rw [levelsF_no (fun h=>hp h.1)]
   clear hp
   go_enter Tryz.func26,Tryz.ntmps26
   go_wp2_with fail
   refine (impl_IsMatrix _ _ _ _ _ xs _ HN.out (by exact (HA.out.alloc _).alloc _) hl).mono ?_
   rintro e w1 ⟨rfl,hb⟩
   have HB1:=Lib.hid (bTrans (bAlloc (bAlloc (Below.refl _ _) _) _) hb)
   have KP1:=Lib.hid (((Blk.new' (g:=w.heap.size) 31 #[.int .i64 W, .int .i64 H, .slice ad n cap] (by first | rfl | simp)).alloc _).below' hb)
   have KQ1:Hid (Blk w1 (w.heap.size+1) 27 #[.int .i64 W', .int .i64 H', .slice ad' n' cap']):=Lib.hid ((Blk.new' (g:=w.heap.size+1) 27 #[.int .i64 W', .int .i64 H', .slice ad' n' cap'] (by simp)).below' hb)
   obtain ⟨l1,c0,c1,c2⟩:=KP1.out.c3
   obtain ⟨m1,d0,d1,d2⟩:=KQ1.out.c3
   clear hb
   rw [hp2]
   go_wp2_with fail
   go_ret
   exact ⟨_,_,_,rfl,OwnA.none _ _,by omega,HB1.out⟩
 case pos=>
   by_cases hp':picOk W' H' ys 255=true
   case neg=>
     have hp2:picOk W' H' ys 255=false:=by simpa using hp'
     rw [levelsF_no (fun h=>hp' h.2)]
     clear hp'
     go_enter Tryz.func26,Tryz.ntmps26
     go_wp2_with fail
     refine (impl_IsMatrix _ _ _ _ _ xs _ HN.out (by exact (HA.out.alloc _).alloc _) hl).mono ?_
     rintro e w1 ⟨rfl,hb⟩
     have HB1:=Lib.hid (bTrans (bAlloc (bAlloc (Below.refl _ _) _) _) hb)
     have KP1:=Lib.hid (((Blk.new' (g:=w.heap.size) 31 #[.int .i64 W, .int .i64 H, .slice ad n cap] (by first | rfl | simp)).alloc _).below' hb)
     have KQ1:Hid (Blk w1 (w.heap.size+1) 27 #[.int .i64 W', .int .i64 H', .slice ad' n' cap']):=Lib.hid ((Blk.new' (g:=w.heap.size+1) 27 #[.int .i64 W', .int .i64 H', .slice ad' n' cap'] (by simp)).below' hb)
     obtain ⟨l1,c0,c1,c2⟩:=KP1.out.c3
     obtain ⟨m1,d0,d1,d2⟩:=KQ1.out.c3
     clear hb
     rw [hp]
     go_wp2_with fail
     refine (impl_IsPicture _ _ _ _ _ ys _ HN'.out (by exact HA'.out.below HB1.out) hl').mono ?_
     rintro e w2 ⟨rfl,hb⟩
     have HB2:=Lib.hid (bTrans HB1.out hb)
     have KP2:=Lib.hid (KP1.out.below' hb)
     have KQ2:=Lib.hid (KQ1.out.below' hb)
     clear c0 c1 c2 d0 d1 d2 hb
     obtain ⟨l2,c0,c1,c2⟩:=KP2.out.c3
     obtain ⟨m2,d0,d1,d2⟩:=KQ2.out.c3
     rw [hp2]
     go_wp2_with fail
     go_ret
     exact ⟨_,_,_,rfl,OwnA.none _ _,by omega,HB2.out⟩
   case pos=>
     rw [levelsF_yes HN.out hp hp']
     obtain ⟨hs,hq,hi,hd⟩:=matOk_bd HN.out hp
     obtain ⟨b1,b2,b3,b4,b5,b6⟩:=matSize_bd hs
     have HQ:=Lib.hid hq
     have HI:=Lib.hid hi
     have HD:=Lib.hid hd
     have HS:=Lib.hid hs
     have hn1:1≤n:=by omega
     have hn2:n≤256:=by omega
     clear hq hi hs hd
     obtain ⟨hs,hq,hi⟩:=picOk_bd HN'.out hp'
     obtain ⟨b1',b2',b3',b4',b5',b6'⟩:=sizeOk_bd hs
     have HQ':=Lib.hid hq
     have HI':=Lib.hid hi
     have HS':=Lib.hid hs
     have hn1':1≤n':=by omega
     have hn2':n'≤1024:=by omega
     clear hq hi hs
     go_enter Tryz.func26,Tryz.ntmps26
     go_wp2_with fail
     refine (impl_IsMatrix _ _ _ _ _ xs _ HN.out (by exact (HA.out.alloc _).alloc _) hl).mono ?_
     rintro e w1 ⟨rfl,hb⟩
     have HB1:=Lib.hid (bTrans (bAlloc (bAlloc (Below.refl _ _) _) _) hb)
     have KP1:=Lib.hid (((Blk.new' (g:=w.heap.size) 31 #[.int .i64 W, .int .i64 H, .slice ad n cap] (by first | rfl | simp)).alloc _).below' hb)
     have KQ1:Hid (Blk w1 (w.heap.size+1) 27 #[.int .i64 W', .int .i64 H', .slice ad' n' cap']):=Lib.hid ((Blk.new' (g:=w.heap.size+1) 27 #[.int .i64 W', .int .i64 H', .slice ad' n' cap'] (by simp)).below' hb)
     obtain ⟨l1,c0,c1,c2⟩:=KP1.out.c3
     obtain ⟨m1,d0,d1,d2⟩:=KQ1.out.c3
     clear hb
     rw [hp]
     go_wp2_with fail
     refine (impl_IsPicture _ _ _ _ _ ys _ HN'.out (by exact HA'.out.below HB1.out) hl').mono ?_
     rintro e w2 ⟨rfl,hb⟩
     have HB2:=Lib.hid (bTrans HB1.out hb)
     have KP2:=Lib.hid (KP1.out.below' hb)
     have KQ2:=Lib.hid (KQ1.out.below' hb)
     clear c0 c1 c2 d0 d1 d2 hb
     obtain ⟨l2,c0,c1,c2⟩:=KP2.out.c3
     obtain ⟨m2,d0,d1,d2⟩:=KQ2.out.c3
     rw [hp']
     go_wp2_with (at_make;refine wp_make _ rfl _ _ rfl .i64 .i64 n' n' n' rfl rfl rfl rfl (by omega) ?_;intro M hM)
     have HM:=Lib.hid hM
     clear hM
     go_loopw [23] (fun i wr=> ∃k:Nat,k≤n'∧i= .int .i64 k∧Own wr w2.heap.size n' n' (filled (ys.map (levelG n)) (List.replicate n' 0) k)∧Below w2.heap.size w2 wr) (fun i _=>n' - (intOf i).toNat)
     case atStart=>exact ⟨0,Nat.zero_le _,rfl,by rw [filled_zero];exact HM.out.own _,Joins.below_alloc1 _ _⟩
     case round=>
       obtain ⟨k,hk,rfl,ho,hnx⟩:=hrel
       have HBr:=Lib.hid (bTrans HB2.out hnx)
       have KP:=Lib.hid (KP2.out.below' hnx)
       have KQ:=Lib.hid (KQ2.out.below' hnx)
       obtain ⟨l9,p0,p1,p2⟩:=KP.out.c3
       obtain ⟨m9,q0,q1,q2⟩:=KQ.out.c3
       by_cases hlt:k<n'
       · obtain ⟨ba,oa,hae,hal,hac⟩:=(HA'.out.below HBr.out).at (by have:=HN'.out;omega)
         have h1:=hac k (by have:=HN'.out;omega)
         subst hae
         clear hac
         obtain ⟨v1,v2⟩:=within_at HI'.out k (by have:=HN'.out;omega)
         have g2:wr.cell? ⟨w2.heap.size,k,none⟩=some (.int .i64 ((filled (ys.map (levelG n)) (List.replicate n' 0) k).getD k 0)):=ho.cell hlt
         have g3:wr.frozen? ⟨w2.heap.size,k,none⟩=false:=ho.frozen k
         have hs:=ho.set k (levelG n (ys[k]?.getD 0))
         rw [filled_succ (ys.map (levelG n)) _ k _ (by have:=HN'.out;simp;omega) (by simp;omega) (map_get _ _ _ (by have:=HN'.out;omega))] at hs
         have HSt:=Lib.hid hs
         clear hs ho
         go_wp2_with fail
         refine (impl_nearest n _ _ v1 v2 hn2).mono ?_
         rintro e w3 ⟨rfl,rfl⟩
         go_wp2_with fail
         go_roundw
         case rel=>exact ⟨k+1,by omega,by go_num,by simpa using HSt.out,hnx.setCell (Nat.le_refl _) _⟩
         case measure=>simp [intOf];omega
       · go_wp2_with fail
         go_ret
         obtain rfl:n'=k:=by omega
         rw [filled_at (ys.map (levelG n)) _ n' (by have:=HN'.out;simp;omega) (by simp)] at ho
         exact ⟨_,_,_,rfl,OwnA.mk ho (by have:=HB2.out.size;omega),by omega,HBr.out⟩
end Go.Proofs.YtanccoopbgamdaaGreatDoor
