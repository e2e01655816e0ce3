/-
  Contracts and plain facts on which the theorem of this claim rests, text 4.
-/
import Derived.Deep.AppendLies
import Derived.Deep.DrawnRows
import Derived.Deep.RegionHeld3
import Derived.Deep.RegionLaw
import Derived.Test.YtmikajnpgcabfaaGreatDoorSC1
import Derived.Test.YtmikajnpgcabfaaGreatDoorSC3
namespace Go.Proofs.YtmikajnpgcabfaaGreatDoor
open Go.RowKit
set_option linter.unusedVariables false
set_option linter.unusedSimpArgs false
theorem filled_skip (ys xs:List Int) (k:Nat) (hk:k<ys.length) (hx:k<xs.length) (hv:ys.getD k 0=xs.getD k 0):filled ys xs k=filled ys xs (k+1):=by
 rw [←filled_succ ys xs k _ hk hx rfl,hv]
 apply List.ext_getElem?
 intro i
 rw [List.getElem?_set]
 by_cases h:k=i
 · subst h
   have e:(filled ys xs k)[k]?=some (xs.getD k 0):=by
     simp only [filled]
     rw [List.getElem?_append_right (by simp;omega),List.getElem?_drop]
     simp only [List.length_take]
     rw [Nat.min_eq_left (by omega),Nat.sub_self,Nat.add_zero]
     simp [List.getD,hx]
   have e2:k<(filled ys xs k).length:=(List.getElem?_eq_some_iff.1 e).1
   rw [if_pos rfl,if_pos e2,e]
 · rw [if_neg h]
attribute [local go_sem ↓] Go.wp_at_zero Go.wp_at_succ
set_option maxHeartbeats 400000 in
theorem impl_isShift (d:Int) (w:World):
   Calls Tryz.prog 205 #[.int .i64 d] w fun e w'=>e= .returned (.bool (decide (-1000≤d∧d≤1000)))∧w=w':=by
 go_enter Tryz.func205,Tryz.ntmps205
 go_wp2
 all_goals (go_ret;exact ⟨ret_bool (by first | (simp [*];done) | (simp [*];omega) | (simp;intros;omega)),rfl⟩)
theorem impl_isShift_yes (d:Int) (w:World) (h1:-1000≤d) (h2:d≤1000):
   Calls Tryz.prog 205 #[.int .i64 d] w fun e w'=>e= .returned (.bool true)∧w=w':=
 (impl_isShift d w).mono fun e w' ⟨he,hw⟩=>⟨by rw [he];exact ret_bool (by simp [h1,h2]),hw⟩
theorem impl_isShift_no (d:Int) (w:World) (h: ¬(-1000≤d∧d≤1000)):
   Calls Tryz.prog 205 #[.int .i64 d] w fun e w'=>e= .returned (.bool false)∧w=w':=
 (impl_isShift d w).mono fun e w' ⟨he,hw⟩=>⟨by rw [he];exact ret_bool (by simpa using h),hw⟩
theorem below_undrew {w v:World} {B:Nat} (h:Below B w.drew v):Below B w v:=⟨h.os,h.tape,h.output,h.size,h.block⟩
theorem cell_far {v:World} {g b i j:Nat} {x y:Value} (h:v.cell? ⟨b,j,none⟩=some y) (hne:g≠b):(v.setCell ⟨g,i,none⟩ x).cell? ⟨b,j,none⟩=some y:=by
 rw [←h]
 exact World.cell?_of_block (Below.heap_setCell v _ x b (by simp;omega))
theorem cell_al {v:World} {a:Addr} {y:Value} {O:Obj} (h:v.cell? a=some y):(v.alloc O).cell? a=some y:=by
 rw [World.cell?_alloc_some _ _ _ (by rw [h];rfl),h]
theorem cell_new1 (w:World) (v:Value) (T:Nat):(w.alloc (.cells #[v] T)).cell? ⟨w.heap.size,0,none⟩=some v:=(Blk.new w T #[v]).cell 0
theorem grown_of_below {w v:World} {row:Option Nat} (h:Below w.heap.size w v):w.grownBy v row:=⟨h.os,h.tape,h.output,h.size,fun i hi _=>h.block i hi⟩
set_option maxHeartbeats 1600000 in
theorem impl_ShiftMatrix (W H:Int) (ad:Option Addr) (n cap:Nat) (xs:List Int) (dx dy:Int) (w:World) (hn:xs.length=n) (ha:Rd w ad xs) (hl:n≤9223372036854775807):
   Calls Tryz.prog 147 #[.agg #[.int .i64 W, .int .i64 H, .slice ad n cap], .int .i64 dx, .int .i64 dy] w (MatOut w (shiftF W H xs dx dy)):=by
 have HN:=Lib.hid hn
 have HA:=Lib.hid ha
 clear hn ha
 by_cases hp:matOk W H xs=true
 case neg=>
   have hp2:matOk W H xs=false:=by simpa using hp
   rw [shiftF_no (fun h=>hp h.1)]
   clear hp
   go_enter Tryz.func147,Tryz.ntmps147
   go_wp2_with fail
   refine (impl_IsMatrix _ _ _ _ _ xs _ HN.out (by exact (HA.out.alloc _).alloc _) hl).mono ?_
   rintro e w1 ⟨rfl,hb⟩
   have HB1:=Lib.hid ((Joins.below_alloc2 _ _ _).trans (hb.mono (by simp;omega)))
   have KP1:=Lib.hid (((Blk.new w 31 #[.int .i64 W, .int .i64 H, .slice ad n cap]).alloc _).below' hb)
   have KR1:Hid (Blk w1 (w.heap.size+1) 31 #[.int .i64 0, .int .i64 0, .slice none 0 0]):=by
     have h:=(Blk.new (w.alloc (.cells #[.int .i64 W, .int .i64 H, .slice ad n cap] 31)) 31 #[.int .i64 0, .int .i64 0, .slice none 0 0]).below' hb
     exact Lib.hid (by simpa using h)
   obtain ⟨l1,c0,c1,c2⟩:=KP1.out.c3
   obtain ⟨m1,d0,d1,d2⟩:=KR1.out.c3
   obtain ⟨f0,f1,f2⟩:=KR1.out.f3
   clear hb
   rw [hp2]
   go_wp2_with fail
   exact bodyPost_ret (v:= .agg #[.int .i64 0, .int .i64 0, .slice none 0 0]) (by simp [results,Tryz.results147,go_sem,d0,d1,d2]) rfl ⟨none,0,0,rfl,OwnA.none _ _,by omega,
     ((HB1.out.setCell (by first | (simp;done) | (simp;omega)) _).setCell (by first | (simp;done) | (simp;omega)) _).setCell (by first | (simp;done) | (simp;omega)) _⟩
 case pos=>
   by_cases hx:-1000≤dx∧dx≤1000
   case neg=>
     rw [shiftF_no (fun h=>hx ⟨h.2.1,h.2.2.1⟩)]
     have HX:=Lib.hid hx
     clear hx
     go_enter Tryz.func147,Tryz.ntmps147
     go_wp2_with fail
     refine (impl_IsMatrix _ _ _ _ _ xs _ HN.out (by exact (HA.out.alloc _).alloc _) hl).mono ?_
     rintro e w1 ⟨rfl,hb⟩
     have HB1:=Lib.hid ((Joins.below_alloc2 _ _ _).trans (hb.mono (by simp;omega)))
     have KP1:=Lib.hid (((Blk.new w 31 #[.int .i64 W, .int .i64 H, .slice ad n cap]).alloc _).below' hb)
     have KR1:Hid (Blk w1 (w.heap.size+1) 31 #[.int .i64 0, .int .i64 0, .slice none 0 0]):=by
       have h:=(Blk.new (w.alloc (.cells #[.int .i64 W, .int .i64 H, .slice ad n cap] 31)) 31 #[.int .i64 0, .int .i64 0, .slice none 0 0]).below' hb
       exact Lib.hid (by simpa using h)
     obtain ⟨l1,c0,c1,c2⟩:=KP1.out.c3
     obtain ⟨m1,d0,d1,d2⟩:=KR1.out.c3
     obtain ⟨f0,f1,f2⟩:=KR1.out.f3
     clear hb
     rw [hp]
     go_wp2_with fail
     refine (impl_isShift_no _ _ HX.out).mono ?_
     rintro e w2 ⟨rfl,rfl⟩
     go_wp2_with fail
     exact bodyPost_ret (v:= .agg #[.int .i64 0, .int .i64 0, .slice none 0 0]) (by simp [results,Tryz.results147,go_sem,d0,d1,d2]) rfl ⟨none,0,0,rfl,OwnA.none _ _,by omega,
       ((HB1.out.setCell (by first | (simp;done) | (simp;omega)) _).setCell (by first | (simp;done) | (simp;omega)) _).setCell (by first | (simp;done) | (simp;omega)) _⟩
   case pos=>
     obtain ⟨hx1,hx2⟩:=hx
     by_cases hy:-1000≤dy∧dy≤1000
     case neg=>
       rw [shiftF_no (fun h=>hy ⟨h.2.2.2.1,h.2.2.2.2⟩)]
       have HY:=Lib.hid hy
       clear hy
       go_enter Tryz.func147,Tryz.ntmps147
       go_wp2_with fail
       refine (impl_IsMatrix _ _ _ _ _ xs _ HN.out (by exact (HA.out.alloc _).alloc _) hl).mono ?_
       rintro e w1 ⟨rfl,hb⟩
       have HB1:=Lib.hid ((Joins.below_alloc2 _ _ _).trans (hb.mono (by simp;omega)))
       have KP1:=Lib.hid (((Blk.new w 31 #[.int .i64 W, .int .i64 H, .slice ad n cap]).alloc _).below' hb)
       have KR1:Hid (Blk w1 (w.heap.size+1) 31 #[.int .i64 0, .int .i64 0, .slice none 0 0]):=by
         have h:=(Blk.new (w.alloc (.cells #[.int .i64 W, .int .i64 H, .slice ad n cap] 31)) 31 #[.int .i64 0, .int .i64 0, .slice none 0 0]).below' hb
         exact Lib.hid (by simpa using h)
       obtain ⟨l1,c0,c1,c2⟩:=KP1.out.c3
       obtain ⟨m1,d0,d1,d2⟩:=KR1.out.c3
       obtain ⟨f0,f1,f2⟩:=KR1.out.f3
       clear hb
       rw [hp]
       go_wp2_with fail
       refine (impl_isShift_yes _ _ hx1 hx2).mono ?_
       rintro e w2 ⟨rfl,rfl⟩
       go_wp2_with fail
       refine (impl_isShift_no _ _ HY.out).mono ?_
       rintro e w2 ⟨rfl,rfl⟩
       go_wp2_with fail
       exact bodyPost_ret (v:= .agg #[.int .i64 0, .int .i64 0, .slice none 0 0]) (by simp [results,Tryz.results147,go_sem,d0,d1,d2]) rfl ⟨none,0,0,rfl,OwnA.none _ _,by omega,
         ((HB1.out.setCell (by first | (simp;done) | (simp;omega)) _).setCell (by first | (simp;done) | (simp;omega)) _).setCell (by first | (simp;done) | (simp;omega)) _⟩
     case pos=>
       obtain ⟨hy1,hy2⟩:=hy
       rw [shiftF_yes HN.out hp hx1 hx2 hy1 hy2]
       obtain ⟨hs,hq,hi,hd⟩:=matOk_bd HN.out hp
       obtain ⟨b1,b2,b3,b4,b5,b6⟩:=matSize_bd hs
       have HQ:=Lib.hid hq
       have HI:=Lib.hid hi
       have HD:=Lib.hid hd
       have HS:=Lib.hid hs
       have hn1:1≤n:=by omega
       have hn2:n≤256:=by omega
       clear hq hi hs hd
       go_enter Tryz.func147,Tryz.ntmps147
       go_wp2_with fail
       refine (impl_IsMatrix _ _ _ _ _ xs _ HN.out (by exact (HA.out.alloc _).alloc _) hl).mono ?_
       rintro e w1 ⟨rfl,hb⟩
       have HB1:=Lib.hid ((Joins.below_alloc2 _ _ _).trans (hb.mono (by simp;omega)))
       have KP1:=Lib.hid (((Blk.new w 31 #[.int .i64 W, .int .i64 H, .slice ad n cap]).alloc _).below' hb)
       have KR1:Hid (Blk w1 (w.heap.size+1) 31 #[.int .i64 0, .int .i64 0, .slice none 0 0]):=by
         have h:=(Blk.new (w.alloc (.cells #[.int .i64 W, .int .i64 H, .slice ad n cap] 31)) 31 #[.int .i64 0, .int .i64 0, .slice none 0 0]).below' hb
         exact Lib.hid (by simpa using h)
       obtain ⟨l1,c0,c1,c2⟩:=KP1.out.c3
       obtain ⟨m1,d0,d1,d2⟩:=KR1.out.c3
       obtain ⟨f0,f1,f2⟩:=KR1.out.f3
       clear hb
       rw [hp]
       go_wp2_with fail
       refine (impl_isShift_yes _ _ hx1 hx2).mono ?_
       rintro e w1b ⟨rfl,rfl⟩
       go_wp2_with fail
       refine (impl_isShift_yes _ _ hy1 hy2).mono ?_
       rintro e w1b ⟨rfl,rfl⟩
       go_wp2_with fail
       refine (impl_blankM W H n _ HS.out HQ.out).mono ?_
       rintro e w2 ⟨g,rfl,hg,ho,hb⟩
       have HB2:=Lib.hid (HB1.out.trans (hb.mono HB1.out.size))
       have KP2:=Lib.hid (KP1.out.below' hb)
       have KR2:=Lib.hid (KR1.out.below' hb)
       have HO:=Lib.hid ho
       have HG:Hid (w1.heap.size≤g):=Lib.hid hg
       clear hb hg ho c0 c1 c2 d0 d1 d2 f0 f1 f2
       obtain ⟨l2,c0,c1,c2⟩:=KP2.out.c3
       go_wp2_with fail
       go_loopw [31] (fun i wr=> ∃k:Nat,k≤n∧i= .int .i64 k∧Own wr g n n (filled (gen n (shiftG W H xs dx dy)) (List.replicate n 0) k)∧(w2.alloc (.cells #[.int .i64 W, .int .i64 H, .slice (some ⟨g,0,none⟩) n n] 31)).grownBy wr (some g)) (fun i _=>n - (intOf i).toNat)
       case atStart=>exact ⟨0,Nat.zero_le _,rfl,by rw [filled_zero];exact HO.out.alloc _,grown_refl _ _⟩
       case round=>
         obtain ⟨k,hk,rfl,ho,hg⟩:=hrel
         have HBr:=Lib.hid ((HB2.out.alloc HB2.out.size _).grown hg (by have:=HB2.out.size;simp;omega) (by intro k hk;cases hk;have:=HG.out;omega))
         have KO:=Lib.hid ((Blk.new w2 31 #[.int .i64 W, .int .i64 H, .slice (some ⟨g,0,none⟩) n n]).grown hg (by have:=HO.out.lt;simp;omega))
         obtain ⟨l0,o0,o1,o2⟩:=KO.out.c3
         have KP:=Lib.hid ((KP2.out.alloc _).grown hg (by have:=HG.out;have:=KP1.out.lt;simp;omega))
         obtain ⟨l9,p0,p1,p2⟩:=KP.out.c3
         by_cases hlt:k<n
         · have e1:0≤(k:Int) % W:=Int.emod_nonneg _ (by omega)
           have e2:(k:Int) % W<W:=Int.emod_lt_of_pos _ (by omega)
           have e3:0≤(k:Int)/W:=Int.ediv_nonneg (by omega) (by omega)
           have e4:(k:Int)/W≤k:=Int.ediv_le_self _ (by omega)
           have g2:wr.cell? ⟨g,k,none⟩=some (.int .i64 ((filled (gen n (shiftG W H xs dx dy)) (List.replicate n 0) k).getD k 0)):=ho.cell hlt
           have g3:wr.frozen? ⟨g,k,none⟩=false:=ho.frozen k
           have gl:=ho.lt
           have HO4:=Lib.hid ho
           clear ho
           have hW0:(W==0)=false:=by simp;omega
           have hW1: ¬W=0:=by omega
           have N1:g≠w.heap.size:=by have:=HG.out;have:=KR1.out.lt;omega
           have N2:g≠w2.heap.size:=by have:=HO.out.lt;omega
           go_wp2_with fail
           go_region_held3 (fun v=>v.cell? ⟨w.heap.size,0,none⟩=some (.int .i64 W)∧v.cell? ⟨w.heap.size,1,none⟩=some (.int .i64 H)∧v.cell? ⟨w.heap.size,2,none⟩=some (.slice ad n cap)∧v.cell? ⟨w2.heap.size,2,none⟩=some (.slice (some ⟨g,0,none⟩) n n))
             (first | exact ⟨p0,p1,p2,o2⟩ | exact ⟨(hq1.cell l9).trans p0,(hq1.cell l9).trans p1,(hq1.cell l9).trans p2,(hq1.cell l0).trans o2⟩ | exact ⟨cell_far y0 N1,cell_far y1 N1,cell_far y2 N1,cell_far y3 N2⟩)
             (first
               | (go_at_call 77;((with_reducible refine (impl_wrappedRank W H ad n cap xs _ _ _ HN.out (by exact (HA.out.below HBr.out).of_heap rfl) HQ.out b1 b3 hn2 b2 b4).mono ?_);rintro e v1 ⟨rfl,hq1⟩;have y0:=(hq1.cell l9).trans p0;have y1:=(hq1.cell l9).trans p1;have y2:=(hq1.cell l9).trans p2;have y3:=(hq1.cell l0).trans o2;have t2:=(hq1.cell gl).trans g2;have t3:=(hq1.frozen gl).trans g3)))
           have hv:(gen n (shiftG W H xs dx dy)).getD k 0=rankOf W H xs ((k:Int) % W - dx) ((k:Int)/W - dy):=gen_get _ _ _ hlt
           have hs:=((HO4.out.drewN 1).below hq1 gl).set k (rankOf W H xs ((k:Int) % W - dx) ((k:Int)/W - dy))
           rw [filled_succ (gen n (shiftG W H xs dx dy)) _ k _ (by rw [gen_len];exact hlt) (by simp;omega) hv] at hs
           have HSt:=Lib.hid hs
           have hg5:=grown_trans hg (grown_of_below (row:=some g) (below_undrew hq1))
           clear hs hv hg
           go_wp2_with fail
           go_roundw
           case rel=>exact ⟨k+1,by omega,by go_num,HSt.out,grown_set hg5 _⟩
           case measure=>simp [intOf];omega
         · obtain rfl:n=k:=by omega
           have KR:=Lib.hid ((KR2.out.alloc _).grown hg (by have:=HG.out;have:=KR2.out.lt;simp;omega))
           obtain ⟨r0,r1,r2,r3⟩:=KR.out.c3
           obtain ⟨q0,q1,q2⟩:=KR.out.f3
           rw [filled_at (gen n (shiftG W H xs dx dy)) _ n (by rw [gen_len]) (by simp)] at ho
           have HO3:=Lib.hid ho
           clear ho
           go_wp2_with fail
           exact bodyPost_ret (v:= .agg #[.int .i64 W, .int .i64 H, .slice (some ⟨g,0,none⟩) n n]) (by simp [results,Tryz.results147,go_sem,r1,r2,r3]) rfl
             ⟨_,_,_,rfl,OwnA.mk (((HO3.out.other (by have:=HG.out;simp;omega) _).other (by have:=HG.out;simp;omega) _).other (by have:=HG.out;simp;omega) _) (by have:=HG.out;omega),by omega,
               ((HBr.out.setCell (by first | (simp;done) | (simp;omega)) _).setCell (by first | (simp;done) | (simp;omega)) _).setCell (by first | (simp;done) | (simp;omega)) _⟩
structure PV where
 W:Int
 H:Int
 a:Option Addr
 n:Nat
 c:Nat
 ink:List Int
def PV.pic (p:PV):Pic:=⟨p.W,p.H,p.ink⟩
def PV.val (p:PV):Value:= .agg #[.int .i64 p.W, .int .i64 p.H, .slice p.a p.n p.c]
def PV.cells (p:PV):List Value:=[.int .i64 p.W, .int .i64 p.H, .slice p.a p.n p.c]
def noV:PV:=⟨0,0,none,0,0,[]⟩
def pv (L:List PV) (k:Nat):PV:=L.getD k noV
def flatV (L:List PV):List Value:=L.flatMap PV.cells
theorem flatV_len (L:List PV):(flatV L).length=L.length*3:=by
 induction L with
 | nil=>rfl
 | cons p r ih=>unfold flatV at ih⊢;simp only [List.flatMap_cons,List.length_append,ih];simp [PV.cells];omega
theorem flatV_at: ∀(L:List PV) (k:Nat),k<L.length→(flatV L)[k*3]?=some (.int .i64 (pv L k).W)∧(flatV L)[k*3+1]?=some (.int .i64 (pv L k).H)∧(flatV L)[k*3+2]?=some (.slice (pv L k).a (pv L k).n (pv L k).c)
 | [],k,h=>by simp at h
 | p::r,0,h=>by simp [flatV,PV.cells,pv]
 | p::r,k+1,h=>by
   have ih:=flatV_at r k (by simpa using h)
   have e1:(k+1)*3=k*3+1+1+1:=by omega
   have e2:flatV (p::r)= .int .i64 p.W:: .int .i64 p.H:: .slice p.a p.n p.c::flatV r:=by simp [flatV,PV.cells]
   rw [e2,e1]
   simpa [pv] using ih
theorem pv_snoc_lt {L:List PV} {p:PV} {k:Nat} (h:k<L.length):pv (L++ [p]) k=pv L k:=by
 unfold pv;simp [List.getD,List.getElem?_append_left h]
theorem pv_snoc {L:List PV} {p:PV}:pv (L++ [p]) L.length=p:=by
 unfold pv;simp [List.getD]
theorem pv_set_eq {L:List PV} {p:PV} {k:Nat} (h:k<L.length):pv (L.set k p) k=p:=by
 unfold pv;simp [List.getD,List.getElem?_set,h]
theorem pv_set_ne {L:List PV} {p:PV} {k j:Nat} (h:k≠j):pv (L.set k p) j=pv L j:=by
 unfold pv;simp [List.getD,List.getElem?_set,h]
def RdV (w:World) (ad:Option Addr) (L:List PV):Prop:=
 ∀k,k<L.length→ ∃b off,ad=some ⟨b,off,none⟩∧b<w.heap.size∧w.cell? ⟨b,off+k*3,none⟩=some (.int .i64 (pv L k).W)∧w.cell? ⟨b,off+k*3+1,none⟩=some (.int .i64 (pv L k).H)∧w.cell? ⟨b,off+k*3+2,none⟩=some (.slice (pv L k).a (pv L k).n (pv L k).c)∧(pv L k).ink.length=(pv L k).n∧Rd w (pv L k).a (pv L k).ink
namespace RdV
variable {w w' : World} {ad : Option Addr} {L : List PV}
theorem nil (w:World) (ad:Option Addr):RdV w ad []:=fun _ hk=>by simp at hk
theorem below (h:RdV w ad L) (hb:Below w.heap.size w w'):RdV w' ad L:=fun k hk=>by
 obtain ⟨b,off,h1,h2,h3,h4,h5,h6,h7⟩:=h k hk
 exact ⟨b,off,h1,Nat.lt_of_lt_of_le h2 hb.size,(hb.cell (p:=⟨b,off+k*3,none⟩) h2).trans h3,(hb.cell (p:=⟨b,off+k*3+1,none⟩) h2).trans h4,(hb.cell (p:=⟨b,off+k*3+2,none⟩) h2).trans h5,h6,h7.below hb⟩
theorem alloc (h:RdV w ad L) (o:Obj):RdV (w.alloc o) ad L:=h.below (Joins.below_alloc1 w o)
theorem drew (h:RdV w ad L):RdV w.drew ad L:=h.below (Below.refl _ _).drew
theorem cellsAt (h:RdV w ad L) {k:Nat} (hk:k<L.length): ∃b off,ad=some ⟨b,off,none⟩∧b<w.heap.size∧w.cell? ⟨b,off+k*3,none⟩=some (.int .i64 (pv L k).W)∧w.cell? ⟨b,off+k*3+1,none⟩=some (.int .i64 (pv L k).H)∧w.cell? ⟨b,off+k*3+2,none⟩=some (.slice (pv L k).a (pv L k).n (pv L k).c):=by
 obtain ⟨b,off,h1,h2,h3,h4,h5,_⟩:=h k hk
 exact ⟨b,off,h1,h2,h3,h4,h5⟩
theorem len (h:RdV w ad L) {k:Nat} (hk:k<L.length):(pv L k).ink.length=(pv L k).n:=by
 obtain ⟨b,off,_,_,_,_,_,h6,_⟩:=h k hk
 exact h6
theorem rd (h:RdV w ad L) {k:Nat} (hk:k<L.length):Rd w (pv L k).a (pv L k).ink:=by
 obtain ⟨b,off,_,_,_,_,_,_,h7⟩:=h k hk
 exact h7
end RdV
def RowV (w:World) (g cap:Nat) (L:List PV):Prop:=
 ∃cur,w.heap[g]?=some (.cells cur 27 (0,0))∧L.length≤cap∧cap≤maxLen∧cur.size=cap*3∧cur.toList.take (L.length*3)=flatV L
namespace RowV
variable {w w' : World} {g cap : Nat} {L : List PV}
theorem lt (h:RowV w g cap L):g<w.heap.size:=by
 obtain ⟨cur,hg,_⟩:=h
 exact (Array.getElem?_eq_some_iff.1 hg).1
theorem cellAt (h:RowV w g cap L) {j:Nat} (hj:j<L.length*3):w.cell? ⟨g,j,none⟩=(flatV L)[j]?:=by
 obtain ⟨cur,hg,_,_,_,ht⟩:=h
 rw [cell_of_row w g j cur 27 (0,0) hg,←ht,List.getElem?_take,if_pos hj]
 simp
theorem frozen (h:RowV w g cap L) (j:Nat):w.frozen? ⟨g,j,none⟩=false:=by
 obtain ⟨cur,hg,_⟩:=h
 exact frozen_of_row w g j cur 27 hg
theorem of_block (h:RowV w g cap L) (hb:w'.heap[g]?=w.heap[g]?):RowV w' g cap L:=by
 obtain ⟨cur,hg,r⟩:=h
 exact ⟨cur,hb.trans hg,r⟩
theorem below (h:RowV w g cap L) (hb:Below w.heap.size w w'):RowV w' g cap L:=h.of_block (hb.block g h.lt)
theorem other (h:RowV w g cap L) {a:Addr} (ha:a.block≠g) (u:Value):RowV (w.setCell a u) g cap L:=h.of_block (Below.heap_setCell w a u g (by omega))
theorem setAt (h:RowV w g cap L) {k j:Nat} {p:PV} (hk:k<L.length) (v:Value) (hf:(flatV L).set j v=flatV (L.set k p)):RowV (w.setCell ⟨g,j,none⟩ v) g cap (L.set k p):=by
 obtain ⟨cur,hg,h1,h2,h3,ht⟩:=h
 refine ⟨cur.setIfInBounds j v,heap_setCell_same w g j cur _ _ hg,by simpa using h1,h2,by simpa using h3,?_⟩
 rw [List.length_set,Array.toList_setIfInBounds,←hf,←ht,List.take_set]
end RowV
theorem flat_set0: ∀(L:List PV) (k:Nat) (x:Int),k<L.length→(flatV L).set (k*3) (.int .i64 x)=flatV (L.set k {pv L k with W:=x})
 | [],k,x,h=>by simp at h
 | p::r,0,x,h=>by simp [flatV,PV.cells,pv]
 | p::r,k+1,x,h=>by
   have ih:=flat_set0 r k x (by simpa using h)
   have e1:(k+1)*3=k*3+1+1+1:=by omega
   have e2: ∀(q:PV) (r:List PV),flatV (q::r)= .int .i64 q.W:: .int .i64 q.H:: .slice q.a q.n q.c::flatV r:=fun q r=>by simp [flatV,PV.cells]
   rw [e1,e2]
   simp only [List.set_cons_succ,ih]
   rw [e2]
   simp [pv]
theorem flat_set1: ∀(L:List PV) (k:Nat) (x:Int),k<L.length→(flatV L).set (k*3+1) (.int .i64 x)=flatV (L.set k {pv L k with H:=x})
 | [],k,x,h=>by simp at h
 | p::r,0,x,h=>by simp [flatV,PV.cells,pv]
 | p::r,k+1,x,h=>by
   have ih:=flat_set1 r k x (by simpa using h)
   have e1:(k+1)*3+1=k*3+1+1+1+1:=by omega
   have e2: ∀(q:PV) (r:List PV),flatV (q::r)= .int .i64 q.W:: .int .i64 q.H:: .slice q.a q.n q.c::flatV r:=fun q r=>by simp [flatV,PV.cells]
   rw [e1,e2]
   simp only [List.set_cons_succ]
   rw [ih,e2]
   simp [pv]
structure OwnV (w:World) (B:Nat) (ad:Option Addr) (n cap:Nat) (L:List PV):Prop where
 len:L.length=n
 row:(ad=none∧n=0∧cap=0)∨ ∃g,ad=some ⟨g,0,none⟩∧B≤g∧RowV w g cap L
 ink: ∀k,k<n→OwnA w B (pv L k).a (pv L k).n (pv L k).c (pv L k).ink
 off: ∀k b,k<n→blockOf (pv L k).a=some b→blockOf ad≠some b
 apart: ∀j k b,j<k→k<n→blockOf (pv L j).a=some b→blockOf (pv L k).a≠some b
namespace OwnV
variable {w w' : World} {B n cap : Nat} {ad : Option Addr} {L : List PV}
theorem nil (w:World) (B:Nat):OwnV w B none 0 0 []:=⟨rfl, .inl ⟨rfl,rfl,rfl⟩,fun k hk=>by omega,fun k b hk=>by omega,fun j k b h1 hk=>by omega⟩
theorem rd (h:OwnV w B ad n cap L):RdV w ad L:=fun k hk=>by
 have hk':k<n:=by rw [←h.len];exact hk
 rcases h.row with ⟨_,h0,_⟩ | ⟨g,hg,_,hr⟩
 · omega
 · obtain ⟨e0,e1,e2⟩:=flatV_at L k hk
   refine ⟨g,0,hg,hr.lt,?_,?_,?_,(h.ink k hk').len,(h.ink k hk').rd⟩
   · rw [Nat.zero_add,hr.cellAt (by omega),e0]
   · rw [Nat.zero_add,hr.cellAt (by omega),e1]
   · rw [Nat.zero_add,hr.cellAt (by omega),e2]
theorem below (h:OwnV w B ad n cap L) (hb:Below w.heap.size w w'):OwnV w' B ad n cap L:=
 ⟨h.len,by
   rcases h.row with h0 | ⟨g,hg,hB,hr⟩
   · exact .inl h0
   · exact .inr ⟨g,hg,hB,hr.below hb⟩,fun k hk=>(h.ink k hk).below' hb,h.off,h.apart⟩
theorem alloc (h:OwnV w B ad n cap L) (o:Obj):OwnV (w.alloc o) B ad n cap L:=h.below (Joins.below_alloc1 w o)
theorem drew (h:OwnV w B ad n cap L):OwnV w.drew B ad n cap L:=h.below (Below.refl _ _).drew
theorem mono {B':Nat} (h:OwnV w B ad n cap L) (hB:B'≤B):OwnV w B' ad n cap L:=
 ⟨h.len,by
   rcases h.row with h0 | ⟨g,hg,h1,hr⟩
   · exact .inl h0
   · exact .inr ⟨g,hg,by omega,hr⟩,fun k hk=>(h.ink k hk).mono hB,h.off,h.apart⟩
def blocks (ad:Option Addr) (L:List PV) (i:Nat):Prop:=blockOf ad=some i∨ ∃k,k<L.length∧blockOf (pv L k).a=some i
theorem bd (h:OwnV w B ad n cap L): ∀i,blocks ad L i→B≤i∧i<w.heap.size:=by
 rintro i (hi | ⟨k,hk,hi⟩)
 · rcases h.row with ⟨h0,_⟩ | ⟨g,hg,h1,hr⟩
   · rw [h0] at hi;cases hi
   · rw [hg] at hi
     simp only [blockOf,Option.some.injEq] at hi
     subst hi
     exact ⟨h1,hr.lt⟩
 · exact (h.ink k (by rw [←h.len];exact hk)).bd i hi
end OwnV
end Go.Proofs.YtmikajnpgcabfaaGreatDoor
namespace Go.Proofs.YtmikajnpgcabfaaGreatDoor
set_option linter.unusedVariables false
set_option linter.unusedSimpArgs false
structure Prt where
 dx:Int
 dy:Int
 wt:Int
def noPrt:Prt:=⟨0,0,0⟩
def Prt.nums (p:Prt):List Int:=[p.dx,p.dy,p.wt]
def flat (ks:List Prt):List Int:=ks.flatMap Prt.nums
def prt (ks:List Prt) (k:Nat):Prt:=ks.getD k noPrt
theorem flat_len (ks:List Prt):(flat ks).length=3*ks.length:=by
 induction ks with
 | nil=>rfl
 | cons p ks ih=>simp only [flat,List.flatMap_cons,List.length_append,List.length_cons] at ih⊢;rw [ih];simp [Prt.nums];omega
theorem flat_cons (p:Prt) (ks:List Prt):flat (p::ks)=p.dx::p.dy::p.wt::flat ks:=rfl
theorem prt_cons (p:Prt) (ks:List Prt) (k:Nat):prt (p::ks) (k+1)=prt ks k:=by simp [prt]
theorem flat_at (ks:List Prt) (k:Nat) (h:k<ks.length):(flat ks).getD (3*k) 0=(prt ks k).dx∧(flat ks).getD (3*k+1) 0=(prt ks k).dy∧(flat ks).getD (3*k+2) 0=(prt ks k).wt:=by
 induction ks generalizing k with
 | nil=>simp at h
 | cons p ks ih=>
   cases k with
   | zero=>exact ⟨rfl,rfl,rfl⟩
   | succ k=>
     have:=ih k (by simpa using h)
     rw [flat_cons,prt_cons,show 3*(k+1)=3*k+1+1+1 by omega]
     simpa [List.getD] using this
theorem take_prt (ks:List Prt) (k:Nat) (h:k<ks.length):ks.take (k+1)=ks.take k++ [prt ks k]:=by
 rw [List.take_succ_eq_append_getElem h]
 simp [prt,h]
def partOk (p:Prt):Bool:=decide (-4≤p.dx∧p.dx≤4∧0≤p.dy∧p.dy≤4∧(p.dy=0→1≤p.dx)∧1≤p.wt∧p.wt≤100)
def placed (L:List Prt) (x y:Int):Bool:=L.any (fun q=>decide (q.dx=x∧q.dy=y))
def kernTo (ks:List Prt) (k:Nat):Bool:=(List.range k).all (fun i=>partOk (prt ks i) && !placed (ks.take i) (prt ks i).dx (prt ks i).dy)
def kernOk (ks:List Prt):Bool:=decide (1≤ks.length∧ks.length≤12) && kernTo ks ks.length
theorem placed_nil (x y:Int):placed [] x y=false:=rfl
theorem placed_take (ks:List Prt) (k:Nat) (x y:Int) (h:k<ks.length):placed (ks.take (k+1)) x y=(placed (ks.take k) x y || decide ((prt ks k).dx=x∧(prt ks k).dy=y)):=by
 unfold placed
 rw [take_prt ks k h,List.any_append]
 simp
theorem placed_le {ks:List Prt} {k m:Nat} {x y:Int} (h:placed (ks.take k) x y=true) (hk:k≤m):placed (ks.take m) x y=true:=by
 unfold placed at*
 rw [List.any_eq_true] at*
 obtain ⟨q,hq,h2⟩:=h
 refine ⟨q,?_,h2⟩
 have e:ks.take k=(ks.take m).take k:=by rw [List.take_take];congr 1;omega
 rw [e] at hq
 exact List.mem_of_mem_take hq
theorem kernTo_succ (ks:List Prt) (k:Nat):kernTo ks (k+1)=(kernTo ks k && (partOk (prt ks k) && !placed (ks.take k) (prt ks k).dx (prt ks k).dy)):=by
 unfold kernTo
 rw [List.range_succ,List.all_append]
 simp
theorem kernTo_le {ks:List Prt} {k m:Nat} (h:kernTo ks m=true) (hk:k≤m):kernTo ks k=true:=by
 unfold kernTo at*
 rw [List.all_eq_true] at*
 intro i hi
 exact h i (by simp at hi⊢;omega)
theorem kernTo_no {ks:List Prt} {k m:Nat} (hk:k<m) (h:(partOk (prt ks k) && !placed (ks.take k) (prt ks k).dx (prt ks k).dy)=false):kernTo ks m=false:=by
 by_cases c:kernTo ks m=true
 · have:=kernTo_le c (show k+1≤m by omega)
   rw [kernTo_succ,h] at this
   simp at this
 · simpa using c
theorem kernOk_no1 {ks:List Prt} {n:Nat} (hn:ks.length=n) (h: ¬(1≤n∧n≤12)):kernOk ks=false:=by unfold kernOk;rw [hn,decide_eq_false h];rfl
theorem kernOk_no2 {ks:List Prt} {n k:Nat} (hn:ks.length=n) (hk:k<n) (h:(partOk (prt ks k) && !placed (ks.take k) (prt ks k).dx (prt ks k).dy)=false):kernOk ks=false:=by
 unfold kernOk;rw [hn,kernTo_no hk h];simp
theorem kernOk_yes {ks:List Prt} {n:Nat} (hn:ks.length=n) (h1:1≤n) (h2:n≤12) (h:kernTo ks n=true):kernOk ks=true:=by
 unfold kernOk;rw [hn,h,decide_eq_true ⟨h1,h2⟩];rfl
theorem kernOk_bd {ks:List Prt} {n:Nat} (hn:ks.length=n) (h:kernOk ks=true):1≤n∧n≤12∧kernTo ks n=true:=by
 unfold kernOk at h
 rw [hn] at h
 simp only [Bool.and_eq_true,decide_eq_true_eq] at h
 exact ⟨h.1.1,h.1.2,h.2⟩
theorem partOk_bd {p:Prt} (h:partOk p=true):-4≤p.dx∧p.dx≤4∧0≤p.dy∧p.dy≤4∧(p.dy=0→1≤p.dx)∧1≤p.wt∧p.wt≤100:=of_decide_eq_true h
theorem kern_part {ks:List Prt} {n k:Nat} (h:kernTo ks n=true) (hk:k<n):partOk (prt ks k)=true∧placed (ks.take k) (prt ks k).dx (prt ks k).dy=false:=by
 have:=kernTo_le h (show k+1≤n by omega)
 rw [kernTo_succ] at this
 simp only [Bool.and_eq_true,Bool.not_eq_true'] at this
 exact this.2
def wtTo (ks:List Prt):Nat→Int
 | 0=>0
 | k+1=>wtTo ks k+(prt ks k).wt
def weightF (ks:List Prt):Int:=if kernOk ks=true then wtTo ks ks.length else 0
theorem weightF_no {ks:List Prt} (h: ¬kernOk ks=true):weightF ks=0:=by unfold weightF;rw [if_neg h]
theorem weightF_yes {ks:List Prt} {n:Nat} (hn:ks.length=n) (h:kernOk ks=true):weightF ks=wtTo ks n:=by unfold weightF;rw [if_pos h,hn]
theorem wtTo_bd {ks:List Prt} {n:Nat} (h:kernTo ks n=true) (k:Nat) (hk:k≤n):(k:Int)≤wtTo ks k∧wtTo ks k≤100*k:=by
 induction k with
 | zero=>simp [wtTo]
 | succ k ih=>
   have h1:=ih (by omega)
   have h2:=partOk_bd (kern_part h (show k<n by omega)).1
   simp only [wtTo]
   omega
def shareB (ks:List Prt) (W e:Int) (k:Nat):Int:=e*(prt ks k).wt/W
def shSum (ks:List Prt) (W e:Int):Nat→Int
 | 0=>0
 | k+1=>shSum ks W e k+shareB ks W e k
def sharesG (ks:List Prt) (W e:Int):List Int:=(gen ks.length (shareB ks W e)).set 0 (shareB ks W e 0+(e - shSum ks W e ks.length))
theorem sharesG_len (ks:List Prt) (W e:Int):(sharesG ks W e).length=ks.length:=by simp [sharesG,gen_len]
theorem sharesG_at (ks:List Prt) (W e:Int) (k:Nat) (hk:k<ks.length):(sharesG ks W e).getD k 0=shareB ks W e k+(if k=0 then e - shSum ks W e ks.length else 0):=by
 unfold sharesG
 rw [getD_set _ _ _ _ (by rw [gen_len];omega)]
 by_cases h:k=0
 · subst h;simp
 · rw [if_neg (by omega),if_neg h,gen_get _ _ _ hk];omega
theorem shareB_bd {ks:List Prt} {n:Nat} {e:Int} (h:kernTo ks n=true) (k:Nat) (hk:k<n) (hn:1≤n):
   shareB ks (wtTo ks n) e k*wtTo ks n≤e*(prt ks k).wt∧e*(prt ks k).wt<shareB ks (wtTo ks n) e k*wtTo ks n+wtTo ks n:=by
 have h1:=(wtTo_bd h n (Nat.le_refl _)).1
 unfold shareB
 have a:=Int.emod_add_mul_ediv (e*(prt ks k).wt) (wtTo ks n)
 have b:=Int.emod_nonneg (e*(prt ks k).wt) (show wtTo ks n≠0 by omega)
 have c:=Int.emod_lt_of_pos (e*(prt ks k).wt) (show 0<wtTo ks n by omega)
 rw [Int.mul_comm (e*(prt ks k).wt/wtTo ks n)]
 omega
theorem mul_abs {e b c:Int} (h1:1≤b) (h2:b≤100) (hc:0≤c) (he1:-c≤e) (he2:e≤c):-(c*100)≤e*b∧e*b≤c*100:=by
 have m1:=Int.mul_le_mul_of_nonneg_left h2 hc
 have m2:=Int.mul_le_mul_of_nonneg_right he2 (show 0≤b by omega)
 have m3:=Int.mul_le_mul_of_nonneg_right he1 (show 0≤b by omega)
 rw [Int.neg_mul] at m3
 omega
theorem shareB_wide {ks:List Prt} {n:Nat} {e:Int} (h:kernTo ks n=true) (k:Nat) (hk:k<n) (he1:-1000000≤e) (he2:e≤1000000):
   -100000000≤e*(prt ks k).wt∧e*(prt ks k).wt≤100000000∧-100000000≤shareB ks (wtTo ks n) e k∧shareB ks (wtTo ks n) e k≤100000000:=by
 have h1:=(wtTo_bd h n (Nat.le_refl _)).1
 have h2:=partOk_bd (kern_part h hk).1
 obtain ⟨m1,m2⟩:=mul_abs (e:=e) (c:=1000000) h2.2.2.2.2.2.1 h2.2.2.2.2.2.2 (by omega) he1 he2
 refine ⟨by omega,by omega,?_,?_⟩
 · unfold shareB
   exact Int.le_ediv_of_mul_le (by omega) (by
     have:=Int.mul_le_mul_of_nonneg_left (show (1:Int)≤wtTo ks n by omega) (show (0:Int)≤100000000 by omega)
     rw [Int.neg_mul];omega)
 · unfold shareB
   exact Int.ediv_le_of_le_mul (by omega) (by
     have:=Int.mul_le_mul_of_nonneg_left (show (1:Int)≤wtTo ks n by omega) (show (0:Int)≤100000000 by omega)
     omega)
theorem shSum_wide {ks:List Prt} {n:Nat} {e:Int} (h:kernTo ks n=true) (he1:-1000000≤e) (he2:e≤1000000) (k:Nat) (hk:k≤n):-(100000000*(k:Int))≤shSum ks (wtTo ks n) e k∧shSum ks (wtTo ks n) e k≤100000000*k:=by
 induction k with
 | zero=>simp [shSum]
 | succ k ih=>
   have h1:=ih (by omega)
   have h2:=shareB_wide h k (by omega) he1 he2
   simp only [shSum]
   omega
theorem shSum_mul {ks:List Prt} {n:Nat} {e:Int} (h:kernTo ks n=true) (k:Nat) (hk:k≤n):shSum ks (wtTo ks n) e k*wtTo ks n≤e*wtTo ks k∧e*wtTo ks k≤shSum ks (wtTo ks n) e k*wtTo ks n+(k:Int)*(wtTo ks n - 1):=by
 induction k with
 | zero=>simp [shSum,wtTo]
 | succ k ih=>
   obtain ⟨a,b⟩:=ih (by omega)
   obtain ⟨c,d⟩:=shareB_bd (e:=e) h k (by omega) (by omega)
   simp only [shSum,wtTo]
   rw [Int.add_mul,Int.mul_add]
   have e1:((k+1:Nat):Int)*(wtTo ks n - 1)=(k:Int)*(wtTo ks n - 1)+(wtTo ks n - 1):=by
     rw [Int.natCast_add,Int.add_mul];simp
   rw [e1]
   omega
theorem shSum_near {ks:List Prt} {n:Nat} {e:Int} (h:kernTo ks n=true) (hn:1≤n):shSum ks (wtTo ks n) e n≤e∧e≤shSum ks (wtTo ks n) e n+n - 1:=by
 obtain ⟨a,b⟩:=shSum_mul (e:=e) h n (Nat.le_refl _)
 have h1:=(wtTo_bd h n (Nat.le_refl _)).1
 have hW:0<wtTo ks n:=by omega
 refine ⟨Int.le_of_mul_le_mul_right a hW,?_⟩
 have c:e*wtTo ks n<(shSum ks (wtTo ks n) e n+n)*wtTo ks n:=by
   rw [Int.add_mul]
   rw [Int.mul_sub] at b
   omega
 have:=Int.lt_of_mul_lt_mul_right c (by omega)
 omega
end Go.Proofs.YtmikajnpgcabfaaGreatDoor
