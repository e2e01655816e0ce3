/-
  Contracts and plain facts on which the theorem of this claim rests, text 6.
-/
import Derived.Deep.AppendLies
import Derived.Deep.DrawnRows
import Derived.Deep.RegionHeld3
import Derived.Deep.RegionLaw
import Derived.Lib.Hide
import Derived.OrdersHeld
import Derived.StillTailTactics
import Derived.Test.YtanccoopbgamdaaGreatDoorDC5
namespace Go.Proofs.YtanccoopbgamdaaGreatDoor
open Go Go.RowKit
set_option linter.unusedVariables false
set_option linter.unusedSimpArgs false
structure Kp (p:Prop):Prop where
 out:p
def Nth (i:Nat):Prop:=i=i
section
variable {P : Program} {ops : Array Oper} {Q : Exit → Act → World → Prop} {md : Region.Mode} {S : World → Prop} {n i : Nat} {oi : Oper} {v : Value} {fuel : Nat} {listed : Array Bool} {a : Act} {w : World}
theorem takeN (_:Nth i) (hi:ops[i]? =some oi) (hs:Region.noSelect ops=true) (hf:Region.free md ops listed i=true) (hr:(Region.ready md ops listed).contains i=true)
   (hQ: ∀c a w,Q (.panic c) (a.put oi.dst v) w→Q (.panic c) a w) (hy:YieldsIf P ops S oi v a) (hS:S w)
   (h:wpAnyH P md ops Q S fuel (listed.setIfInBounds i true) (a.put oi.dst v) w):wpAnyH P md ops Q S (fuel+1) listed a w:=wpAnyH_take hi hs hf hr hQ hy hS h
theorem takeM (_:Nth i) (hi:ops[i]? =some oi) (hs:Region.noSelect ops=true) (hf:Region.free md ops listed i=true) (hr:(Region.ready md ops listed).contains i=true)
   (ht:(decide (i<n) && Region.sinkB md ops n && Region.chainB md ops n && decide (n<ops.size) && headB md ops n listed)=true)
   (hQ: ∀c a w,Q (.panic c) (a.put oi.dst v) w→Q (.panic c) a w) (hy:YieldsIf P ops S oi v a) (hS:S w)
   (h:wpAnyT P md ops Q S n fuel (listed.setIfInBounds i true) (a.put oi.dst v) w):wpAnyT P md ops Q S n (fuel+1) listed a w:=wpAnyT_take hi hs hf hr ht hQ hy hS h
end
theorem hTake (i:Nat) {G R:Prop} (k:R) (h:Nth i→Kp R→G:=by
   intro hi hk;(refine' takeN hi (v:=?_) rfl (by kernel_rfl) (by kernel_rfl) (by kernel_rfl) (fun _ _ _ h=>h) (Or.inl ⟨by rfl,?_⟩) (by assumption) ?_;rotate_left;(· (intro w hSw;(try dsimp only at hSw);go_simp;try with_reducible rfl));(try simp only [Act.put,List.setIfInBounds_toArray,List.set_cons_zero,List.set_cons_succ]));exact hk.out):G:=h rfl ⟨k⟩
theorem hSkip (i:Nat) {G R:Prop} (k:R) (h:Nth i→Kp R→G:=by
   intro hi hk;(refine' takeN hi (v:=undef) rfl (by kernel_rfl) (by kernel_rfl) (by kernel_rfl) (fun _ _ _ h=>h) (Or.inr ⟨by rfl,rfl⟩) (by assumption) ?_;(try simp only [Act.put,List.setIfInBounds_toArray,List.set_cons_zero,List.set_cons_succ]));exact hk.out):G:=h rfl ⟨k⟩
theorem tTake (i:Nat) {G R:Prop} (k:R) (h:Nth i→Kp R→G:=by
   intro hi hk;(refine' takeM hi (v:=?_) rfl (by kernel_rfl) (by kernel_rfl) (by kernel_rfl) (by kernel_rfl) (fun _ _ _ h=>h) (Or.inl ⟨by rfl,?_⟩) (by assumption) ?_;rotate_left;(· (intro w hSw;(try dsimp only at hSw);go_simp;try with_reducible rfl));(try simp only [Act.put,List.setIfInBounds_toArray,List.set_cons_zero,List.set_cons_succ]));exact hk.out):G:=h rfl ⟨k⟩
theorem simpR {G R:Prop} (k:R) (h:Kp R→G:=by
   intro hk;(try simp only [List.getElem_toArray,List.getElem_cons_succ,List.getElem_cons_zero,Act.put,List.setIfInBounds_toArray,List.set_cons_zero,List.set_cons_succ]);exact hk.out):G:=h ⟨k⟩
section
variable {P : Program} {ops : Array Oper} {Q : Exit → Act → World → Prop} {md : Region.Mode} {S : World → Prop} {n : Nat} {o : Oper} {fuel : Nat} {listed : Array Bool} {a : Act} {w : World}
theorem hOne (i:Nat) (h: ∀K':Act→World→Prop,Shut (∀a w,S w→(S w→wpAnyH P md ops Q S fuel (listed.setIfInBounds i true) a w)→K' a w)→if Region.wanted o (yielded ops a.tmps)=true then Oper.wp P o a w K' Q else K' (a.put o.dst undef) w)
   (hr:Region.ready md ops listed=[i]:=by kernel_rfl) (ho:ops[i]? =some o:=by rfl):wpAnyH P md ops Q S (fuel+1) listed a w:=
 wpAnyH_ready hr (by simp) (AllReadyH.cons ho h AllReadyH.nil)
theorem tOne (i:Nat) (h: ∀K':Act→World→Prop,Shut (∀a w,(i<n→S w)→((i<n→S w)→wpAnyT P md ops Q S n fuel (listed.setIfInBounds i true) a w)→K' a w)→if Region.wanted o (yielded ops a.tmps)=true then Oper.wp P o a w K' Q else K' (a.put o.dst undef) w)
   (hr:Region.ready md ops listed=[i]:=by kernel_rfl) (ho:ops[i]? =some o:=by rfl):wpAnyT P md ops Q S n (fuel+1) listed a w:=wpAnyT_one hr ho h
end
end Go.Proofs.YtanccoopbgamdaaGreatDoor
namespace Go.Proofs.YtanccoopbgamdaaGreatDoor
open Go.RowKit
set_option linter.unusedVariables false
set_option linter.unusedSimpArgs false
attribute [local go_sem ↓] Go.wp_at_zero Go.wp_at_succ
set_option maxHeartbeats 400000 in
theorem impl_isShift (d:Int) (w:World):
   Calls Tryz.prog 131 #[.int .i64 d] w fun e w'=>e= .returned (.bool (decide (-1000≤d∧d≤1000)))∧w=w':=by
 go_enter Tryz.func131,Tryz.ntmps131
 go_wp2
 all_goals (go_ret;exact ⟨ret_bool (by first | (simp [*];done) | (simp [*];omega) | (simp;intros;omega)),rfl⟩)
theorem impl_isShift_yes (d:Int) (w:World) (h1:-1000≤d) (h2:d≤1000):
   Calls Tryz.prog 131 #[.int .i64 d] w fun e w'=>e= .returned (.bool true)∧w=w':=
 (impl_isShift d w).mono fun e w' ⟨he,hw⟩=>⟨by rw [he];exact ret_bool (by simp [h1,h2]),hw⟩
theorem impl_isShift_no (d:Int) (w:World) (h: ¬(-1000≤d∧d≤1000)):
   Calls Tryz.prog 131 #[.int .i64 d] w fun e w'=>e= .returned (.bool false)∧w=w':=
 (impl_isShift d w).mono fun e w' ⟨he,hw⟩=>⟨by rw [he];exact ret_bool (by simpa using h),hw⟩
theorem below_undrew {w v:World} {B:Nat} (h:Below B w.drew v):Below B w v:=⟨h.os,h.tape,h.output,h.size,h.block⟩
theorem cell_far {v:World} {g b i j:Nat} {x y:Value} (h:v.cell? ⟨b,j,none⟩=some y) (hne:g≠b):(v.setCell ⟨g,i,none⟩ x).cell? ⟨b,j,none⟩=some y:=by
 rw [←h]
 exact World.cell?_of_block (Below.heap_setCell v _ x b (by simp;omega))
theorem cell_al {v:World} {a:Addr} {y:Value} {O:Obj} (h:v.cell? a=some y):(v.alloc O).cell? a=some y:=by
 rw [World.cell?_alloc_some _ _ _ (by rw [h];rfl),h]
theorem cell_new1 (w:World) (v:Value) (T:Nat):(w.alloc (.cells #[v] T)).cell? ⟨w.heap.size,0,none⟩=some v:=(Blk.new w T #[v]).cell 0
theorem grown_of_below {w v:World} {row:Option Nat} (h:Below w.heap.size w v):w.grownBy v row:=⟨h.os,h.tape,h.output,h.size,fun i hi _=>h.block i hi⟩
set_option maxHeartbeats 1600000 in
theorem impl_ShiftMatrix (W H:Int) (ad:Option Addr) (n cap:Nat) (xs:List Int) (dx dy:Int) (w:World) (hn:xs.length=n) (ha:Rd w ad xs) (hl:n≤9223372036854775807):
   Calls Tryz.prog 98 #[.agg #[.int .i64 W, .int .i64 H, .slice ad n cap], .int .i64 dx, .int .i64 dy] w (MatOut w (shiftF W H xs dx dy)):=by
 have HN:=Lib.hid hn
 have HA:=Lib.hid ha
 clear hn ha
 by_cases hp:matOk W H xs=true
 case neg=>
   have hp2:matOk W H xs=false:=by simpa using hp
   rw [shiftF_no (fun h=>hp h.1)]
   clear hp
   go_enter Tryz.func98,Tryz.ntmps98
   go_wp2_with fail
   refine (impl_IsMatrix _ _ _ _ _ xs _ HN.out (by exact (HA.out.alloc _).alloc _) hl).mono ?_
   rintro e w1 ⟨rfl,hb⟩
   have HB1:=Lib.hid ((Joins.below_alloc2 _ _ _).trans (hb.mono (by simp;omega)))
   have KP1:=Lib.hid (((Blk.new w 31 #[.int .i64 W, .int .i64 H, .slice ad n cap]).alloc _).below' hb)
   have KR1:Hid (Blk w1 (w.heap.size+1) 31 #[.int .i64 0, .int .i64 0, .slice none 0 0]):=by
     have h:=(Blk.new (w.alloc (.cells #[.int .i64 W, .int .i64 H, .slice ad n cap] 31)) 31 #[.int .i64 0, .int .i64 0, .slice none 0 0]).below' hb
     exact Lib.hid (by simpa using h)
   obtain ⟨l1,c0,c1,c2⟩:=KP1.out.c3
   obtain ⟨m1,d0,d1,d2⟩:=KR1.out.c3
   obtain ⟨f0,f1,f2⟩:=KR1.out.f3
   clear hb
   rw [hp2]
   go_wp2_with fail
   exact bodyPost_ret (v:= .agg #[.int .i64 0, .int .i64 0, .slice none 0 0]) (by simp [results,Tryz.results98,go_sem,d0,d1,d2]) rfl ⟨none,0,0,rfl,OwnA.none _ _,by omega,
     ((HB1.out.setCell (by first | (simp;done) | (simp;omega)) _).setCell (by first | (simp;done) | (simp;omega)) _).setCell (by first | (simp;done) | (simp;omega)) _⟩
 case pos=>
   by_cases hx:-1000≤dx∧dx≤1000
   case neg=>
     rw [shiftF_no (fun h=>hx ⟨h.2.1,h.2.2.1⟩)]
     have HX:=Lib.hid hx
     clear hx
     go_enter Tryz.func98,Tryz.ntmps98
     go_wp2_with fail
     refine (impl_IsMatrix _ _ _ _ _ xs _ HN.out (by exact (HA.out.alloc _).alloc _) hl).mono ?_
     rintro e w1 ⟨rfl,hb⟩
     have HB1:=Lib.hid ((Joins.below_alloc2 _ _ _).trans (hb.mono (by simp;omega)))
     have KP1:=Lib.hid (((Blk.new w 31 #[.int .i64 W, .int .i64 H, .slice ad n cap]).alloc _).below' hb)
     have KR1:Hid (Blk w1 (w.heap.size+1) 31 #[.int .i64 0, .int .i64 0, .slice none 0 0]):=by
       have h:=(Blk.new (w.alloc (.cells #[.int .i64 W, .int .i64 H, .slice ad n cap] 31)) 31 #[.int .i64 0, .int .i64 0, .slice none 0 0]).below' hb
       exact Lib.hid (by simpa using h)
     obtain ⟨l1,c0,c1,c2⟩:=KP1.out.c3
     obtain ⟨m1,d0,d1,d2⟩:=KR1.out.c3
     obtain ⟨f0,f1,f2⟩:=KR1.out.f3
     clear hb
     rw [hp]
     go_wp2_with fail
     refine (impl_isShift_no _ _ HX.out).mono ?_
     rintro e w2 ⟨rfl,rfl⟩
     go_wp2_with fail
     exact bodyPost_ret (v:= .agg #[.int .i64 0, .int .i64 0, .slice none 0 0]) (by simp [results,Tryz.results98,go_sem,d0,d1,d2]) rfl ⟨none,0,0,rfl,OwnA.none _ _,by omega,
       ((HB1.out.setCell (by first | (simp;done) | (simp;omega)) _).setCell (by first | (simp;done) | (simp;omega)) _).setCell (by first | (simp;done) | (simp;omega)) _⟩
   case pos=>
     obtain ⟨hx1,hx2⟩:=hx
     by_cases hy:-1000≤dy∧dy≤1000
     case neg=>
       rw [shiftF_no (fun h=>hy ⟨h.2.2.2.1,h.2.2.2.2⟩)]
       have HY:=Lib.hid hy
       clear hy
       go_enter Tryz.func98,Tryz.ntmps98
       go_wp2_with fail
       refine (impl_IsMatrix _ _ _ _ _ xs _ HN.out (by exact (HA.out.alloc _).alloc _) hl).mono ?_
       rintro e w1 ⟨rfl,hb⟩
       have HB1:=Lib.hid ((Joins.below_alloc2 _ _ _).trans (hb.mono (by simp;omega)))
       have KP1:=Lib.hid (((Blk.new w 31 #[.int .i64 W, .int .i64 H, .slice ad n cap]).alloc _).below' hb)
       have KR1:Hid (Blk w1 (w.heap.size+1) 31 #[.int .i64 0, .int .i64 0, .slice none 0 0]):=by
         have h:=(Blk.new (w.alloc (.cells #[.int .i64 W, .int .i64 H, .slice ad n cap] 31)) 31 #[.int .i64 0, .int .i64 0, .slice none 0 0]).below' hb
         exact Lib.hid (by simpa using h)
       obtain ⟨l1,c0,c1,c2⟩:=KP1.out.c3
       obtain ⟨m1,d0,d1,d2⟩:=KR1.out.c3
       obtain ⟨f0,f1,f2⟩:=KR1.out.f3
       clear hb
       rw [hp]
       go_wp2_with fail
       refine (impl_isShift_yes _ _ hx1 hx2).mono ?_
       rintro e w2 ⟨rfl,rfl⟩
       go_wp2_with fail
       refine (impl_isShift_no _ _ HY.out).mono ?_
       rintro e w2 ⟨rfl,rfl⟩
       go_wp2_with fail
       exact bodyPost_ret (v:= .agg #[.int .i64 0, .int .i64 0, .slice none 0 0]) (by simp [results,Tryz.results98,go_sem,d0,d1,d2]) rfl ⟨none,0,0,rfl,OwnA.none _ _,by omega,
         ((HB1.out.setCell (by first | (simp;done) | (simp;omega)) _).setCell (by first | (simp;done) | (simp;omega)) _).setCell (by first | (simp;done) | (simp;omega)) _⟩
     case pos=>
       obtain ⟨hy1,hy2⟩:=hy
       rw [shiftF_yes HN.out hp hx1 hx2 hy1 hy2]
       obtain ⟨hs,hq,hi,hd⟩:=matOk_bd HN.out hp
       obtain ⟨b1,b2,b3,b4,b5,b6⟩:=matSize_bd hs
       have HQ:=Lib.hid hq
       have HI:=Lib.hid hi
       have HD:=Lib.hid hd
       have HS:=Lib.hid hs
       have hn1:1≤n:=by omega
       have hn2:n≤256:=by omega
       clear hq hi hs hd
       go_enter Tryz.func98,Tryz.ntmps98
       go_wp2_with fail
       refine (impl_IsMatrix _ _ _ _ _ xs _ HN.out (by exact (HA.out.alloc _).alloc _) hl).mono ?_
       rintro e w1 ⟨rfl,hb⟩
       have HB1:=Lib.hid ((Joins.below_alloc2 _ _ _).trans (hb.mono (by simp;omega)))
       have KP1:=Lib.hid (((Blk.new w 31 #[.int .i64 W, .int .i64 H, .slice ad n cap]).alloc _).below' hb)
       have KR1:Hid (Blk w1 (w.heap.size+1) 31 #[.int .i64 0, .int .i64 0, .slice none 0 0]):=by
         have h:=(Blk.new (w.alloc (.cells #[.int .i64 W, .int .i64 H, .slice ad n cap] 31)) 31 #[.int .i64 0, .int .i64 0, .slice none 0 0]).below' hb
         exact Lib.hid (by simpa using h)
       obtain ⟨l1,c0,c1,c2⟩:=KP1.out.c3
       obtain ⟨m1,d0,d1,d2⟩:=KR1.out.c3
       obtain ⟨f0,f1,f2⟩:=KR1.out.f3
       clear hb
       rw [hp]
       go_wp2_with fail
       refine (impl_isShift_yes _ _ hx1 hx2).mono ?_
       rintro e w1b ⟨rfl,rfl⟩
       go_wp2_with fail
       refine (impl_isShift_yes _ _ hy1 hy2).mono ?_
       rintro e w1b ⟨rfl,rfl⟩
       go_wp2_with fail
       refine (impl_blankM W H n _ HS.out HQ.out).mono ?_
       rintro e w2 ⟨g,rfl,hg,ho,hb⟩
       have HB2:=Lib.hid (HB1.out.trans (hb.mono HB1.out.size))
       have KP2:=Lib.hid (KP1.out.below' hb)
       have KR2:=Lib.hid (KR1.out.below' hb)
       have HO:=Lib.hid ho
       have HG:Hid (w1.heap.size≤g):=Lib.hid hg
       clear hb hg ho c0 c1 c2 d0 d1 d2 f0 f1 f2
       obtain ⟨l2,c0,c1,c2⟩:=KP2.out.c3
       go_wp2_with fail
       go_loopw [31] (fun i wr=> ∃k:Nat,k≤n∧i= .int .i64 k∧Own wr g n n (filled (gen n (shiftG W H xs dx dy)) (List.replicate n 0) k)∧(w2.alloc (.cells #[.int .i64 W, .int .i64 H, .slice (some ⟨g,0,none⟩) n n] 31)).grownBy wr (some g)) (fun i _=>n - (intOf i).toNat)
       case atStart=>exact ⟨0,Nat.zero_le _,rfl,by rw [filled_zero];exact HO.out.alloc _,grown_refl _ _⟩
       case round=>
         obtain ⟨k,hk,rfl,ho,hg⟩:=hrel
         have HBr:=Lib.hid ((HB2.out.alloc HB2.out.size _).grown hg (by have:=HB2.out.size;simp;omega) (by intro k hk;cases hk;have:=HG.out;omega))
         have KO:=Lib.hid ((Blk.new w2 31 #[.int .i64 W, .int .i64 H, .slice (some ⟨g,0,none⟩) n n]).grown hg (by have:=HO.out.lt;simp;omega))
         obtain ⟨l0,o0,o1,o2⟩:=KO.out.c3
         have KP:=Lib.hid ((KP2.out.alloc _).grown hg (by have:=HG.out;have:=KP1.out.lt;simp;omega))
         obtain ⟨l9,p0,p1,p2⟩:=KP.out.c3
         by_cases hlt:k<n
         · have e1:0≤(k:Int) % W:=Int.emod_nonneg _ (by omega)
           have e2:(k:Int) % W<W:=Int.emod_lt_of_pos _ (by omega)
           have e3:0≤(k:Int)/W:=Int.ediv_nonneg (by omega) (by omega)
           have e4:(k:Int)/W≤k:=Int.ediv_le_self _ (by omega)
           have g2:wr.cell? ⟨g,k,none⟩=some (.int .i64 ((filled (gen n (shiftG W H xs dx dy)) (List.replicate n 0) k).getD k 0)):=ho.cell hlt
           have g3:wr.frozen? ⟨g,k,none⟩=false:=ho.frozen k
           have gl:=ho.lt
           have HO4:=Lib.hid ho
           clear ho
           have hW0:(W==0)=false:=by simp;omega
           have hW1: ¬W=0:=by omega
           have N1:g≠w.heap.size:=by have:=HG.out;have:=KR1.out.lt;omega
           have N2:g≠w2.heap.size:=by have:=HO.out.lt;omega
           go_wp2_with fail
           go_region_held3 (fun v=>v.cell? ⟨w.heap.size,0,none⟩=some (.int .i64 W)∧v.cell? ⟨w.heap.size,1,none⟩=some (.int .i64 H)∧v.cell? ⟨w.heap.size,2,none⟩=some (.slice ad n cap)∧v.cell? ⟨w2.heap.size,2,none⟩=some (.slice (some ⟨g,0,none⟩) n n))
             (first | exact ⟨p0,p1,p2,o2⟩ | exact ⟨(hq1.cell l9).trans p0,(hq1.cell l9).trans p1,(hq1.cell l9).trans p2,(hq1.cell l0).trans o2⟩ | exact ⟨cell_far y0 N1,cell_far y1 N1,cell_far y2 N1,cell_far y3 N2⟩)
             (first
               | (go_at_call 44;((with_reducible refine (impl_wrappedRank W H ad n cap xs _ _ _ HN.out (by exact (HA.out.below HBr.out).of_heap rfl) HQ.out b1 b3 hn2 b2 b4).mono ?_);rintro e v1 ⟨rfl,hq1⟩;have y0:=(hq1.cell l9).trans p0;have y1:=(hq1.cell l9).trans p1;have y2:=(hq1.cell l9).trans p2;have y3:=(hq1.cell l0).trans o2;have t2:=(hq1.cell gl).trans g2;have t3:=(hq1.frozen gl).trans g3)))
           have hv:(gen n (shiftG W H xs dx dy)).getD k 0=rankOf W H xs ((k:Int) % W - dx) ((k:Int)/W - dy):=gen_get _ _ _ hlt
           have hs:=((HO4.out.drewN 1).below hq1 gl).set k (rankOf W H xs ((k:Int) % W - dx) ((k:Int)/W - dy))
           rw [filled_succ (gen n (shiftG W H xs dx dy)) _ k _ (by rw [gen_len];exact hlt) (by simp;omega) hv] at hs
           have HSt:=Lib.hid hs
           have hg5:=grown_trans hg (grown_of_below (row:=some g) (below_undrew hq1))
           clear hs hv hg
           go_wp2_with fail
           go_roundw
           case rel=>exact ⟨k+1,by omega,by go_num,HSt.out,grown_set hg5 _⟩
           case measure=>simp [intOf];omega
         · obtain rfl:n=k:=by omega
           have KR:=Lib.hid ((KR2.out.alloc _).grown hg (by have:=HG.out;have:=KR2.out.lt;simp;omega))
           obtain ⟨r0,r1,r2,r3⟩:=KR.out.c3
           obtain ⟨q0,q1,q2⟩:=KR.out.f3
           rw [filled_at (gen n (shiftG W H xs dx dy)) _ n (by rw [gen_len]) (by simp)] at ho
           have HO3:=Lib.hid ho
           clear ho
           go_wp2_with fail
           exact bodyPost_ret (v:= .agg #[.int .i64 W, .int .i64 H, .slice (some ⟨g,0,none⟩) n n]) (by simp [results,Tryz.results98,go_sem,r1,r2,r3]) rfl
             ⟨_,_,_,rfl,OwnA.mk (((HO3.out.other (by have:=HG.out;simp;omega) _).other (by have:=HG.out;simp;omega) _).other (by have:=HG.out;simp;omega) _) (by have:=HG.out;omega),by omega,
               ((HBr.out.setCell (by first | (simp;done) | (simp;omega)) _).setCell (by first | (simp;done) | (simp;omega)) _).setCell (by first | (simp;done) | (simp;omega)) _⟩
attribute [local go_sem ↓] Go.wp_at_zero Go.wp_at_succ
def qraw (a b:Int):Int:=wrap64 (wrap64 (2*bits BinOp.xor IntKind.i64 a b)+b)
theorem impl_qraw (a b:Int) (w:World):
   Calls Tryz.prog 45 #[.int .i64 a, .int .i64 b] w fun e w'=>e= .returned (.int .i64 (qraw a b))∧w=w':=by
 go_enter Tryz.func45,Tryz.ntmps45
 go_wp2
 go_ret
 exact ⟨rfl,rfl⟩
theorem qraw_quarter {a b:Int} (h1:0≤a) (h2:a≤1) (h3:0≤b) (h4:b≤1):qraw a b=quarter a b:=by
 by_cases ha:a=0
 · subst ha
   by_cases hb:b=0
   · subst hb;decide+kernel
   · obtain rfl:b=1:=by omega
     decide+kernel
 · obtain rfl:a=1:=by omega
   by_cases hb:b=0
   · subst hb;decide+kernel
   · obtain rfl:b=1:=by omega
     decide+kernel
theorem half_bd {x W:Int} (hW:1≤W) (h0:0≤x) (h1:x<2*W):0≤x/W∧x/W≤1:=by
 constructor
 · exact Int.ediv_nonneg h0 (by omega)
 · have:x/W<2:=Int.ediv_lt_of_lt_mul (by omega) (by omega)
   omega
theorem dbl_xy {W H:Int} {n k:Nat} (hn:(n:Int)=W*H) (hW:1≤W) (hH:1≤H) (hk:k<4*n):
   0≤(k:Int) % (2*W)∧(k:Int) % (2*W)<2*W∧0≤(k:Int)/(2*W)∧(k:Int)/(2*W)<2*H∧(k:Int)/(2*W)≤k:=by
 refine ⟨Int.emod_nonneg _ (by omega),Int.emod_lt_of_pos _ (by omega),Int.ediv_nonneg (by omega) (by omega),?_,Int.ediv_le_self _ (by omega)⟩
 refine Int.ediv_lt_of_lt_mul (by omega) ?_
 have e:2*H*(2*W)=4*(W*H):=by
   rw [Int.mul_assoc,Int.mul_left_comm H 2 W,←Int.mul_assoc,Int.mul_comm H W];rfl
 rw [e,←hn]
 omega
theorem dbl_size {W H:Int} {n:Nat} (hn:(n:Int)=W*H) (hW:1≤W) (hH:1≤H) (hm:4*n≤256):matSize (2*W) (2*H)=true∧((4*n:Nat):Int)=2*W*(2*H)∧W≤64∧H≤64:=by
 have e:2*W*(2*H)=4*(W*H):=by
   rw [Int.mul_assoc,Int.mul_left_comm W 2 H,←Int.mul_assoc];rfl
 have e1:W*1≤W*H:=Int.mul_le_mul_of_nonneg_left hH (by omega)
 have e2:1*H≤W*H:=Int.mul_le_mul_of_nonneg_right hW (by omega)
 refine ⟨matSize_mk (by omega) (by omega) (by rw [e];omega),by rw [e];omega,by omega,by omega⟩
set_option maxHeartbeats 1600000 in
theorem impl_doubled (W H:Int) (ad:Option Addr) (n cap:Nat) (xs:List Int) (w:World) (hn:xs.length=n) (ha:Rd w ad xs) (hq:(n:Int)=W*H) (b1:1≤W) (b3:1≤H) (hm4:4*n≤256) (hi:inR xs n=true):
   Calls Tryz.prog 22 #[.agg #[.int .i64 W, .int .i64 H, .slice ad n cap]] w (MatOut w (dblM ⟨W,H,xs⟩)):=by
 have HN:=Lib.hid hn
 have HA:=Lib.hid ha
 clear hn ha
 have HQ:=Lib.hid hq
 have HI:=Lib.hid hi
 obtain ⟨hs2,hq2,b2,b4⟩:=dbl_size hq b1 b3 hm4
 have HS2:=Lib.hid hs2
 obtain ⟨m,hm⟩: ∃m:Nat,m=4*n:=⟨_,rfl⟩
 have HQ2:Hid ((m:Int)=2*W*(2*H)):=Lib.hid (by rw [hm];exact hq2)
 have hm1:m≤256:=by omega
 have HM:Hid (m=4*n):=Lib.hid hm
 have e0:dblM ⟨W,H,xs⟩=⟨2*W,2*H,gen m (dblG W H xs)⟩:=by unfold dblM;simp only [HN.out];rw [HM.out]
 rw [e0]
 have hn2:n≤64:=by omega
 clear e0 hq hi hs2 hq2 hm
 go_enter Tryz.func22,Tryz.ntmps22
 go_wp2_with fail
 refine (impl_blankM (2*W) (2*H) m _ HS2.out HQ2.out).mono ?_
 rintro e w2 ⟨g,rfl,hg,ho,hb⟩
 have HB2:=Lib.hid ((Joins.below_alloc2 _ _ _).trans (hb.mono (by simp;omega)))
 have KP2:=Lib.hid (((Blk.new w 31 #[.int .i64 W, .int .i64 H, .slice ad n cap]).alloc _).below' hb)
 have KR2:Hid (Blk w2 (w.heap.size+1) 31 #[.int .i64 0, .int .i64 0, .slice none 0 0]):=by
   have h:=(Blk.new (w.alloc (.cells #[.int .i64 W, .int .i64 H, .slice ad n cap] 31)) 31 #[.int .i64 0, .int .i64 0, .slice none 0 0]).below' hb
   exact Lib.hid (by simpa using h)
 have HO:=Lib.hid ho
 have HG:Hid (w.heap.size+1+1≤g):=Lib.hid (by simpa using hg)
 clear hb ho hg
 go_wp2_with fail
 go_loopw [17] (fun i wr=> ∃k:Nat,k≤m∧i= .int .i64 k∧Own wr g m m (filled (gen m (dblG W H xs)) (List.replicate m 0) k)∧(w2.alloc (.cells #[.int .i64 (2*W), .int .i64 (2*H), .slice (some ⟨g,0,none⟩) m m] 31)).grownBy wr (some g)) (fun i _=>m - (intOf i).toNat)
 case atStart=>exact ⟨0,Nat.zero_le _,rfl,by rw [filled_zero];exact HO.out.alloc _,grown_refl _ _⟩
 case round=>
   obtain ⟨k,hk,rfl,ho,hg⟩:=hrel
   have HBr:=Lib.hid ((HB2.out.alloc HB2.out.size _).grown hg (by have:=HB2.out.size;simp;omega) (by intro k hk;cases hk;have:=HG.out;omega))
   have KO:=Lib.hid ((Blk.new w2 31 #[.int .i64 (2*W), .int .i64 (2*H), .slice (some ⟨g,0,none⟩) m m]).grown hg (by have:=HO.out.lt;simp;omega))
   obtain ⟨l0,o0,o1,o2⟩:=KO.out.c3
   have KP:=Lib.hid ((KP2.out.alloc _).grown hg (by have:=HG.out;have:=KP2.out.lt;simp;omega))
   obtain ⟨l9,p0,p1,p2⟩:=KP.out.c3
   by_cases hlt:k<m
   · obtain ⟨x0,x1,y0,y1,y2⟩:=dbl_xy HQ.out b1 b3 (by have:=HM.out;omega:k<4*n)
     obtain ⟨a0,a1⟩:=half_bd b1 x0 x1
     obtain ⟨c0,c1⟩:=half_bd b3 y0 y1
     obtain ⟨r0,r1⟩:=rankOf_bd HN.out HQ.out b1 b3 HI.out ((k:Int) % (2*W)) ((k:Int)/(2*W))
     obtain ⟨q0,q1⟩:=quarter_bd ((k:Int) % (2*W)/W) ((k:Int)/(2*W)/H)
     have g2:wr.cell? ⟨g,k,none⟩=some (.int .i64 ((filled (gen m (dblG W H xs)) (List.replicate m 0) k).getD k 0)):=ho.cell hlt
     have g3:wr.frozen? ⟨g,k,none⟩=false:=ho.frozen k
     have gl:=ho.lt
     have HO4:=Lib.hid ho
     clear ho
     have N1:g≠w.heap.size:=by have:=HG.out;omega
     have N2:g≠w2.heap.size:=by have:=HO.out.lt;omega
     have hW1: ¬2*W=0:=by omega
     have hW2: ¬W=0:=by omega
     have hH2: ¬H=0:=by omega
     have hW0:(W==0)=false:=by simp;omega
     have hH0:(H==0)=false:=by simp;omega
     go_wp2_with fail
     go_quiet (fail)
     go_wp2_with fail
     go_region_held3 (fun v=>v.cell? ⟨w.heap.size,0,none⟩=some (.int .i64 W)∧v.cell? ⟨w.heap.size,1,none⟩=some (.int .i64 H)∧v.cell? ⟨w.heap.size,2,none⟩=some (.slice ad n cap)∧v.cell? ⟨w2.heap.size,2,none⟩=some (.slice (some ⟨g,0,none⟩) m m))
       (first | exact ⟨p0,p1,p2,o2⟩ | exact ⟨(hq1.cell l9).trans p0,(hq1.cell l9).trans p1,(hq1.cell l9).trans p2,(hq1.cell l0).trans o2⟩ | exact ⟨cell_far z0 N1,cell_far z1 N1,cell_far z2 N1,cell_far z3 N2⟩)
       (first
         | (go_at_call 44;((with_reducible refine (impl_wrappedRank W H ad n cap xs _ _ _ HN.out (by exact (HA.out.below HBr.out).of_heap rfl) HQ.out b1 b3 (by omega) (by omega) (by omega)).mono ?_);rintro e v1 ⟨rfl,hq1⟩;have z0:=(hq1.cell l9).trans p0;have z1:=(hq1.cell l9).trans p1;have z2:=(hq1.cell l9).trans p2;have z3:=(hq1.cell l0).trans o2;have t2:=(hq1.cell gl).trans g2;have t3:=(hq1.frozen gl).trans g3))
         | (go_at_call 45;((with_reducible refine (impl_qraw _ _ _).mono ?_);rintro e v9 ⟨rfl,rfl⟩)))
     go_wp2_with fail
     go_roundw
     case rel=>
       have hq5:Below wr.heap.size wr v1:=⟨hq1.os,hq1.tape,hq1.output,hq1.size,hq1.block⟩
       have hv:(gen m (dblG W H xs)).getD k 0=wrap64 (4*rankOf W H xs ((k:Int) % (2*W)) ((k:Int)/(2*W))+qraw ((k:Int) % (2*W)/W) ((k:Int)/(2*W)/H)):=by
         rw [gen_get _ _ _ hlt,qraw_quarter a0 a1 c0 c1,IntWalk.wrap64_in _ (by omega)];rfl
       have hs:=(HO4.out.below hq5 gl).set k (wrap64 (4*rankOf W H xs ((k:Int) % (2*W)) ((k:Int)/(2*W))+qraw ((k:Int) % (2*W)/W) ((k:Int)/(2*W)/H)))
       rw [filled_succ (gen m (dblG W H xs)) _ k _ (by rw [gen_len];exact hlt) (by simp;omega) hv] at hs
       exact ⟨k+1,by omega,by go_num,hs,grown_set (grown_trans hg (grown_of_below (row:=some g) hq5)) _⟩
     case measure=>simp [intOf];omega
   · obtain rfl:m=k:=by omega
     have KR:=Lib.hid ((KR2.out.alloc _).grown hg (by have:=HG.out;have:=KR2.out.lt;simp;omega))
     obtain ⟨r0,r1,r2,r3⟩:=KR.out.c3
     obtain ⟨q0,q1,q2⟩:=KR.out.f3
     rw [filled_at (gen m (dblG W H xs)) _ m (by rw [gen_len]) (by simp)] at ho
     have HO3:=Lib.hid ho
     clear ho
     go_wp2_with fail
     exact bodyPost_ret (v:= .agg #[.int .i64 (2*W), .int .i64 (2*H), .slice (some ⟨g,0,none⟩) m m]) (by simp [results,Tryz.results22,go_sem,r1,r2,r3]) rfl
       ⟨_,_,_,rfl,OwnA.mk (((HO3.out.other (by have:=HG.out;simp;omega) _).other (by have:=HG.out;simp;omega) _).other (by have:=HG.out;simp;omega) _) (by have:=HG.out;omega),by omega,
         ((HBr.out.setCell (by first | (simp;done) | (simp;omega)) _).setCell (by first | (simp;done) | (simp;omega)) _).setCell (by first | (simp;done) | (simp;omega)) _⟩
end Go.Proofs.YtanccoopbgamdaaGreatDoor
