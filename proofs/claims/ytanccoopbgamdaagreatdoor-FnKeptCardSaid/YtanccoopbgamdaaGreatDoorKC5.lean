/-
  Contracts and plain facts on which the theorem of this claim rests, text 5.
-/
import Derived.Deep.AppendLies
import Derived.Deep.DrawnRows
import Derived.Deep.RegionHeld3
import Derived.Deep.RegionLaw
import Derived.Lib.Hide
import Derived.OrdersHeld
import Derived.StillTailTactics
import Derived.Test.YtanccoopbgamdaaGreatDoorKC2
import Derived.Test.YtanccoopbgamdaaGreatDoorKC4
namespace Go.Proofs.YtanccoopbgamdaaGreatDoor
open Go Go.RowKit
set_option linter.unusedVariables false
set_option linter.unusedSimpArgs false
structure Kp (p:Prop):Prop where
 out:p
def Nth (i:Nat):Prop:=i=i
section
variable {P : Program} {ops : Array Oper} {Q : Exit → Act → World → Prop} {md : Region.Mode} {S : World → Prop} {n i : Nat} {oi : Oper} {v : Value} {fuel : Nat} {listed : Array Bool} {a : Act} {w : World}
theorem takeN (_:Nth i) (hi:ops[i]? =some oi) (hs:Region.noSelect ops=true) (hf:Region.free md ops listed i=true) (hr:(Region.ready md ops listed).contains i=true)
   (hQ: ∀c a w,Q (.panic c) (a.put oi.dst v) w→Q (.panic c) a w) (hy:YieldsIf P ops S oi v a) (hS:S w)
   (h:wpAnyH P md ops Q S fuel (listed.setIfInBounds i true) (a.put oi.dst v) w):wpAnyH P md ops Q S (fuel+1) listed a w:=wpAnyH_take hi hs hf hr hQ hy hS h
theorem takeM (_:Nth i) (hi:ops[i]? =some oi) (hs:Region.noSelect ops=true) (hf:Region.free md ops listed i=true) (hr:(Region.ready md ops listed).contains i=true)
   (ht:(decide (i<n) && Region.sinkB md ops n && Region.chainB md ops n && decide (n<ops.size) && headB md ops n listed)=true)
   (hQ: ∀c a w,Q (.panic c) (a.put oi.dst v) w→Q (.panic c) a w) (hy:YieldsIf P ops S oi v a) (hS:S w)
   (h:wpAnyT P md ops Q S n fuel (listed.setIfInBounds i true) (a.put oi.dst v) w):wpAnyT P md ops Q S n (fuel+1) listed a w:=wpAnyT_take hi hs hf hr ht hQ hy hS h
end
theorem hTake (i:Nat) {G R:Prop} (k:R) (h:Nth i→Kp R→G:=by
   intro hi hk;(refine' takeN hi (v:=?_) rfl (by kernel_rfl) (by kernel_rfl) (by kernel_rfl) (fun _ _ _ h=>h) (Or.inl ⟨by rfl,?_⟩) (by assumption) ?_;rotate_left;(· (intro w hSw;(try dsimp only at hSw);go_simp;try with_reducible rfl));(try simp only [Act.put,List.setIfInBounds_toArray,List.set_cons_zero,List.set_cons_succ]));exact hk.out):G:=h rfl ⟨k⟩
theorem hSkip (i:Nat) {G R:Prop} (k:R) (h:Nth i→Kp R→G:=by
   intro hi hk;(refine' takeN hi (v:=undef) rfl (by kernel_rfl) (by kernel_rfl) (by kernel_rfl) (fun _ _ _ h=>h) (Or.inr ⟨by rfl,rfl⟩) (by assumption) ?_;(try simp only [Act.put,List.setIfInBounds_toArray,List.set_cons_zero,List.set_cons_succ]));exact hk.out):G:=h rfl ⟨k⟩
theorem tTake (i:Nat) {G R:Prop} (k:R) (h:Nth i→Kp R→G:=by
   intro hi hk;(refine' takeM hi (v:=?_) rfl (by kernel_rfl) (by kernel_rfl) (by kernel_rfl) (by kernel_rfl) (fun _ _ _ h=>h) (Or.inl ⟨by rfl,?_⟩) (by assumption) ?_;rotate_left;(· (intro w hSw;(try dsimp only at hSw);go_simp;try with_reducible rfl));(try simp only [Act.put,List.setIfInBounds_toArray,List.set_cons_zero,List.set_cons_succ]));exact hk.out):G:=h rfl ⟨k⟩
theorem simpR {G R:Prop} (k:R) (h:Kp R→G:=by
   intro hk;(try simp only [List.getElem_toArray,List.getElem_cons_succ,List.getElem_cons_zero,Act.put,List.setIfInBounds_toArray,List.set_cons_zero,List.set_cons_succ]);exact hk.out):G:=h ⟨k⟩
section
variable {P : Program} {ops : Array Oper} {Q : Exit → Act → World → Prop} {md : Region.Mode} {S : World → Prop} {n : Nat} {o : Oper} {fuel : Nat} {listed : Array Bool} {a : Act} {w : World}
theorem hOne (i:Nat) (h: ∀K':Act→World→Prop,Shut (∀a w,S w→(S w→wpAnyH P md ops Q S fuel (listed.setIfInBounds i true) a w)→K' a w)→if Region.wanted o (yielded ops a.tmps)=true then Oper.wp P o a w K' Q else K' (a.put o.dst undef) w)
   (hr:Region.ready md ops listed=[i]:=by kernel_rfl) (ho:ops[i]? =some o:=by rfl):wpAnyH P md ops Q S (fuel+1) listed a w:=
 wpAnyH_ready hr (by simp) (AllReadyH.cons ho h AllReadyH.nil)
theorem tOne (i:Nat) (h: ∀K':Act→World→Prop,Shut (∀a w,(i<n→S w)→((i<n→S w)→wpAnyT P md ops Q S n fuel (listed.setIfInBounds i true) a w)→K' a w)→if Region.wanted o (yielded ops a.tmps)=true then Oper.wp P o a w K' Q else K' (a.put o.dst undef) w)
   (hr:Region.ready md ops listed=[i]:=by kernel_rfl) (ho:ops[i]? =some o:=by rfl):wpAnyT P md ops Q S n (fuel+1) listed a w:=wpAnyT_one hr ho h
end
end Go.Proofs.YtanccoopbgamdaaGreatDoor
namespace Go.Proofs.YtanccoopbgamdaaGreatDoor
open Go.RowKit
set_option linter.unusedVariables false
set_option linter.unusedSimpArgs false
attribute [local go_sem ↓] Go.wp_at_zero Go.wp_at_succ
set_option maxHeartbeats 400000 in
theorem impl_isShift (d:Int) (w:World):
   Calls Tryz.prog 131 #[.int .i64 d] w fun e w'=>e= .returned (.bool (decide (-1000≤d∧d≤1000)))∧w=w':=by
 go_enter Tryz.func131,Tryz.ntmps131
 go_wp2
 all_goals (go_ret;exact ⟨ret_bool (by first | (simp [*];done) | (simp [*];omega) | (simp;intros;omega)),rfl⟩)
theorem impl_isShift_yes (d:Int) (w:World) (h1:-1000≤d) (h2:d≤1000):
   Calls Tryz.prog 131 #[.int .i64 d] w fun e w'=>e= .returned (.bool true)∧w=w':=
 (impl_isShift d w).mono fun e w' ⟨he,hw⟩=>⟨by rw [he];exact ret_bool (by simp [h1,h2]),hw⟩
theorem impl_isShift_no (d:Int) (w:World) (h: ¬(-1000≤d∧d≤1000)):
   Calls Tryz.prog 131 #[.int .i64 d] w fun e w'=>e= .returned (.bool false)∧w=w':=
 (impl_isShift d w).mono fun e w' ⟨he,hw⟩=>⟨by rw [he];exact ret_bool (by simpa using h),hw⟩
theorem below_undrew {w v:World} {B:Nat} (h:Below B w.drew v):Below B w v:=⟨h.os,h.tape,h.output,h.size,h.block⟩
theorem cell_far {v:World} {g b i j:Nat} {x y:Value} (h:v.cell? ⟨b,j,none⟩=some y) (hne:g≠b):(v.setCell ⟨g,i,none⟩ x).cell? ⟨b,j,none⟩=some y:=by
 rw [←h]
 exact World.cell?_of_block (Below.heap_setCell v _ x b (by simp;omega))
theorem cell_al {v:World} {a:Addr} {y:Value} {O:Obj} (h:v.cell? a=some y):(v.alloc O).cell? a=some y:=by
 rw [World.cell?_alloc_some _ _ _ (by rw [h];rfl),h]
theorem cell_new1 (w:World) (v:Value) (T:Nat):(w.alloc (.cells #[v] T)).cell? ⟨w.heap.size,0,none⟩=some v:=(Blk.new w T #[v]).cell 0
theorem grown_of_below {w v:World} {row:Option Nat} (h:Below w.heap.size w v):w.grownBy v row:=⟨h.os,h.tape,h.output,h.size,fun i hi _=>h.block i hi⟩
set_option maxHeartbeats 1600000 in
theorem impl_ShiftMatrix (W H:Int) (ad:Option Addr) (n cap:Nat) (xs:List Int) (dx dy:Int) (w:World) (hn:xs.length=n) (ha:Rd w ad xs) (hl:n≤9223372036854775807):
   Calls Tryz.prog 98 #[.agg #[.int .i64 W, .int .i64 H, .slice ad n cap], .int .i64 dx, .int .i64 dy] w (MatOut w (shiftF W H xs dx dy)):=by
 have HN:=Lib.hid hn
 have HA:=Lib.hid ha
 clear hn ha
 by_cases hp:matOk W H xs=true
 case neg=>
   have hp2:matOk W H xs=false:=by simpa using hp
   rw [shiftF_no (fun h=>hp h.1)]
   clear hp
   go_enter Tryz.func98,Tryz.ntmps98
   go_wp2_with fail
   refine (impl_IsMatrix _ _ _ _ _ xs _ HN.out (by exact (HA.out.alloc _).alloc _) hl).mono ?_
   rintro e w1 ⟨rfl,hb⟩
   have HB1:=Lib.hid ((Joins.below_alloc2 _ _ _).trans (hb.mono (by simp;omega)))
   have KP1:=Lib.hid (((Blk.new w 31 #[.int .i64 W, .int .i64 H, .slice ad n cap]).alloc _).below' hb)
   have KR1:Hid (Blk w1 (w.heap.size+1) 31 #[.int .i64 0, .int .i64 0, .slice none 0 0]):=by
     have h:=(Blk.new (w.alloc (.cells #[.int .i64 W, .int .i64 H, .slice ad n cap] 31)) 31 #[.int .i64 0, .int .i64 0, .slice none 0 0]).below' hb
     exact Lib.hid (by simpa using h)
   obtain ⟨l1,c0,c1,c2⟩:=KP1.out.c3
   obtain ⟨m1,d0,d1,d2⟩:=KR1.out.c3
   obtain ⟨f0,f1,f2⟩:=KR1.out.f3
   clear hb
   rw [hp2]
   go_wp2_with fail
   exact bodyPost_ret (v:= .agg #[.int .i64 0, .int .i64 0, .slice none 0 0]) (by simp [results,Tryz.results98,go_sem,d0,d1,d2]) rfl ⟨none,0,0,rfl,OwnA.none _ _,by omega,
     ((HB1.out.setCell (by first | (simp;done) | (simp;omega)) _).setCell (by first | (simp;done) | (simp;omega)) _).setCell (by first | (simp;done) | (simp;omega)) _⟩
 case pos=>
   by_cases hx:-1000≤dx∧dx≤1000
   case neg=>
     rw [shiftF_no (fun h=>hx ⟨h.2.1,h.2.2.1⟩)]
     have HX:=Lib.hid hx
     clear hx
     go_enter Tryz.func98,Tryz.ntmps98
     go_wp2_with fail
     refine (impl_IsMatrix _ _ _ _ _ xs _ HN.out (by exact (HA.out.alloc _).alloc _) hl).mono ?_
     rintro e w1 ⟨rfl,hb⟩
     have HB1:=Lib.hid ((Joins.below_alloc2 _ _ _).trans (hb.mono (by simp;omega)))
     have KP1:=Lib.hid (((Blk.new w 31 #[.int .i64 W, .int .i64 H, .slice ad n cap]).alloc _).below' hb)
     have KR1:Hid (Blk w1 (w.heap.size+1) 31 #[.int .i64 0, .int .i64 0, .slice none 0 0]):=by
       have h:=(Blk.new (w.alloc (.cells #[.int .i64 W, .int .i64 H, .slice ad n cap] 31)) 31 #[.int .i64 0, .int .i64 0, .slice none 0 0]).below' hb
       exact Lib.hid (by simpa using h)
     obtain ⟨l1,c0,c1,c2⟩:=KP1.out.c3
     obtain ⟨m1,d0,d1,d2⟩:=KR1.out.c3
     obtain ⟨f0,f1,f2⟩:=KR1.out.f3
     clear hb
     rw [hp]
     go_wp2_with fail
     refine (impl_isShift_no _ _ HX.out).mono ?_
     rintro e w2 ⟨rfl,rfl⟩
     go_wp2_with fail
     exact bodyPost_ret (v:= .agg #[.int .i64 0, .int .i64 0, .slice none 0 0]) (by simp [results,Tryz.results98,go_sem,d0,d1,d2]) rfl ⟨none,0,0,rfl,OwnA.none _ _,by omega,
       ((HB1.out.setCell (by first | (simp;done) | (simp;omega)) _).setCell (by first | (simp;done) | (simp;omega)) _).setCell (by first | (simp;done) | (simp;omega)) _⟩
   case pos=>
     obtain ⟨hx1,hx2⟩:=hx
     by_cases hy:-1000≤dy∧dy≤1000
     case neg=>
       rw [shiftF_no (fun h=>hy ⟨h.2.2.2.1,h.2.2.2.2⟩)]
       have HY:=Lib.hid hy
       clear hy
       go_enter Tryz.func98,Tryz.ntmps98
       go_wp2_with fail
       refine (impl_IsMatrix _ _ _ _ _ xs _ HN.out (by exact (HA.out.alloc _).alloc _) hl).mono ?_
       rintro e w1 ⟨rfl,hb⟩
       have HB1:=Lib.hid ((Joins.below_alloc2 _ _ _).trans (hb.mono (by simp;omega)))
       have KP1:=Lib.hid (((Blk.new w 31 #[.int .i64 W, .int .i64 H, .slice ad n cap]).alloc _).below' hb)
       have KR1:Hid (Blk w1 (w.heap.size+1) 31 #[.int .i64 0, .int .i64 0, .slice none 0 0]):=by
         have h:=(Blk.new (w.alloc (.cells #[.int .i64 W, .int .i64 H, .slice ad n cap] 31)) 31 #[.int .i64 0, .int .i64 0, .slice none 0 0]).below' hb
         exact Lib.hid (by simpa using h)
       obtain ⟨l1,c0,c1,c2⟩:=KP1.out.c3
       obtain ⟨m1,d0,d1,d2⟩:=KR1.out.c3
       obtain ⟨f0,f1,f2⟩:=KR1.out.f3
       clear hb
       rw [hp]
       go_wp2_with fail
       refine (impl_isShift_yes _ _ hx1 hx2).mono ?_
       rintro e w2 ⟨rfl,rfl⟩
       go_wp2_with fail
       refine (impl_isShift_no _ _ HY.out).mono ?_
       rintro e w2 ⟨rfl,rfl⟩
       go_wp2_with fail
       exact bodyPost_ret (v:= .agg #[.int .i64 0, .int .i64 0, .slice none 0 0]) (by simp [results,Tryz.results98,go_sem,d0,d1,d2]) rfl ⟨none,0,0,rfl,OwnA.none _ _,by omega,
         ((HB1.out.setCell (by first | (simp;done) | (simp;omega)) _).setCell (by first | (simp;done) | (simp;omega)) _).setCell (by first | (simp;done) | (simp;omega)) _⟩
     case pos=>
       obtain ⟨hy1,hy2⟩:=hy
       rw [shiftF_yes HN.out hp hx1 hx2 hy1 hy2]
       obtain ⟨hs,hq,hi,hd⟩:=matOk_bd HN.out hp
       obtain ⟨b1,b2,b3,b4,b5,b6⟩:=matSize_bd hs
       have HQ:=Lib.hid hq
       have HI:=Lib.hid hi
       have HD:=Lib.hid hd
       have HS:=Lib.hid hs
       have hn1:1≤n:=by omega
       have hn2:n≤256:=by omega
       clear hq hi hs hd
       go_enter Tryz.func98,Tryz.ntmps98
       go_wp2_with fail
       refine (impl_IsMatrix _ _ _ _ _ xs _ HN.out (by exact (HA.out.alloc _).alloc _) hl).mono ?_
       rintro e w1 ⟨rfl,hb⟩
       have HB1:=Lib.hid ((Joins.below_alloc2 _ _ _).trans (hb.mono (by simp;omega)))
       have KP1:=Lib.hid (((Blk.new w 31 #[.int .i64 W, .int .i64 H, .slice ad n cap]).alloc _).below' hb)
       have KR1:Hid (Blk w1 (w.heap.size+1) 31 #[.int .i64 0, .int .i64 0, .slice none 0 0]):=by
         have h:=(Blk.new (w.alloc (.cells #[.int .i64 W, .int .i64 H, .slice ad n cap] 31)) 31 #[.int .i64 0, .int .i64 0, .slice none 0 0]).below' hb
         exact Lib.hid (by simpa using h)
       obtain ⟨l1,c0,c1,c2⟩:=KP1.out.c3
       obtain ⟨m1,d0,d1,d2⟩:=KR1.out.c3
       obtain ⟨f0,f1,f2⟩:=KR1.out.f3
       clear hb
       rw [hp]
       go_wp2_with fail
       refine (impl_isShift_yes _ _ hx1 hx2).mono ?_
       rintro e w1b ⟨rfl,rfl⟩
       go_wp2_with fail
       refine (impl_isShift_yes _ _ hy1 hy2).mono ?_
       rintro e w1b ⟨rfl,rfl⟩
       go_wp2_with fail
       refine (impl_blankM W H n _ HS.out HQ.out).mono ?_
       rintro e w2 ⟨g,rfl,hg,ho,hb⟩
       have HB2:=Lib.hid (HB1.out.trans (hb.mono HB1.out.size))
       have KP2:=Lib.hid (KP1.out.below' hb)
       have KR2:=Lib.hid (KR1.out.below' hb)
       have HO:=Lib.hid ho
       have HG:Hid (w1.heap.size≤g):=Lib.hid hg
       clear hb hg ho c0 c1 c2 d0 d1 d2 f0 f1 f2
       obtain ⟨l2,c0,c1,c2⟩:=KP2.out.c3
       go_wp2_with fail
       go_loopw [31] (fun i wr=> ∃k:Nat,k≤n∧i= .int .i64 k∧Own wr g n n (filled (gen n (shiftG W H xs dx dy)) (List.replicate n 0) k)∧(w2.alloc (.cells #[.int .i64 W, .int .i64 H, .slice (some ⟨g,0,none⟩) n n] 31)).grownBy wr (some g)) (fun i _=>n - (intOf i).toNat)
       case atStart=>exact ⟨0,Nat.zero_le _,rfl,by rw [filled_zero];exact HO.out.alloc _,grown_refl _ _⟩
       case round=>
         obtain ⟨k,hk,rfl,ho,hg⟩:=hrel
         have HBr:=Lib.hid ((HB2.out.alloc HB2.out.size _).grown hg (by have:=HB2.out.size;simp;omega) (by intro k hk;cases hk;have:=HG.out;omega))
         have KO:=Lib.hid ((Blk.new w2 31 #[.int .i64 W, .int .i64 H, .slice (some ⟨g,0,none⟩) n n]).grown hg (by have:=HO.out.lt;simp;omega))
         obtain ⟨l0,o0,o1,o2⟩:=KO.out.c3
         have KP:=Lib.hid ((KP2.out.alloc _).grown hg (by have:=HG.out;have:=KP1.out.lt;simp;omega))
         obtain ⟨l9,p0,p1,p2⟩:=KP.out.c3
         by_cases hlt:k<n
         · have e1:0≤(k:Int) % W:=Int.emod_nonneg _ (by omega)
           have e2:(k:Int) % W<W:=Int.emod_lt_of_pos _ (by omega)
           have e3:0≤(k:Int)/W:=Int.ediv_nonneg (by omega) (by omega)
           have e4:(k:Int)/W≤k:=Int.ediv_le_self _ (by omega)
           have g2:wr.cell? ⟨g,k,none⟩=some (.int .i64 ((filled (gen n (shiftG W H xs dx dy)) (List.replicate n 0) k).getD k 0)):=ho.cell hlt
           have g3:wr.frozen? ⟨g,k,none⟩=false:=ho.frozen k
           have gl:=ho.lt
           have HO4:=Lib.hid ho
           clear ho
           have hW0:(W==0)=false:=by simp;omega
           have hW1: ¬W=0:=by omega
           have N1:g≠w.heap.size:=by have:=HG.out;have:=KR1.out.lt;omega
           have N2:g≠w2.heap.size:=by have:=HO.out.lt;omega
           go_wp2_with fail
           go_region_held3 (fun v=>v.cell? ⟨w.heap.size,0,none⟩=some (.int .i64 W)∧v.cell? ⟨w.heap.size,1,none⟩=some (.int .i64 H)∧v.cell? ⟨w.heap.size,2,none⟩=some (.slice ad n cap)∧v.cell? ⟨w2.heap.size,2,none⟩=some (.slice (some ⟨g,0,none⟩) n n))
             (first | exact ⟨p0,p1,p2,o2⟩ | exact ⟨(hq1.cell l9).trans p0,(hq1.cell l9).trans p1,(hq1.cell l9).trans p2,(hq1.cell l0).trans o2⟩ | exact ⟨cell_far y0 N1,cell_far y1 N1,cell_far y2 N1,cell_far y3 N2⟩)
             (first
               | (go_at_call 44;((with_reducible refine (impl_wrappedRank W H ad n cap xs _ _ _ HN.out (by exact (HA.out.below HBr.out).of_heap rfl) HQ.out b1 b3 hn2 b2 b4).mono ?_);rintro e v1 ⟨rfl,hq1⟩;have y0:=(hq1.cell l9).trans p0;have y1:=(hq1.cell l9).trans p1;have y2:=(hq1.cell l9).trans p2;have y3:=(hq1.cell l0).trans o2;have t2:=(hq1.cell gl).trans g2;have t3:=(hq1.frozen gl).trans g3)))
           have hv:(gen n (shiftG W H xs dx dy)).getD k 0=rankOf W H xs ((k:Int) % W - dx) ((k:Int)/W - dy):=gen_get _ _ _ hlt
           have hs:=((HO4.out.drewN 1).below hq1 gl).set k (rankOf W H xs ((k:Int) % W - dx) ((k:Int)/W - dy))
           rw [filled_succ (gen n (shiftG W H xs dx dy)) _ k _ (by rw [gen_len];exact hlt) (by simp;omega) hv] at hs
           have HSt:=Lib.hid hs
           have hg5:=grown_trans hg (grown_of_below (row:=some g) (below_undrew hq1))
           clear hs hv hg
           go_wp2_with fail
           go_roundw
           case rel=>exact ⟨k+1,by omega,by go_num,HSt.out,grown_set hg5 _⟩
           case measure=>simp [intOf];omega
         · obtain rfl:n=k:=by omega
           have KR:=Lib.hid ((KR2.out.alloc _).grown hg (by have:=HG.out;have:=KR2.out.lt;simp;omega))
           obtain ⟨r0,r1,r2,r3⟩:=KR.out.c3
           obtain ⟨q0,q1,q2⟩:=KR.out.f3
           rw [filled_at (gen n (shiftG W H xs dx dy)) _ n (by rw [gen_len]) (by simp)] at ho
           have HO3:=Lib.hid ho
           clear ho
           go_wp2_with fail
           exact bodyPost_ret (v:= .agg #[.int .i64 W, .int .i64 H, .slice (some ⟨g,0,none⟩) n n]) (by simp [results,Tryz.results98,go_sem,r1,r2,r3]) rfl
             ⟨_,_,_,rfl,OwnA.mk (((HO3.out.other (by have:=HG.out;simp;omega) _).other (by have:=HG.out;simp;omega) _).other (by have:=HG.out;simp;omega) _) (by have:=HG.out;omega),by omega,
               ((HBr.out.setCell (by first | (simp;done) | (simp;omega)) _).setCell (by first | (simp;done) | (simp;omega)) _).setCell (by first | (simp;done) | (simp;omega)) _⟩
theorem step_append (w:World) {ops:Array Oper} {o:Oper} {a:Act} {K:Act→World→Prop} {Q:Exit→Act→World→Prop} {E:Prop}
   (hgd:o.guard=none) (s x:Operand) (hop:o.op= .call {callee:= .builtin .append,args:=#[s,x],argTypes:=#[25,25]})
   (B n cap:Nat) (ad:Option Addr) (xs:List Int) (hs:a.eval s= .slice ad n cap) (ho:OwnA w B ad n cap xs) (g:Nat) (v:Int) (hx:a.eval x= .slice (some ⟨g,0,none⟩) 1 1)
   (hc:w.cell? ⟨g,0,none⟩=some (.int .i64 v)) (hn:n≤1048576) (hB:B≤w.heap.size)
   (hK: ∀ad' cap' w',OwnA w' B ad' (n+1) cap' (xs++ [v])→w.grownBy w' (blockOf ad)→K (a.put o.dst (.slice ad' (n+1) cap')) w'):
   if Region.wanted o (yielded ops a.tmps)=true then Oper.wp Tryz.prog o a w K Q else E:=by
 have hw:Region.wanted o (yielded ops a.tmps)=true:=by simp [Region.wanted,hgd]
 rw [if_pos hw]
 obtain ⟨i,hi,hz0,hz1,hz2⟩:=info_parts infoInt
 refine wp_append_own w s x 25 hop B 3 i (.int .i64 0) 1 8 Tryz.underlying25 hi hz0 hz1 hz2 rfl (by decide) _ n (xs.map (Value.int .i64)) hs ho.toRow ⟨g,0,none⟩ 1 1 [.int .i64 v] hx rfl ?_ ?_ (by unfold maxLen;omega) (by omega) hB ?_
 · intro j u hj
   match j,hj with
   | 0,hj=>simp at hj;subst hj;simpa [Addr.add] using hc
 · intro u hu;simp at hu;subst hu;rfl
 · intro v' w' h2 h3 _
   have h4:w'.ownsRow B 3 1 v' (n+1) ((xs++ [v]).map (Value.int .i64)):=by simpa using h2
   obtain ⟨ad',cap',rfl,h5⟩:=OwnA.ofRow h4
   rw [blockOf_own] at h3
   exact hK ad' cap' w' h5 h3
theorem within_set {xs:List Int} {m:Int} (h:within xs m=true) (k:Nat) (v:Int) (h0:0≤v) (h1:v≤m):within (xs.set k v) m=true:=by
 unfold within at h⊢
 rw [List.all_eq_true] at h⊢
 intro x hx
 rcases List.mem_or_eq_of_mem_set hx with h2 | h2
 · exact h x h2
 · subst h2;simp [h0,h1]
theorem within_zero (n:Nat) (m:Int) (h:0≤m):within (List.replicate n 0) m=true:=by
 unfold within
 rw [List.all_eq_true]
 intro x hx
 rw [List.mem_replicate] at hx
 rw [hx.2];simp [h]
theorem grown_setNew {a b:World} {row:Option Nat} {p:Addr} (h:a.grownBy b row) (hp:a.heap.size≤p.block) (u:Value):a.grownBy (b.setCell p u) row:=
 ⟨h.os,h.tape,h.output,by have:=h.size;simp [World.setCell];omega,fun i hi hr=>(Below.heap_setCell b p u i (by omega)).trans (h.block i hi hr)⟩
theorem grown_bel {a b c:World} {row:Option Nat} (h:a.grownBy b row) (hb:Below b.heap.size b c):a.grownBy c row:=grown_trans h (grown_of_below hb)
theorem sizeOk_small {W H m:Int} (h1:1≤W) (h2:W≤m) (h3:1≤H) (h4:H≤m) (hm:m≤16):sizeOk W H=true:=by
 have e:W*H≤16*16:=Int.mul_le_mul (by omega) (by omega) (by omega) (by omega)
 unfold sizeOk
 rw [decide_eq_true_iff]
 omega
def DrawOut (w:World) (c:Nat) (ac:Option Addr) (nc capc:Nat) (bs:List Int) (most ink:Int) (e:Ending) (w':World):Prop:=
 ∃(W H:Int) (g n:Nat) (xs:List Int),e= .returned (.agg #[.int .i64 W, .int .i64 H, .slice (some ⟨g,0,none⟩) n n])∧1≤W∧W≤most∧1≤H∧H≤most∧(n:Int)=W*H∧w.heap.size≤g∧Own w' g n n xs∧within xs ink=true∧Cur w' c ac nc capc bs∧w.grownBy w' (some c)
theorem rd_lit6 (w:World) (a b c d e f:Int) (T:Nat):Rd (w.alloc (.cells #[.int .i64 a, .int .i64 b, .int .i64 c, .int .i64 d, .int .i64 e, .int .i64 f] T)) (some ⟨w.heap.size,0,none⟩) [a,b,c,d,e,f]:=by
 intro k hk
 refine ⟨w.heap.size,0,rfl,by simp,?_⟩
 rw [Nat.zero_add,(Blk.new w T _).cell k]
 match k,hk with
 | 0,_=>rfl
 | 1,_=>rfl
 | 2,_=>rfl
 | 3,_=>rfl
 | 4,_=>rfl
 | 5,_=>rfl
theorem ramp_bd' {W d:Int} {k:Nat} (hW:1≤W) (hd:1≤d) (hd2:W - 1≤d):0≤(k:Int) % W*255/d∧(k:Int) % W*255/d≤255:=by
 have e1:0≤(k:Int) % W:=Int.emod_nonneg _ (by omega)
 have e2:(k:Int) % W<W:=Int.emod_lt_of_pos _ (by omega)
 constructor
 · exact Int.ediv_nonneg (by omega) (by omega)
 · have:(k:Int) % W*255/d<256:=Int.ediv_lt_of_lt_mul (by omega) (by omega)
   omega
set_option maxHeartbeats 3200000 in
theorem spec_l1Draw (c:Nat) (ac:Option Addr) (nc capc:Nat) (bs:List Int) (most:Int) (w:World) (hc:Cur w c ac nc capc bs) (h1:1≤most) (h2:most≤16):
   Calls Tryz.prog 52 #[.pointer (some ⟨c,0,none⟩), .int .i64 most] w (DrawOut w c ac nc capc bs most 255):=by
 have hcl:=hc.lt
 go_enter Tryz.func52,Tryz.ntmps52
 go_wp2_with fail
 refine (spec_l01Below c ac nc capc bs most _ (hc.alloc _) h1 (by omega)).mono ?_
 rintro e w1 ⟨v1,rfl,a0,a1,hc1,hg1⟩
 have HC1:=Lib.hid hc1
 have G1:=Lib.hid (grown_trans (World.grownBy_alloc w (.cells #[.int .i64 0, .int .i64 0, .slice none 0 0] 27) (some c)) hg1)
 have KR1:=Lib.hid ((Blk.new w 27 #[.int .i64 0, .int .i64 0, .slice none 0 0]).grown hg1 (by intro e;have:=Option.some.inj e;omega))
 clear hc1 hg1
 go_wp2_with fail
 refine (spec_l01Below c ac nc capc bs most _ HC1.out h1 (by omega)).mono ?_
 rintro e w2 ⟨v2,rfl,b0,b1,hc2,hg2⟩
 have HC2:=Lib.hid hc2
 have G2:=Lib.hid (grown_trans G1.out hg2)
 have KR2:=Lib.hid (KR1.out.grown hg2 (by intro e;have:=Option.some.inj e;omega))
 clear hc2 hg2
 have HS:=Lib.hid (sizeOk_small (W:=1+v1) (H:=1+v2) (m:=most) (by omega) (by omega) (by omega) (by omega) h2)
 obtain ⟨n,hq⟩: ∃n:Nat,(n:Int)=(1+v1)*(1+v2):=⟨_,(toNat_mul HS.out).1⟩
 have HQ:=Lib.hid hq
 obtain ⟨s1,s2,s3,s4,s5,s6⟩:=sizeOk_bd HS.out
 have hn1:1≤n:=by omega
 have hn2:n≤1024:=by omega
 clear hq
 go_wp2_with fail
 refine (spec_l1Empty (1+v1) (1+v2) n _ HS.out HQ.out).mono ?_
 rintro e w3 ⟨g,rfl,hg,ho,hb⟩
 have HC3:=Lib.hid (HC2.out.below' hb)
 have G3:=Lib.hid (grown_bel G2.out hb)
 have KR3:=Lib.hid (KR2.out.below' hb)
 have HO3:=Lib.hid ho
 have HG:Hid (w.heap.size+1≤g):=Lib.hid (by have:=KR2.out.lt;omega)
 clear hb hg ho
 go_wp2_with fail
 refine (spec_l01Below c ac nc capc bs 4 _ (HC3.out.alloc _) (by omega) (by omega)).mono ?_
 rintro e w4 ⟨v4,rfl,d0,d1,hc4,hg4⟩
 have HC4:=Lib.hid hc4
 have G4:=Lib.hid (grown_trans (grown_trans G3.out (World.grownBy_alloc _ _ _)) hg4)
 have KR4:=Lib.hid ((KR3.out.alloc (.cells #[.int .i64 (1+v1), .int .i64 (1+v2), .slice (some ⟨g,0,none⟩) n n] 27)).grown hg4 (by intro e;have:=Option.some.inj e;omega))
 have KB4:=Lib.hid ((Blk.new w3 27 #[.int .i64 (1+v1), .int .i64 (1+v2), .slice (some ⟨g,0,none⟩) n n]).grown hg4 (by intro e;have:=Option.some.inj e;have:=G3.out.size;omega))
 have HO4:=Lib.hid ((HO3.out.alloc (.cells #[.int .i64 (1+v1), .int .i64 (1+v2), .slice (some ⟨g,0,none⟩) n n] 27)).grown hg4 (by intro e;have:=Option.some.inj e;have:=HG.out;omega))
 obtain ⟨l0,o0,o1,o2⟩:=KB4.out.c3
 clear hc4 hg4
 go_wp2_with fail
 go_loopw [22] (fun i wr=> ∃(k:Nat) (xs:List Int),k≤n∧i= .int .i64 k∧Own wr g n n xs∧Hid (within xs 255=true)∧Blk wr w3.heap.size 27 #[.int .i64 (1+v1), .int .i64 (1+v2), .slice (some ⟨g,0,none⟩) n n]∧Blk wr w.heap.size 27 #[.int .i64 0, .int .i64 0, .slice none 0 0]∧Cur wr c ac nc capc bs∧w.grownBy wr (some c)) (fun i _=>n - (intOf i).toNat)
 case atStart=>exact ⟨0,_,Nat.zero_le _,rfl,HO4.out,within_zero n 255 (by omega),KB4.out,KR4.out,HC4.out,G4.out⟩
 case round=>
   obtain ⟨k,xs,hk,rfl,ho,HX,hb1,hb2,hcr,hgr⟩:=hrel
   have HO:=Lib.hid ho
   have KB:=Lib.hid hb1
   have KR:=Lib.hid hb2
   have HC:=Lib.hid hcr
   have HGr:=Lib.hid hgr
   clear o0 o1 o2 l0
   obtain ⟨l0,o0,o1,o2⟩:=KB.out.c3
   have gl:=ho.lt
   have N3:w.heap.size<w3.heap.size:=KR3.out.lt
   have N2:g≠w3.heap.size:=by have:=HO3.out.lt;omega
   have N1:g≠w.heap.size:=by have:=HG.out;omega
   have N4:c<g:=by have:=HG.out;omega
   clear ho hb1 hb2 hcr hgr
   by_cases hlt:k<n
   · by_cases k0:v4=0
     · subst k0
       go_wp2_with fail
       go_region_held3 (fun v=>v.cell? ⟨w3.heap.size,2,none⟩=some (.slice (some ⟨g,0,none⟩) n n))
         (first | exact o2 | exact z2 | exact cell_far z2 N2)
         (first
           | (go_at_call 54;((with_reducible refine (spec_l01Below c ac nc capc bs 256 _ (by exact HC.out.drew) (by omega) (by omega)).mono ?_);rintro e v1' ⟨x,rfl,x0,x1,hcv,hgv⟩;have HOv:=Lib.hid ((HO.out.drewN 1).grown hgv (by intro e;have:=Option.some.inj e;omega));have KBv:=Lib.hid (KB.out.drew.grown hgv (by intro e;have:=Option.some.inj e;omega));have KRv:=Lib.hid (KR.out.drew.grown hgv (by intro e;have:=Option.some.inj e;omega));obtain ⟨lv,z0,z1,z2⟩:=KBv.out.c3;have t2:=HOv.out.cell hlt;have t3:=HOv.out.frozen k)))
       have HCv:=Lib.hid hcv
       have HGv:=Lib.hid (grown_trans (grown_drewN HGr.out 1) hgv)
       have hx2:x≤255:=by omega
       clear hcv hgv
       go_wp2_with fail
       go_roundw
       case rel=>exact ⟨k+1,xs.set k x,by omega,by go_num,HOv.out.set k x,within_set HX.out k x x0 hx2,KBv.out.other (by simp;omega) _,KRv.out.other (by simp;omega) _,HCv.out.other (by simp;omega) _,grown_setNew HGv.out (by have:=HG.out;simp;omega) _⟩
       case measure=>simp [intOf];omega
     · have q0 :(v4==0)=false:=by simpa using k0
       by_cases k1:v4=1
       · subst k1
         clear q0 k0
         go_wp2_with fail
         go_region_held3 (fun v=>v.cell? ⟨w3.heap.size,2,none⟩=some (.slice (some ⟨g,0,none⟩) n n))
           (first | exact o2 | exact z2 | exact cell_al o2 | exact cell_far z2 N2)
           (first
             | (go_at_call 56;((with_reducible refine (spec_l01Int c ac nc capc bs _ 6 6 [0,255,128,127,1,254] _ (by exact (HC.out.alloc _).drew) rfl (by exact (rd_lit6 _ _ _ _ _ _ _ _).drew) (by intro b off e;have:=HC.out.lt;cases e;omega) (by omega) (by omega)).mono ?_);rintro e v1' ⟨x,rfl,hxm,hcv,hgv⟩;have HOv:=Lib.hid (((HO.out.alloc _).drewN 1).grown hgv (by intro e;have:=Option.some.inj e;omega));have KBv:=Lib.hid ((KB.out.alloc _).drew.grown hgv (by intro e;have:=Option.some.inj e;omega));have KRv:=Lib.hid ((KR.out.alloc _).drew.grown hgv (by intro e;have:=Option.some.inj e;omega));obtain ⟨lv,z0,z1,z2⟩:=KBv.out.c3;have t2:=HOv.out.cell hlt;have t3:=HOv.out.frozen k)))
         have HCv:=Lib.hid hcv
         have HGv:=Lib.hid (grown_trans (grown_drewN (grown_trans HGr.out (World.grownBy_alloc _ _ _)) 1) hgv)
         have hx2:0≤x∧x≤255:=by simp at hxm;omega
         obtain ⟨x0,hx2⟩:=hx2
         clear hcv hgv hxm
         go_wp2_with fail
         go_roundw
         case rel=>exact ⟨k+1,xs.set k x,by omega,by go_num,HOv.out.set k x,within_set HX.out k x x0 hx2,KBv.out.other (by simp;omega) _,KRv.out.other (by simp;omega) _,HCv.out.other (by simp;omega) _,grown_setNew HGv.out (by have:=HG.out;simp;omega) _⟩
         case measure=>simp [intOf];omega
       · have q1:(v4==1)=false:=by simpa using k1
         by_cases k2:v4=2
         · subst k2
           clear q0 k0 q1 k1
           go_wp2_with fail
           go_region_held3 (fun v=>v.cell? ⟨w3.heap.size,2,none⟩=some (.slice (some ⟨g,0,none⟩) n n))
             (first | exact o2 | exact z2 | exact cell_far z2 N2)
             (first
               | (go_at_call 54;((with_reducible refine (spec_l01Below c ac nc capc bs 2 _ (by exact HC.out.drew) (by omega) (by omega)).mono ?_);rintro e v1' ⟨x,rfl,x0,x1,hcv,hgv⟩;have HOv:=Lib.hid ((HO.out.drewN 1).grown hgv (by intro e;have:=Option.some.inj e;omega));have KBv:=Lib.hid (KB.out.drew.grown hgv (by intro e;have:=Option.some.inj e;omega));have KRv:=Lib.hid (KR.out.drew.grown hgv (by intro e;have:=Option.some.inj e;omega));obtain ⟨lv,z0,z1,z2⟩:=KBv.out.c3;have t2:=HOv.out.cell hlt;have t3:=HOv.out.frozen k)))
           have HCv:=Lib.hid hcv
           have HGv:=Lib.hid (grown_trans (grown_drewN HGr.out 1) hgv)
           have hx2:x≤255:=by omega
           clear hcv hgv
           go_wp2_with fail
           go_roundw
           case rel=>exact ⟨k+1,xs.set k x,by omega,by go_num,HOv.out.set k x,within_set HX.out k x x0 hx2,KBv.out.other (by simp;omega) _,KRv.out.other (by simp;omega) _,HCv.out.other (by simp;omega) _,grown_setNew HGv.out (by have:=HG.out;simp;omega) _⟩
           case measure=>simp [intOf];omega
         · have q2:(v4==2)=false:=by simpa using k2
           clear k0 k1 k2
           have e1:0≤(k:Int) % (1+v1):=Int.emod_nonneg _ (by omega)
           have e2:(k:Int) % (1+v1)<1+v1:=Int.emod_lt_of_pos _ (by omega)
           have g2:=HO.out.cell hlt
           have g3:=HO.out.frozen k
           go_wp2_with fail
           go_region
           go_wp2_with fail
           go_roundw
           case rel=>
             obtain ⟨u0,u1⟩:=ramp_bd' (W:=1+v1) (k:=k) (d:=if 1<1+v1 - 1 then 1+v1 - 1 else 1) s1 (by split <;>omega) (by split <;>omega)
             exact ⟨k+1,_,by omega,by go_num,(HO.out.set k _).drewN 1,within_set HX.out k _ u0 u1,(KB.out.other (by simp;omega) _).drew,(KR.out.other (by simp;omega) _).drew,(HC.out.other (by simp;omega) _).drew,grown_drewN (grown_setNew HGr.out (by have:=HG.out;simp;omega) _) 1⟩
           case measure=>simp [intOf];omega
   · obtain rfl:n=k:=by omega
     obtain ⟨r0,r1,r2,r3⟩:=KR.out.c3
     obtain ⟨q0,q1,q2⟩:=KR.out.f3
     go_wp2_with fail
     exact bodyPost_ret (v:= .agg #[.int .i64 (1+v1), .int .i64 (1+v2), .slice (some ⟨g,0,none⟩) n n]) (by simp [results,Tryz.results52,go_sem,r1,r2,r3]) rfl
       ⟨_,_,g,n,xs,rfl,by omega,by omega,by omega,by omega,HQ.out,by have:=HG.out;omega,((HO.out.other (by simp;omega) _).other (by simp;omega) _).other (by simp;omega) _,HX.out,
         ((HC.out.other (by simp;omega) _).other (by simp;omega) _).other (by simp;omega) _,grown_setNew (grown_setNew (grown_setNew HGr.out (by simp) _) (by simp) _) (by simp) _⟩
end Go.Proofs.YtanccoopbgamdaaGreatDoor
