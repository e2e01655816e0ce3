/-
  Contracts and plain facts on which the theorem of this claim rests, text 4.
-/
import Derived.Deep.RegionHeld3
import Derived.OrdersHeld
import Derived.StillTailTactics
import Derived.Test.YtanccoopbgamdaaGreatDoorKC1
import Derived.Test.YtanccoopbgamdaaGreatDoorKC3
namespace Go.Proofs.YtanccoopbgamdaaGreatDoor
open Go.RowKit
set_option linter.unusedVariables false
set_option linter.unusedSimpArgs false
set_option maxHeartbeats 800000 in
theorem impl_ReverseMatrix (W H:Int) (ad:Option Addr) (n cap:Nat) (xs:List Int) (w:World) (hn:xs.length=n) (ha:Rd w ad xs) (hl:n≤9223372036854775807):
   Calls Tryz.prog 75 #[.agg #[.int .i64 W, .int .i64 H, .slice ad n cap]] w (MatOut w (revF W H xs)):=by
 have HN:=Lib.hid hn
 have HA:=Lib.hid ha
 clear hn ha
 by_cases hp:matOk W H xs=true
 case neg=>
   have hp2:matOk W H xs=false:=by simpa using hp
   rw [revF_no hp]
   clear hp
   go_enter Tryz.func75,Tryz.ntmps75
   go_wp2_with fail
   refine (impl_IsMatrix _ _ _ _ _ xs _ HN.out (by exact (HA.out.alloc _).alloc _) hl).mono ?_
   rintro e w1 ⟨rfl,hb⟩
   have HB1:=Lib.hid ((Joins.below_alloc2 _ _ _).trans (hb.mono (by simp;omega)))
   have KP1:=Lib.hid (((Blk.new w 31 #[.int .i64 W, .int .i64 H, .slice ad n cap]).alloc _).below' hb)
   have KR1:Hid (Blk w1 (w.heap.size+1) 31 #[.int .i64 0, .int .i64 0, .slice none 0 0]):=by
     have h:=(Blk.new (w.alloc (.cells #[.int .i64 W, .int .i64 H, .slice ad n cap] 31)) 31 #[.int .i64 0, .int .i64 0, .slice none 0 0]).below' hb
     exact Lib.hid (by simpa using h)
   obtain ⟨l1,c0,c1,c2⟩:=KP1.out.c3
   obtain ⟨m1,d0,d1,d2⟩:=KR1.out.c3
   obtain ⟨f0,f1,f2⟩:=KR1.out.f3
   clear hb
   rw [hp2]
   go_wp2_with fail
   exact bodyPost_ret (v:= .agg #[.int .i64 0, .int .i64 0, .slice none 0 0]) (by simp [results,Tryz.results75,go_sem,d0,d1,d2]) rfl ⟨none,0,0,rfl,OwnA.none _ _,by omega,
     ((HB1.out.setCell (by first | (simp;done) | (simp;omega)) _).setCell (by first | (simp;done) | (simp;omega)) _).setCell (by first | (simp;done) | (simp;omega)) _⟩
 case pos=>
   rw [revF_yes HN.out hp]
   obtain ⟨hs,hq,hi,hd⟩:=matOk_bd HN.out hp
   obtain ⟨b1,b2,b3,b4,b5,b6⟩:=matSize_bd hs
   have HQ:=Lib.hid hq
   have HI:=Lib.hid hi
   have HD:=Lib.hid hd
   have HS:=Lib.hid hs
   have hn1:1≤n:=by omega
   have hn2:n≤256:=by omega
   clear hq hi hs hd
   go_enter Tryz.func75,Tryz.ntmps75
   go_wp2_with fail
   refine (impl_IsMatrix _ _ _ _ _ xs _ HN.out (by exact (HA.out.alloc _).alloc _) hl).mono ?_
   rintro e w1 ⟨rfl,hb⟩
   have HB1:=Lib.hid ((Joins.below_alloc2 _ _ _).trans (hb.mono (by simp;omega)))
   have KP1:=Lib.hid (((Blk.new w 31 #[.int .i64 W, .int .i64 H, .slice ad n cap]).alloc _).below' hb)
   have KR1:Hid (Blk w1 (w.heap.size+1) 31 #[.int .i64 0, .int .i64 0, .slice none 0 0]):=by
     have h:=(Blk.new (w.alloc (.cells #[.int .i64 W, .int .i64 H, .slice ad n cap] 31)) 31 #[.int .i64 0, .int .i64 0, .slice none 0 0]).below' hb
     exact Lib.hid (by simpa using h)
   obtain ⟨l1,c0,c1,c2⟩:=KP1.out.c3
   obtain ⟨m1,d0,d1,d2⟩:=KR1.out.c3
   obtain ⟨f0,f1,f2⟩:=KR1.out.f3
   clear hb
   rw [hp]
   go_wp2_with fail
   refine (impl_blankM W H n _ HS.out HQ.out).mono ?_
   rintro e w2 ⟨g,rfl,hg,ho,hb⟩
   have HB2:=Lib.hid (HB1.out.trans (hb.mono HB1.out.size))
   have KP2:=Lib.hid (KP1.out.below' hb)
   have KR2:=Lib.hid (KR1.out.below' hb)
   have HO:=Lib.hid ho
   have HG:Hid (w1.heap.size≤g):=Lib.hid hg
   clear hb hg ho c0 c1 c2 d0 d1 d2 f0 f1 f2
   obtain ⟨l2,c0,c1,c2⟩:=KP2.out.c3
   go_wp2_with fail
   go_loopw [18] (fun i wr=> ∃k:Nat,k≤n∧i= .int .i64 k∧Own wr g n n (filled (xs.map (fun v=>(n:Int) - 1 - v)) (List.replicate n 0) k)∧(w2.alloc (.cells #[.int .i64 W, .int .i64 H, .slice (some ⟨g,0,none⟩) n n] 31)).grownBy wr (some g)) (fun i _=>n - (intOf i).toNat)
   case atStart=>exact ⟨0,Nat.zero_le _,rfl,by rw [filled_zero];exact HO.out.alloc _,grown_refl _ _⟩
   case round=>
     obtain ⟨k,hk,rfl,ho,hg⟩:=hrel
     have HBr:=Lib.hid ((HB2.out.alloc HB2.out.size _).grown hg (by have:=HB2.out.size;simp;omega) (by intro k hk;cases hk;have:=HG.out;omega))
     have KO:=Lib.hid ((Blk.new w2 31 #[.int .i64 W, .int .i64 H, .slice (some ⟨g,0,none⟩) n n]).grown hg (by have:=HO.out.lt;simp;omega))
     obtain ⟨l0,o0,o1,o2⟩:=KO.out.c3
     have KP:=Lib.hid ((KP2.out.alloc _).grown hg (by have:=HG.out;have:=KP1.out.lt;simp;omega))
     obtain ⟨l9,p0,p1,p2⟩:=KP.out.c3
     by_cases hlt:k<n
     · obtain ⟨ba,oa,hae,hal,hac⟩:=(HA.out.below HBr.out).at (by have:=HN.out;omega)
       have h1:=hac (k) (by have:=HN.out;omega)
       subst hae
       clear hac
       obtain ⟨v1,v2⟩:=inR_at HI.out k (by have:=HN.out;omega)
       have g2:wr.cell? ⟨g,k,none⟩=some (.int .i64 ((filled (xs.map (fun v=>(n:Int) - 1 - v)) (List.replicate n 0) k).getD k 0)):=ho.cell hlt
       have g3:wr.frozen? ⟨g,k,none⟩=false:=ho.frozen k
       have hs:=ho.set k ((n:Int) - 1 - xs[k]?.getD 0)
       rw [filled_succ (xs.map (fun v=>(n:Int) - 1 - v)) _ k _ (by have:=HN.out;simp;omega) (by simp;omega) (map_get _ _ _ (by have:=HN.out;omega))] at hs
       have HSt:=Lib.hid hs
       clear hs ho
       go_wp2_with fail
       go_roundw
       case rel=>exact ⟨k+1,by omega,by go_num,by simpa using HSt.out,grown_set hg _⟩
       case measure=>simp [intOf];omega
     · obtain rfl:n=k:=by omega
       have KR:=Lib.hid ((KR2.out.alloc _).grown hg (by have:=HG.out;have:=KR2.out.lt;simp;omega))
       obtain ⟨r0,r1,r2,r3⟩:=KR.out.c3
       obtain ⟨q0,q1,q2⟩:=KR.out.f3
       rw [filled_at (xs.map (fun v=>(n:Int) - 1 - v)) _ n (by simp [HN.out]) (by simp)] at ho
       have HO3:=Lib.hid ho
       clear ho
       go_wp2_with fail
       exact bodyPost_ret (v:= .agg #[.int .i64 W, .int .i64 H, .slice (some ⟨g,0,none⟩) n n]) (by simp [results,Tryz.results75,go_sem,r1,r2,r3]) rfl
         ⟨_,_,_,rfl,OwnA.mk (((HO3.out.other (by have:=HG.out;simp;omega) _).other (by have:=HG.out;simp;omega) _).other (by have:=HG.out;simp;omega) _) (by have:=HG.out;omega),by omega,
           ((HBr.out.setCell (by first | (simp;done) | (simp;omega)) _).setCell (by first | (simp;done) | (simp;omega)) _).setCell (by first | (simp;done) | (simp;omega)) _⟩
set_option maxHeartbeats 400000 in
theorem impl_partFits (s l side:Int) (w:World) (h1:1≤side) (h2:side≤64) (h3:l≤9223372036854775807):
   Calls Tryz.prog 120 #[.int .i64 s, .int .i64 l, .int .i64 side] w fun e w'=>e= .returned (.bool (decide (1≤l∧0≤s∧s≤side - l)))∧w=w':=by
 by_cases c:1≤l
 · go_enter Tryz.func120,Tryz.ntmps120
   go_wp2
   all_goals (go_ret;exact ⟨ret_bool (by first | (simp [*];done) | (simp [*];omega) | (simp;intros;omega)),rfl⟩)
 · go_enter Tryz.func120,Tryz.ntmps120
   go_wp2
   all_goals (go_ret;exact ⟨ret_bool (by first | (simp [*];done) | (simp [*];omega) | (simp;intros;omega)),rfl⟩)
theorem impl_partFits_yes (s l side:Int) (w:World) (h1:1≤side) (h2:side≤64) (h3:1≤l) (h4:0≤s) (h5:s≤side - l):
   Calls Tryz.prog 120 #[.int .i64 s, .int .i64 l, .int .i64 side] w fun e w'=>e= .returned (.bool true)∧w=w':=
 (impl_partFits s l side w h1 h2 (by omega)).mono fun e w' ⟨he,hw⟩=>⟨by rw [he];exact ret_bool (by simp [h3,h4,h5]),hw⟩
theorem impl_partFits_no (s l side:Int) (w:World) (h1:1≤side) (h2:side≤64) (h3:l≤9223372036854775807) (h4: ¬(1≤l∧0≤s∧s≤side - l)):
   Calls Tryz.prog 120 #[.int .i64 s, .int .i64 l, .int .i64 side] w fun e w'=>e= .returned (.bool false)∧w=w':=
 (impl_partFits s l side w h1 h2 h3).mono fun e w' ⟨he,hw⟩=>⟨by rw [he];exact ret_bool (by simpa using h4),hw⟩
theorem toNat_mul {W H:Int} (h:sizeOk W H=true):((W*H).toNat:Int)=W*H∧(W*H).toNat≤1024∧1≤(W*H).toNat:=by
 obtain ⟨_,_,_,_,b5,b6⟩:=sizeOk_bd h
 omega
set_option maxHeartbeats 400000 in
theorem impl_blank (W H:Int) (n:Nat) (w:World) (hs:sizeOk W H=true) (hn:(n:Int)=W*H):
   Calls Tryz.prog 20 #[.int .i64 W, .int .i64 H] w fun e w'=> ∃g,e= .returned (.agg #[.int .i64 W, .int .i64 H, .slice (some ⟨g,0,none⟩) n n])∧w.heap.size≤g∧Own w' g n n (List.replicate n 0)∧Below w.heap.size w w':=by
 obtain ⟨b1,b2,b3,b4,b5,b6⟩:=sizeOk_bd hs
 have HN:=Lib.hid hn
 have hn2:n≤1024:=by omega
 clear hn
 go_enter Tryz.func20,Tryz.ntmps20
 go_wp2_with (at_make;refine wp_make _ rfl _ _ rfl .i64 .i64 (W*H) (W*H) n rfl rfl HN.out.symm HN.out.symm (by omega) ?_;intro M hM)
 have HM:=Lib.hid hM
 clear hM
 refine bodyPost_ret (v:= .agg #[.int .i64 W, .int .i64 H, .slice (some ⟨w.heap.size+1,0,none⟩) n n]) (by simp [results,Tryz.results20,go_sem]) rfl ⟨w.heap.size+1,rfl,by omega,?_,?_⟩
 · exact HM.out.own' _ (by simp)
 · exact Joins.below_alloc2 _ _ _
set_option maxHeartbeats 400000 in
theorem spec_l1Empty (W H:Int) (n:Nat) (w:World) (hs:sizeOk W H=true) (hn:(n:Int)=W*H):
   Calls Tryz.prog 69 #[.int .i64 W, .int .i64 H] w fun e w'=> ∃g,e= .returned (.agg #[.int .i64 W, .int .i64 H, .slice (some ⟨g,0,none⟩) n n])∧w.heap.size≤g∧Own w' g n n (List.replicate n 0)∧Below w.heap.size w w':=by
 obtain ⟨b1,b2,b3,b4,b5,b6⟩:=sizeOk_bd hs
 have HN:=Lib.hid hn
 have hn2:n≤1024:=by omega
 clear hn
 go_enter Tryz.func69,Tryz.ntmps69
 go_wp2_with (at_make;refine wp_make _ rfl _ _ rfl .i64 .i64 (W*H) (W*H) n rfl rfl HN.out.symm HN.out.symm (by omega) ?_;intro M hM)
 have HM:=Lib.hid hM
 clear hM
 refine bodyPost_ret (v:= .agg #[.int .i64 W, .int .i64 H, .slice (some ⟨w.heap.size+1,0,none⟩) n n]) (by simp [results,Tryz.results69,go_sem]) rfl ⟨w.heap.size+1,rfl,by omega,?_,?_⟩
 · exact HM.out.own' _ (by simp)
 · exact Joins.below_alloc2 _ _ _
theorem flatF_no {W H v:Int} (h: ¬(sizeOk W H=true∧0≤v∧v≤255)):flatF W H v=(noPic,false):=by unfold flatF;rw [if_neg h]
theorem flatF_yes {W H v:Int} {n:Nat} (h:sizeOk W H=true) (h2:0≤v) (h3:v≤255) (hn:(n:Int)=W*H):flatF W H v=(⟨W,H,List.replicate n v⟩,true):=by
 unfold flatF;rw [if_pos ⟨h,h2,h3⟩,←hn];simp
set_option maxHeartbeats 400000 in
theorem impl_FlatPicture (W H v:Int) (w:World):Calls Tryz.prog 51 #[.int .i64 W, .int .i64 H, .int .i64 v] w (PicOut2 w (flatF W H v)):=by
 by_cases hc:sizeOk W H=true∧0≤v∧v≤255
 case neg=>
   rw [flatF_no hc]
   by_cases hs:sizeOk W H=true
   · go_enter Tryz.func51,Tryz.ntmps51
     go_wp2_with (go_at_call 19;refine (impl_isSize _ _ _).mono ?_;rintro e w' ⟨rfl,rfl⟩)
     all_goals first | (exfalso;exact hc ⟨hs,by omega,by omega⟩) | skip
     all_goals (
       skip
       exact bodyPost_ret (v:= .tuple #[.agg #[.int .i64 0, .int .i64 0, .slice none 0 0], .bool false]) (by simp [results,Tryz.results51,go_sem]) rfl ⟨none,0,0,rfl,OwnA.none _ _,by omega,Joins.below_alloc1 _ _⟩
       )
   · have hs2:sizeOk W H=false:=by simpa using hs
     clear hs hc
     go_enter Tryz.func51,Tryz.ntmps51
     go_wp2_with (go_at_call 19;refine (impl_isSize _ _ _).mono ?_;rintro e w' ⟨rfl,rfl⟩)
     exact bodyPost_ret (v:= .tuple #[.agg #[.int .i64 0, .int .i64 0, .slice none 0 0], .bool false]) (by simp [results,Tryz.results51,go_sem]) rfl ⟨none,0,0,rfl,OwnA.none _ _,by omega,Joins.below_alloc1 _ _⟩
 case pos=>
   obtain ⟨hs,v1,v2⟩:=hc
   obtain ⟨n,hq⟩: ∃n:Nat,(n:Int)=W*H:=⟨_,(toNat_mul hs).1⟩
   obtain ⟨b1,b2,b3,b4,b5,b6⟩:=sizeOk_bd hs
   have hn1:1≤n:=by omega
   have hn2:n≤1024:=by omega
   rw [flatF_yes hs v1 v2 hq]
   have HQ:=Lib.hid hq
   clear hq
   go_enter Tryz.func51,Tryz.ntmps51
   go_wp2_with (go_at_call 19;refine (impl_isSize _ _ _).mono ?_;rintro e w' ⟨rfl,rfl⟩)
   refine (impl_blank W H n _ hs HQ.out).mono ?_
   rintro e w2 ⟨g,rfl,hg,ho,hb⟩
   have HB2:=Lib.hid ((Joins.below_alloc1 _ _).trans (hb.mono (by simp)))
   have KR2:=Lib.hid ((Blk.new w 27 #[.int .i64 0, .int .i64 0, .slice none 0 0]).below' hb)
   have HO:=Lib.hid ho
   have HG:Hid (w.heap.size+1≤g):=Lib.hid (by simpa using hg)
   clear hb ho hg
   go_wp2_with fail
   go_loopw [29] (fun i wr=> ∃k:Nat,k≤n∧i= .int .i64 k∧Own wr g n n (filled (List.replicate n v) (List.replicate n 0) k)∧(w2.alloc (.cells #[.int .i64 W, .int .i64 H, .slice (some ⟨g,0,none⟩) n n] 27)).grownBy wr (some g)) (fun i _=>n - (intOf i).toNat)
   case atStart=>exact ⟨0,Nat.zero_le _,rfl,by rw [filled_zero];exact HO.out.alloc _,grown_refl _ _⟩
   case round=>
     obtain ⟨k,hk,rfl,ho,hg⟩:=hrel
     have HBr:=Lib.hid ((HB2.out.alloc HB2.out.size _).grown hg (by have:=HB2.out.size;simp;omega) (by intro k hk;cases hk;have:=HG.out;omega))
     have KO:=Lib.hid ((Blk.new w2 27 #[.int .i64 W, .int .i64 H, .slice (some ⟨g,0,none⟩) n n]).grown hg (by have:=HO.out.lt;simp;omega))
     obtain ⟨l0,o0,o1,o2⟩:=KO.out.c3
     by_cases hlt:k<n
     · have g2:wr.cell? ⟨g,k,none⟩=some (.int .i64 ((filled (List.replicate n v) (List.replicate n 0) k).getD k 0)):=ho.cell hlt
       have g3:wr.frozen? ⟨g,k,none⟩=false:=ho.frozen k
       have hs:=ho.set k (v)
       rw [filled_succ (List.replicate n v) _ k _ (by simp;omega) (by simp;omega) (by simp [List.getD,hlt])] at hs
       have HSt:=Lib.hid hs
       clear hs ho
       go_wp2_with fail
       go_roundw
       case rel=>exact ⟨k+1,by omega,by go_num,by simpa using HSt.out,grown_set hg _⟩
       case measure=>simp [intOf];omega
     · obtain rfl:n=k:=by omega
       have KR:=Lib.hid ((KR2.out.alloc _).grown hg (by have:=HG.out;have:=KR2.out.lt;simp;omega))
       obtain ⟨r0,r1,r2,r3⟩:=KR.out.c3
       obtain ⟨q0,q1,q2⟩:=KR.out.f3
       rw [filled_at (List.replicate n v) _ n (by simp) (by simp)] at ho
       have HO3:=Lib.hid ho
       clear ho
       go_wp2_with fail
       exact bodyPost_ret (v:= .tuple #[.agg #[.int .i64 W, .int .i64 H, .slice (some ⟨g,0,none⟩) n n], .bool true]) (by simp [results,Tryz.results51,go_sem,r1,r2,r3]) rfl
         ⟨_,_,_,rfl,OwnA.mk (((HO3.out.other (by have:=HG.out;simp;omega) _).other (by have:=HG.out;simp;omega) _).other (by have:=HG.out;simp;omega) _) (by have:=HG.out;omega),by omega,
           ((HBr.out.setCell (by first | (simp;done) | (simp;omega)) _).setCell (by first | (simp;done) | (simp;omega)) _).setCell (by first | (simp;done) | (simp;omega)) _⟩
theorem spec_l1In_yes (x a b:Int) (w:World) (h1:a≤x) (h2:x≤b):
   Calls Tryz.prog 60 #[.int .i64 x, .int .i64 a, .int .i64 b] w fun e w'=>e= .returned (.bool true)∧w=w':=
 (spec_l1In x a b w).mono fun e w' ⟨he,hw⟩=>⟨by rw [he];exact ret_bool (by simp [h1,h2]),hw⟩
theorem spec_l1In_no (x a b:Int) (w:World) (h: ¬(a≤x∧x≤b)):
   Calls Tryz.prog 60 #[.int .i64 x, .int .i64 a, .int .i64 b] w fun e w'=>e= .returned (.bool false)∧w=w':=
 (spec_l1In x a b w).mono fun e w' ⟨he,hw⟩=>⟨by rw [he];exact ret_bool (by simpa using h),hw⟩
theorem impl_isSize_yes (W H:Int) (w:World) (h:sizeOk W H=true):
   Calls Tryz.prog 19 #[.int .i64 W, .int .i64 H] w fun e w'=>e= .returned (.bool true)∧w=w':=
 (impl_isSize W H w).mono fun e w' ⟨he,hw⟩=>⟨by rw [he,h],hw⟩
theorem impl_isSize_no (W H:Int) (w:World) (h: ¬sizeOk W H=true):
   Calls Tryz.prog 19 #[.int .i64 W, .int .i64 H] w fun e w'=>e= .returned (.bool false)∧w=w':=
 (impl_isSize W H w).mono fun e w' ⟨he,hw⟩=>⟨by rw [he];exact ret_bool (by simpa using h),hw⟩
theorem rampF_no {W H:Int} (h: ¬sizeOk W H=true):rampF W H=(noPic,false):=by unfold rampF;rw [if_neg h]
def rampG (W:Int) (i:Nat):Int:=if 1<W then (i:Int) % W*255/(W - 1) else 0
theorem rampF_yes {W H:Int} {n:Nat} (h:sizeOk W H=true) (hn:(n:Int)=W*H):rampF W H=(⟨W,H,gen n (rampG W)⟩,true):=by
 unfold rampF;rw [if_pos h,←hn];simp;rfl
theorem ramp1 {W:Int} {k:Nat} (h:1<W):(k:Int) % W*255/(W - 1)=rampG W k:=by unfold rampG;rw [if_pos h]
theorem ramp0 {W:Int} {k:Nat} (h: ¬1<W):rampG W k=0:=by unfold rampG;rw [if_neg h]
set_option maxHeartbeats 400000 in
theorem impl_RampPicture (W H:Int) (w:World):Calls Tryz.prog 7 #[.int .i64 W, .int .i64 H] w (PicOut2 w (rampF W H)):=by
 by_cases hs:sizeOk W H=true
 case neg=>
   rw [rampF_no hs]
   go_enter Tryz.func7,Tryz.ntmps7
   go_wp2_with (go_at_call 19;refine (impl_isSize_no _ _ _ hs).mono ?_;rintro e w' ⟨rfl,rfl⟩)
   exact bodyPost_ret (v:= .tuple #[.agg #[.int .i64 0, .int .i64 0, .slice none 0 0], .bool false]) (by simp [results,Tryz.results7,go_sem]) rfl ⟨none,0,0,rfl,OwnA.none _ _,by omega,Joins.below_alloc1 _ _⟩
 case pos=>
   obtain ⟨n,hq⟩: ∃n:Nat,(n:Int)=W*H:=⟨_,(toNat_mul hs).1⟩
   obtain ⟨b1,b2,b3,b4,b5,b6⟩:=sizeOk_bd hs
   have hn1:1≤n:=by omega
   have hn2:n≤1024:=by omega
   rw [rampF_yes hs hq]
   have HQ:=Lib.hid hq
   clear hq
   by_cases hW:1<W
   · go_enter Tryz.func7,Tryz.ntmps7
     go_wp2_with (go_at_call 19;refine (impl_isSize_yes _ _ _ hs).mono ?_;rintro e w' ⟨rfl,rfl⟩)
     refine (impl_blank W H n _ hs HQ.out).mono ?_
     rintro e w2 ⟨g,rfl,hg,ho,hb⟩
     have HB2:=Lib.hid ((Joins.below_alloc1 _ _).trans (hb.mono (by simp)))
     have KR2:=Lib.hid ((Blk.new w 27 #[.int .i64 0, .int .i64 0, .slice none 0 0]).below' hb)
     have HO:=Lib.hid ho
     have HG:Hid (w.heap.size+1≤g):=Lib.hid (by simpa using hg)
     clear hb ho hg
     go_wp2_with fail
     go_loopw [23] (fun i wr=> ∃k:Nat,k≤n∧i= .int .i64 k∧Own wr g n n (filled (gen n (rampG W)) (List.replicate n 0) k)∧(w2.alloc (.cells #[.int .i64 W, .int .i64 H, .slice (some ⟨g,0,none⟩) n n] 27)).grownBy wr (some g)) (fun i _=>n - (intOf i).toNat)
     case atStart=>exact ⟨0,Nat.zero_le _,rfl,by rw [filled_zero];exact HO.out.alloc _,grown_refl _ _⟩
     case round=>
       obtain ⟨k,hk,rfl,ho,hg⟩:=hrel
       have HBr:=Lib.hid ((HB2.out.alloc HB2.out.size _).grown hg (by have:=HB2.out.size;simp;omega) (by intro k hk;cases hk;have:=HG.out;omega))
       have KO:=Lib.hid ((Blk.new w2 27 #[.int .i64 W, .int .i64 H, .slice (some ⟨g,0,none⟩) n n]).grown hg (by have:=HO.out.lt;simp;omega))
       obtain ⟨l0,o0,o1,o2⟩:=KO.out.c3
       by_cases hlt:k<n
       · have e1:0≤(k:Int) % W:=Int.emod_nonneg _ (by omega)
         have e2:(k:Int) % W<W:=Int.emod_lt_of_pos _ (by omega)
         have g2:wr.cell? ⟨g,k,none⟩=some (.int .i64 ((filled (gen n (rampG W)) (List.replicate n 0) k).getD k 0)):=ho.cell hlt
         have g3:wr.frozen? ⟨g,k,none⟩=false:=ho.frozen k
         have hs:=ho.set k ((k:Int) % W*255/(W - 1))
         rw [filled_succ (gen n (rampG W)) _ k _ (by rw [gen_len];exact hlt) (by simp;omega) (by rw [gen_get _ _ _ hlt,ramp1 hW])] at hs
         have HSt:=Lib.hid hs
         clear hs ho
         go_wp2_with fail
         go_region
         go_wp2_with fail
         go_roundw
         case rel=>exact ⟨k+1,by omega,by go_num,(by first | exact HSt.out.drewN 1 | exact HSt.out.drewN _ | (have h:=HSt.out;simp at h;exact h.drewN 1)),(by first | exact grown_drewN (grown_set hg _) 1 | exact grown_drewN (grown_set hg _) _)⟩
         case measure=>simp [intOf];omega
       · obtain rfl:n=k:=by omega
         have KR:=Lib.hid ((KR2.out.alloc _).grown hg (by have:=HG.out;have:=KR2.out.lt;simp;omega))
         obtain ⟨r0,r1,r2,r3⟩:=KR.out.c3
         obtain ⟨q0,q1,q2⟩:=KR.out.f3
         rw [filled_at (gen n (rampG W)) _ n (by rw [gen_len]) (by simp)] at ho
         have HO3:=Lib.hid ho
         clear ho
         go_wp2_with fail
         exact bodyPost_ret (v:= .tuple #[.agg #[.int .i64 W, .int .i64 H, .slice (some ⟨g,0,none⟩) n n], .bool true]) (by simp [results,Tryz.results7,go_sem,r1,r2,r3]) rfl
           ⟨_,_,_,rfl,OwnA.mk (((HO3.out.other (by have:=HG.out;simp;omega) _).other (by have:=HG.out;simp;omega) _).other (by have:=HG.out;simp;omega) _) (by have:=HG.out;omega),by omega,
             ((HBr.out.setCell (by first | (simp;done) | (simp;omega)) _).setCell (by first | (simp;done) | (simp;omega)) _).setCell (by first | (simp;done) | (simp;omega)) _⟩
   · obtain rfl:W=1:=by omega
     go_enter Tryz.func7,Tryz.ntmps7
     go_wp2_with (go_at_call 19;refine (impl_isSize_yes _ _ _ hs).mono ?_;rintro e w' ⟨rfl,rfl⟩)
     refine (impl_blank 1 H n _ hs HQ.out).mono ?_
     rintro e w2 ⟨g,rfl,hg,ho,hb⟩
     have HB2:=Lib.hid ((Joins.below_alloc1 _ _).trans (hb.mono (by simp)))
     have KR2:=Lib.hid ((Blk.new w 27 #[.int .i64 0, .int .i64 0, .slice none 0 0]).below' hb)
     have HO:=Lib.hid ho
     have HG:Hid (w.heap.size+1≤g):=Lib.hid (by simpa using hg)
     clear hb ho hg
     go_wp2_with fail
     go_loopw [23] (fun i wr=> ∃k:Nat,k≤n∧i= .int .i64 k∧Own wr g n n (filled (gen n (rampG 1)) (List.replicate n 0) k)∧(w2.alloc (.cells #[.int .i64 1, .int .i64 H, .slice (some ⟨g,0,none⟩) n n] 27)).grownBy wr (some g)) (fun i _=>n - (intOf i).toNat)
     case atStart=>exact ⟨0,Nat.zero_le _,rfl,by rw [filled_zero];exact HO.out.alloc _,grown_refl _ _⟩
     case round=>
       obtain ⟨k,hk,rfl,ho,hg⟩:=hrel
       have HBr:=Lib.hid ((HB2.out.alloc HB2.out.size _).grown hg (by have:=HB2.out.size;simp;omega) (by intro k hk;cases hk;have:=HG.out;omega))
       have KO:=Lib.hid ((Blk.new w2 27 #[.int .i64 1, .int .i64 H, .slice (some ⟨g,0,none⟩) n n]).grown hg (by have:=HO.out.lt;simp;omega))
       obtain ⟨l0,o0,o1,o2⟩:=KO.out.c3
       by_cases hlt:k<n
       · have e1:0≤(k:Int) % 1:=Int.emod_nonneg _ (by omega)
         have e2:(k:Int) % 1<1:=Int.emod_lt_of_pos _ (by omega)
         have g2:wr.cell? ⟨g,k,none⟩=some (.int .i64 ((filled (gen n (rampG 1)) (List.replicate n 0) k).getD k 0)):=ho.cell hlt
         have g3:wr.frozen? ⟨g,k,none⟩=false:=ho.frozen k
         have hs:=ho.set k (0)
         rw [filled_succ (gen n (rampG 1)) _ k _ (by rw [gen_len];exact hlt) (by simp;omega) (by rw [gen_get _ _ _ hlt,ramp0 (by omega)])] at hs
         have HSt:=Lib.hid hs
         clear hs ho
         go_wp2_with fail
         go_region
         go_wp2_with fail
         go_roundw
         case rel=>exact ⟨k+1,by omega,by go_num,(by first | exact HSt.out.drewN 1 | exact HSt.out.drewN _ | (have h:=HSt.out;simp at h;exact h.drewN 1)),(by first | exact grown_drewN (grown_set hg _) 1 | exact grown_drewN (grown_set hg _) _)⟩
         case measure=>simp [intOf];omega
       · obtain rfl:n=k:=by omega
         have KR:=Lib.hid ((KR2.out.alloc _).grown hg (by have:=HG.out;have:=KR2.out.lt;simp;omega))
         obtain ⟨r0,r1,r2,r3⟩:=KR.out.c3
         obtain ⟨q0,q1,q2⟩:=KR.out.f3
         rw [filled_at (gen n (rampG 1)) _ n (by rw [gen_len]) (by simp)] at ho
         have HO3:=Lib.hid ho
         clear ho
         go_wp2_with fail
         exact bodyPost_ret (v:= .tuple #[.agg #[.int .i64 1, .int .i64 H, .slice (some ⟨g,0,none⟩) n n], .bool true]) (by simp [results,Tryz.results7,go_sem,r1,r2,r3]) rfl
           ⟨_,_,_,rfl,OwnA.mk (((HO3.out.other (by have:=HG.out;simp;omega) _).other (by have:=HG.out;simp;omega) _).other (by have:=HG.out;simp;omega) _) (by have:=HG.out;omega),by omega,
             ((HBr.out.setCell (by first | (simp;done) | (simp;omega)) _).setCell (by first | (simp;done) | (simp;omega)) _).setCell (by first | (simp;done) | (simp;omega)) _⟩
theorem filled_skip (ys xs:List Int) (k:Nat) (hk:k<ys.length) (hx:k<xs.length) (hv:ys.getD k 0=xs.getD k 0):filled ys xs k=filled ys xs (k+1):=by
 rw [←filled_succ ys xs k _ hk hx rfl,hv]
 apply List.ext_getElem?
 intro i
 rw [List.getElem?_set]
 by_cases h:k=i
 · subst h
   have e:(filled ys xs k)[k]? =some (xs.getD k 0):=by
     simp only [filled]
     rw [List.getElem?_append_right (by simp;omega),List.getElem?_drop]
     simp only [List.length_take]
     rw [Nat.min_eq_left (by omega),Nat.sub_self,Nat.add_zero]
     simp [List.getD,hx]
   have e2:k<(filled ys xs k).length:=(List.getElem?_eq_some_iff.1 e).1
   rw [if_pos rfl,if_pos e2,e]
 · rw [if_neg h]
end Go.Proofs.YtanccoopbgamdaaGreatDoor
namespace Go.Proofs.YtanccoopbgamdaaGreatDoor
open Go
set_option linter.unusedVariables false
set_option linter.unusedSimpArgs false
section
variable {P : Program} {ops : Array Oper} {Q : Exit → Act → World → Prop} {md : Region.Mode} {S : World → Prop} {n : Nat}
def wpAnyT (P:Program) (md:Region.Mode) (ops:Array Oper) (Q:Exit→Act→World→Prop) (S:World→Prop) (n:Nat):Nat→Array Bool→Act→World→Prop
 | 0,listed,a,w=>Region.ready md ops listed=[]∧Q .normal a w
 | fuel+1,listed,a,w=>
   (Region.ready md ops listed=[]→Q .normal a w)∧
   ∀i ∈ Region.ready md ops listed,wpOp P ops Q i (fun a' w'=>(i<n→S w')∧wpAnyT P md ops Q S n fuel (listed.setIfInBounds i true) a' w') a w
theorem wpAny_of_T: ∀(fuel:Nat) (listed:Array Bool) (a:Act) (w:World),wpAnyT P md ops Q S n fuel listed a w→wpAny P md ops Q fuel listed a w
 | 0,_,_,_,h=>h
 | fuel+1,_,_,_,h=>⟨h.1,fun i hi=>wpOp_mono (fun a' w' h'=>wpAny_of_T fuel _ a' w' h'.2) (h.2 i hi)⟩
theorem wpAnyT_first {i:Nat} {oi:Oper} {v:Value} (hi:ops[i]? =some oi) (hsel: ∀(j:Nat) (o:Oper) cs b,ops[j]? =some o→o.op≠ .select cs b)
   (hQ: ∀c a w,Q (.panic c) (a.put oi.dst v) w→Q (.panic c) a w) (hin:i<n) (hs:Region.sinkB md ops n=true) (hc:Region.chainB md ops n=true) (hn:n<ops.size):
   ∀ (fuel:Nat) (listed:Array Bool) (a:Act) (w:World),
     (∀j oj,ops[j]? =some oj→j≠i→listed.getD j true=false→(∀e ∈ oj.after,Region.binds md e=true→e.on≠i)→oi.apart ops oj=true)→HeadInv md ops n listed→
     i ∈ Region.ready md ops listed→YieldsIf P ops S oi v a→S w→
     wpAnyT P md ops Q S n fuel (listed.setIfInBounds i true) (a.put oi.dst v) w→wpAnyT P md ops Q S n (fuel+1) listed a w:=by
 intro fuel
 induction fuel with
 | zero=>
   intro listed a w _ _ hr hy hS H
   refine ⟨fun h=>(by rw [h] at hr;cases hr),fun j hj=>?_⟩
   by_cases hji:j=i
   · subst hji;exact hy.wpOp hi hS ⟨fun _=>hS,H⟩
   · have:=ready_mono hj hji
     rw [H.1] at this
     cases this
 | succ fuel ih=>
   intro listed a w hfree inv hr hy hS H
   refine ⟨fun h=>(by rw [h] at hr;cases hr),fun j hj=>?_⟩
   by_cases hji:j=i
   · subst hji;exact hy.wpOp hi hS ⟨fun _=>hS,H⟩
   · have h1:=H.2 j (ready_mono hj hji)
     obtain ⟨hjun,oj,hoj,hall⟩:=mem_ready.1 hj
     have hiun:=(mem_ready.1 hr).1
     have hjn:j<n:=by
       by_cases h:j<n
       · exact h
       · exact absurd hj (tail_waits hs hc hn inv (n - i) i rfl hin hiun j (by omega))
     have hnot: ∀e ∈ oj.after,Region.binds md e=true→e.on≠i:=fun e he hb heq=>by
       have h1:=hall e he hb
       rw [heq,getD_both hiun] at h1
       cases h1
     have h2:=wpOp_putIf hoj (hfree j oj hoj hji hjun hnot) (fun cs b=>hsel i oi cs b hi) (fun cs b=>hsel j oj cs b hoj) hQ hy h1
     have hfree': ∀k ok,ops[k]? =some ok→k≠i→(listed.setIfInBounds j true).getD k true=false→
         (∀e ∈ ok.after,Region.binds md e=true→e.on≠i)→oi.apart ops ok=true:=fun k ok hk hki hun hno=>by
       refine hfree k ok hk hki ?_ hno
       by_cases hjk:j=k
       · subst hjk;exact hjun
       · rw [getD_set_ne true hjk] at hun;exact hun
     refine wpOp_mono (fun a' w' h3=>⟨h3.2.1,ih (listed.setIfInBounds j true) a' w' hfree' (inv.set hj hjn) (ready_mono hr (Ne.symm hji)) h3.1 (h3.2.1 hjn) ?_⟩) h2
     rw [Array.setIfInBounds_comm _ _ hji]
     exact h3.2.2
def headB (md:Region.Mode) (ops:Array Oper) (n:Nat) (listed:Array Bool):Bool:=
 decide (listed.size=ops.size) &&
 (List.range ops.size).all (fun j=>!listed.getD j false || (match ops[j]? with | some oj=>oj.after.all (fun e=>!Region.binds md e || listed.getD e.on false) | none=>true)) &&
 (List.range ops.size).all (fun t=>decide (t<n) || !listed.getD t true)
theorem headB_spec {listed:Array Bool} (h:headB md ops n listed=true):HeadInv md ops n listed:=by
 unfold headB at h
 simp only [Bool.and_eq_true,decide_eq_true_eq,List.all_eq_true,List.mem_range,Bool.or_eq_true,Bool.not_eq_true'] at h
 obtain ⟨⟨h1,h2⟩,h3⟩:=h
 refine ⟨h1,fun j oj hj hl e he hb=>?_,fun t ht ht'=>?_⟩
 · have:=h2 j (Array.getElem?_eq_some_iff.1 hj).1
   rw [hl,hj] at this
   rcases this with h | h
   · cases h
   · simp only at h
     have h5:=Array.all_eq_true_iff_forall_mem.1 h e he
     rw [hb] at h5
     simpa using h5
 · rcases h3 t ht' with h | h
   · omega
   · exact h
theorem wpAnyT_take {i:Nat} {oi:Oper} {v:Value} {fuel:Nat} {listed:Array Bool} {a:Act} {w:World} (hi:ops[i]? =some oi)
   (hs:Region.noSelect ops=true) (hf:Region.free md ops listed i=true) (hr:(Region.ready md ops listed).contains i=true)
   (ht:(decide (i<n) && Region.sinkB md ops n && Region.chainB md ops n && decide (n<ops.size) && headB md ops n listed)=true)
   (hQ: ∀c a w,Q (.panic c) (a.put oi.dst v) w→Q (.panic c) a w) (hy:YieldsIf P ops S oi v a) (hS:S w)
   (h:wpAnyT P md ops Q S n fuel (listed.setIfInBounds i true) (a.put oi.dst v) w):wpAnyT P md ops Q S n (fuel+1) listed a w:=by
 simp only [Bool.and_eq_true,decide_eq_true_eq] at ht
 obtain ⟨⟨⟨⟨t1,t2⟩,t3⟩,t4⟩,t5⟩:=ht
 exact wpAnyT_first hi (Region.noSelect_spec hs) hQ t1 t2 t3 t4 fuel listed a w (Region.free_spec hi hf) (headB_spec t5) (by simpa using hr) hy hS h
theorem wpAnyT_all {rs:List Nat} {fuel:Nat} {listed:Array Bool} {a:Act} {w:World} (hr:Region.ready md ops listed=rs) (hne:rs≠ [])
   (h: ∀i ∈ rs,wpOp P ops Q i (fun a' w'=>(i<n→S w')∧wpAnyT P md ops Q S n fuel (listed.setIfInBounds i true) a' w') a w):wpAnyT P md ops Q S n (fuel+1) listed a w:=
 ⟨fun h0=>absurd (hr ▸ h0) hne,hr ▸ h⟩
theorem wpAnyT_done {listed:Array Bool} {a:Act} {w:World} (hr:Region.ready md ops listed=[]) (h:Q .normal a w): ∀fuel,wpAnyT P md ops Q S n fuel listed a w
 | 0=>⟨hr,h⟩
 | _+1=>⟨fun _=>h,by rw [hr];simp⟩
theorem wpAnyT_one {i:Nat} {o:Oper} {fuel:Nat} {listed:Array Bool} {a:Act} {w:World} (hr:Region.ready md ops listed=[i]) (ho:ops[i]? =some o)
   (h: ∀K':Act→World→Prop,Shut (∀a w,(i<n→S w)→((i<n→S w)→wpAnyT P md ops Q S n fuel (listed.setIfInBounds i true) a w)→K' a w)→if Region.wanted o (yielded ops a.tmps)=true then Oper.wp P o a w K' Q else K' (a.put o.dst undef) w):
   wpAnyT P md ops Q S n (fuel+1) listed a w:=
 wpAnyT_all hr (by simp) (fun j hj=>by
   obtain rfl:j=i:=by simpa using hj
   exact wpOp_step ho (fun K' hK=>h K' (fun a w hS hW=>hK a w ⟨hS,hW hS⟩)))
theorem wp_region_T (n:Nat) {id:Nat} {a:Act} {w:World} (S:World→Prop) (hm:P.follows .mixedOrders=true) (hS:S w.drew)
   (h:S w.drew→wpAnyT P .any ops Q S n ops.size (Array.replicate ops.size false) a w.drew):(Code.region id ops true).wp P Q a w:=
 wp_region_any hm (wpAny_of_T _ _ _ _ (h hS))
end
end Go.Proofs.YtanccoopbgamdaaGreatDoor
