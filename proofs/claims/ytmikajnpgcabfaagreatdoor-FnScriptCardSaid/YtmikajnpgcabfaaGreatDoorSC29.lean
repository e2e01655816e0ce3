/-
  Contracts and plain facts on which the theorem of this claim rests, text 29.
-/
import Derived.Deep.DeepCutAuto
import Derived.Deep.LoopGhost
import Derived.Test.YtmikajnpgcabfaaGreatDoorSC7
import Derived.Test.YtmikajnpgcabfaaGreatDoorSC26
import Derived.Test.YtmikajnpgcabfaaGreatDoorSC27
namespace Go.Proofs.YtmikajnpgcabfaaGreatDoor
set_option linter.unusedVariables false
set_option linter.unusedSimpArgs false
structure Eu where
 sx:Int
 sy:Int
 ox:Int
 oy:Int
deriving DecidableEq
def euNext (s:Eu):Eu:=⟨s.ox,s.oy,s.sx+s.ox*-(s.sy/s.oy),s.sy+s.oy*-(s.sy/s.oy)⟩
def euAt (A B:Int):Nat→Eu
 | 0=>⟨A,B,-B,A⟩
 | k+1=>if (euAt A B k).oy=0 then euAt A B k else euNext (euAt A B k)
def euOk (A B:Int) (k:Nat) (s:Eu):Bool:=
 decide (-1000≤s.sx) && decide (s.sx≤1000) && decide (0≤s.sy) && decide (s.sy≤1000) && decide (-1000≤s.ox) && decide (s.ox≤1000) && decide (0≤s.oy) && decide (s.oy≤1000) &&
 (decide (s.oy≠0) || (decide (s.sy=gI A B) && decide ((s.sx*A+s.sy*B) % areaI A B=0) && decide ((s.sy*A - s.sx*B) % areaI A B=0))) && (decide (s.oy=0) || (decide (k<9) && decide (0≤s.sy/s.oy) && decide (s.sy/s.oy≤1000) && decide (-1000≤s.ox*-(s.sy/s.oy)) && decide (s.ox*-(s.sy/s.oy)≤1000) && decide (-1000≤s.oy*-(s.sy/s.oy)) && decide (s.oy*-(s.sy/s.oy)≤1000)))
theorem eu_tab: ∀A:Fin 13,∀B:Fin 13,∀k:Fin 10,1≤A.val→euOk A.val B.val k.val (euAt A.val B.val k.val)=true:=by decide+kernel
theorem eu_at {A B n g w a b p q:Int} (L:Lat A B n g w a b p q) {k:Nat} (hk:k<10):euOk A B k (euAt A B k)=true:=by
 have a1:=L.a1;have a2:=L.a2;have b1:=L.b1;have b2:=L.b2
 obtain ⟨x,rfl⟩: ∃x:Nat,A=x:=⟨A.toNat,by omega⟩
 obtain ⟨y,rfl⟩: ∃y:Nat,B=y:=⟨B.toNat,by omega⟩
 exact eu_tab ⟨x,by omega⟩ ⟨y,by omega⟩ ⟨k,hk⟩ (by simp only;omega)
theorem eu_bd {A B n g w a b p q:Int} (L:Lat A B n g w a b p q) {k:Nat} (hk:k<10) {s:Eu} (hs:euAt A B k=s):
   -1000≤s.sx∧s.sx≤1000∧0≤s.sy∧s.sy≤1000∧-1000≤s.ox∧s.ox≤1000∧0≤s.oy∧s.oy≤1000∧(s.oy=0→s.sy=g∧HasL A B s.sx g)∧
   (s.oy≠0→k<9∧0≤s.sy/s.oy∧s.sy/s.oy≤1000∧-1000≤s.ox*-(s.sy/s.oy)∧s.ox*-(s.sy/s.oy)≤1000∧-1000≤s.oy*-(s.sy/s.oy)∧s.oy*-(s.sy/s.oy)≤1000∧euAt A B (k+1)=euNext s):=by
 have h:=eu_at L hk
 rw [hs] at h
 simp only [euOk,Bool.and_eq_true,Bool.or_eq_true,decide_eq_true_eq] at h
 obtain ⟨⟨⟨⟨⟨⟨⟨⟨⟨h1,h2⟩,h3⟩,h4⟩,h5⟩,h6⟩,h7⟩,h8⟩,h9⟩,h10⟩:=h
 refine ⟨h1,h2,h3,h4,h5,h6,h7,h8,fun e=>?_,fun e=>?_⟩
 · rcases h9 with h9 | ⟨⟨h9,h11⟩,h12⟩
   · exact absurd e h9
   · rw [L.hg] at h9
     rw [h9] at h11 h12
     exact ⟨h9,Int.dvd_of_emod_eq_zero h11,Int.dvd_of_emod_eq_zero h12⟩
 · rcases h10 with h10 | ⟨⟨⟨⟨⟨⟨h10,h11⟩,h12⟩,h13⟩,h14⟩,h15⟩,h16⟩
   · exact absurd h10 e
   · refine ⟨h10,h11,h12,h13,h14,h15,h16,?_⟩
     rw [euAt,hs,if_neg e]
end Go.Proofs.YtmikajnpgcabfaaGreatDoor
namespace Go.Proofs.YtmikajnpgcabfaaGreatDoor
open Go.RowKit
set_option linter.unusedVariables false
set_option linter.unusedSimpArgs false
set_option maxHeartbeats 400000 in
theorem impl_plus5 (x y u v:Int) (w:World) (h1:-10000000≤x) (h2:x≤10000000) (h3:-10000000≤y) (h4:y≤10000000) (h5:-10000000≤u) (h6:u≤10000000) (h7:-10000000≤v) (h8:v≤10000000):
   Calls Tryz.prog 193 #[.agg #[.int .i64 x, .int .i64 y], .agg #[.int .i64 u, .int .i64 v]] w fun e w'=>e= .returned (.agg #[.int .i64 (x+u), .int .i64 (y+v)])∧Below w.heap.size w w':=by
 go_enter Tryz.func193,Tryz.ntmps193
 go_wp2_with fail
 exact bodyPost_ret (v:= .agg #[.int .i64 (x+u), .int .i64 (y+v)]) (by simp [results,Tryz.results193,go_sem]) rfl ⟨rfl,(((Below.refl _ _).alloc (Nat.le_refl _) _).alloc (by simp) _).alloc (by simp;omega) _⟩
set_option maxHeartbeats 400000 in
theorem impl_times5 (x y u:Int) (w:World) (h1:-1000000≤x*u) (h2:x*u≤1000000) (h3:-1000000≤y*u) (h4:y*u≤1000000):
   Calls Tryz.prog 305 #[.agg #[.int .i64 x, .int .i64 y], .int .i64 u] w fun e w'=>e= .returned (.agg #[.int .i64 (x*u), .int .i64 (y*u)])∧Below w.heap.size w w':=by
 go_enter Tryz.func305,Tryz.ntmps305
 go_wp2_with fail
 exact bodyPost_ret (v:= .agg #[.int .i64 (x*u), .int .i64 (y*u)]) (by simp [results,Tryz.results305,go_sem]) rfl ⟨rfl,((Below.refl _ _).alloc (Nat.le_refl _) _).alloc (by simp) _⟩
def EuSt (w wx:World) (s:Eu) (v3 v4:Value):Prop:= ∃g1 g2:Nat,v3= .pointer (some ⟨g1,0,none⟩)∧v4= .pointer (some ⟨g2,0,none⟩)∧g1≠g2∧w.heap.size≤g1∧w.heap.size≤g2∧Blk wx g1 191 #[.int .i64 s.sx, .int .i64 s.sy]∧Blk wx g2 191 #[.int .i64 s.ox, .int .i64 s.oy]∧Below w.heap.size w wx
theorem eu_mk (w:World) (s:Eu):EuSt w (((w.alloc (.cells #[.int .i64 s.sx, .int .i64 s.sy] 191)).alloc (.cells #[.int .i64 s.ox, .int .i64 s.oy] 191)).drew) s (.pointer (some ⟨w.heap.size,0,none⟩)) (.pointer (some ⟨w.heap.size+1,0,none⟩)):=
 ⟨w.heap.size,w.heap.size+1,rfl,rfl,by omega,Nat.le_refl _,by omega,((Blk.new w _ _).alloc _).drew,(Blk.new' _ _ (by simp)).drew,(bAlloc (bAlloc (Below.refl w.heap.size w) _) _).drew⟩
theorem eu_mk' (w:World) (s:Eu):EuSt w (((w.alloc (.cells #[.int .i64 s.ox, .int .i64 s.oy] 191)).alloc (.cells #[.int .i64 s.sx, .int .i64 s.sy] 191)).drew) s (.pointer (some ⟨w.heap.size+1,0,none⟩)) (.pointer (some ⟨w.heap.size,0,none⟩)):=
 ⟨w.heap.size+1,w.heap.size,rfl,rfl,by omega,by omega,Nat.le_refl _,(Blk.new' _ _ (by simp)).drew,((Blk.new w _ _).alloc _).drew,(bAlloc (bAlloc (Below.refl w.heap.size w) _) _).drew⟩
set_option maxRecDepth 100000 in
set_option maxHeartbeats 1600000 in
theorem impl_stepDown {A B n g d a b p q:Int} (L:Lat A B n g d a b p q) (w:World):
   Calls Tryz.prog 281 #[.agg #[.int .i64 A, .int .i64 B]] w fun e w'=> ∃sx,e= .returned (.agg #[.int .i64 sx, .int .i64 g])∧HasL A B sx g∧-1000≤sx∧sx≤1000∧Below w.heap.size w w':=by
 have HL:=Lib.hid L
 have a1:=L.a1;have a2:=L.a2;have b1:=L.b1;have b2:=L.b2
 clear L
 go_enter Tryz.func281,Tryz.ntmps281
 go_upto_region 1 with fail
 have KP:=Lib.hid ((Blk.new w 139 #[.int .i64 A, .int .i64 B]).alloc (.cells #[.int .i64 0, .int .i64 0] 191))
 have KZ:=Lib.hid (Blk.new' (g:=w.heap.size+1) (w:=w.alloc (.cells #[.int .i64 A, .int .i64 B] 139)) 191 #[.int .i64 0, .int .i64 0] (by simp))
 have HBP:=Lib.hid (bAlloc (bAlloc (Below.refl w.heap.size w) (.cells #[.int .i64 A, .int .i64 B] 139)) (.cells #[.int .i64 0, .int .i64 0] 191))
 obtain ⟨wo,hwo⟩: ∃wo:World,wo=(w.alloc (.cells #[.int .i64 A, .int .i64 B] 139)).alloc (.cells #[.int .i64 0, .int .i64 0] 191):=⟨_,rfl⟩
 rw [←hwo] at KP KZ HBP⊢
 clear hwo
 go_cut [3,4] (fun s3 s4 wx=>EuSt wo wx ⟨A,B,-B,A⟩ s3 s4)
 case first=>
   obtain ⟨l0,o0,o1⟩:=KP.out.c2
   have t1:IntKind.i64.wrap (-B)=-B:=IntWalk.i64_in _ (by omega)
   have MK:Hid (∀v,BelowL wo v→v.cell? ⟨w.heap.size,0,none⟩=some (.int .i64 A)∧v.cell? ⟨w.heap.size,1,none⟩=some (.int .i64 B)∧BelowL wo v):=Lib.hid (fun v hB=>⟨(hB.out.cell l0).trans o0,(hB.out.cell l0).trans o1,hB⟩)
   refine wp_region_held_drew (S:=fun v=>v.cell? ⟨w.heap.size,0,none⟩=some (.int .i64 A)∧v.cell? ⟨w.heap.size,1,none⟩=some (.int .i64 B)∧BelowL wo v) (by kernel_rfl) (MK.out _ (BelowL.start _)) ?_
   intro hHeld
   have hb0:=limb3 hHeld
   (refine' wpAnyH_take (i:=0) (v:=?_) rfl (by kernel_rfl) (by kernel_rfl) (by kernel_rfl) (fun _ _ _ h=>h) (Or.inl ⟨by rfl,?_⟩) (by assumption) ?_;rotate_left;(· (intro w hSw;(try dsimp only at hSw);go_simp;try with_reducible rfl));(try simp only [Act.put,List.setIfInBounds_toArray,List.set_cons_zero,List.set_cons_succ]))
   (refine' wpAnyH_take (i:=1) (v:=?_) rfl (by kernel_rfl) (by kernel_rfl) (by kernel_rfl) (fun _ _ _ h=>h) (Or.inl ⟨by rfl,?_⟩) (by assumption) ?_;rotate_left;(· (intro w hSw;(try dsimp only at hSw);go_simp;try with_reducible rfl));(try simp only [Act.put,List.setIfInBounds_toArray,List.set_cons_zero,List.set_cons_succ]))
   (refine' wpAnyH_take (i:=2) (v:=?_) rfl (by kernel_rfl) (by kernel_rfl) (by kernel_rfl) (fun _ _ _ h=>h) (Or.inl ⟨by rfl,?_⟩) (by assumption) ?_;rotate_left;(· (intro w hSw;(try dsimp only at hSw);go_simp;try with_reducible rfl));(try simp only [Act.put,List.setIfInBounds_toArray,List.set_cons_zero,List.set_cons_succ]))
   (refine' wpAnyH_take (i:=3) (v:=?_) rfl (by kernel_rfl) (by kernel_rfl) (by kernel_rfl) (fun _ _ _ h=>h) (Or.inl ⟨by rfl,?_⟩) (by assumption) ?_;rotate_left;(· (intro w hSw;(try dsimp only at hSw);go_simp;try with_reducible rfl));(try simp only [Act.put,List.setIfInBounds_toArray,List.set_cons_zero,List.set_cons_succ]))
   (refine' wpAnyH_take (i:=4) (v:=?_) rfl (by kernel_rfl) (by kernel_rfl) (by kernel_rfl) (fun _ _ _ h=>h) (Or.inl ⟨by rfl,?_⟩) (by assumption) ?_;rotate_left;(· (intro w hSw;(try dsimp only at hSw);go_simp;try with_reducible rfl));(try simp only [Act.put,List.setIfInBounds_toArray,List.set_cons_zero,List.set_cons_succ]))
   (refine' wpAnyH_take (i:=5) (v:=?_) rfl (by kernel_rfl) (by kernel_rfl) (by kernel_rfl) (fun _ _ _ h=>h) (Or.inl ⟨by rfl,?_⟩) (by assumption) ?_;rotate_left;(· (intro w hSw;(try dsimp only at hSw);go_simp;try with_reducible rfl));(try simp only [Act.put,List.setIfInBounds_toArray,List.set_cons_zero,List.set_cons_succ]))
   (refine' wpAnyH_take (i:=6) (v:=?_) rfl (by kernel_rfl) (by kernel_rfl) (by kernel_rfl) (fun _ _ _ h=>h) (Or.inl ⟨by rfl,?_⟩) (by assumption) ?_;rotate_left;(· (intro w hSw;(try dsimp only at hSw);go_simp;try with_reducible rfl));(try simp only [Act.put,List.setIfInBounds_toArray,List.set_cons_zero,List.set_cons_succ]))
   (refine' wpAnyH_take (i:=7) (v:=?_) rfl (by kernel_rfl) (by kernel_rfl) (by kernel_rfl) (fun _ _ _ h=>h) (Or.inl ⟨by rfl,?_⟩) (by assumption) ?_;rotate_left;(· (intro w hSw;(try dsimp only at hSw);go_simp;try with_reducible rfl));(try simp only [Act.put,List.setIfInBounds_toArray,List.set_cons_zero,List.set_cons_succ]))
   (refine' wpAnyH_take (i:=8) (v:=?_) rfl (by kernel_rfl) (by kernel_rfl) (by kernel_rfl) (fun _ _ _ h=>h) (Or.inl ⟨by rfl,?_⟩) (by assumption) ?_;rotate_left;(· (intro w hSw;(try dsimp only at hSw);go_simp;try with_reducible rfl));(try simp only [Act.put,List.setIfInBounds_toArray,List.set_cons_zero,List.set_cons_succ]))
   (refine' wpAnyH_take (i:=9) (v:=?_) rfl (by kernel_rfl) (by kernel_rfl) (by kernel_rfl) (fun _ _ _ h=>h) (Or.inl ⟨by rfl,?_⟩) (by assumption) ?_;rotate_left;(· (intro w hSw;(try dsimp only at hSw);go_simp;try with_reducible rfl));(try simp only [Act.put,List.setIfInBounds_toArray,List.set_cons_zero,List.set_cons_succ]))
   (refine' wpAnyH_take (i:=10) (v:=?_) rfl (by kernel_rfl) (by kernel_rfl) (by kernel_rfl) (fun _ _ _ h=>h) (Or.inl ⟨by rfl,?_⟩) (by assumption) ?_;rotate_left;(· (intro w hSw;(try dsimp only at hSw);go_simp;try with_reducible rfl));(try simp only [Act.put,List.setIfInBounds_toArray,List.set_cons_zero,List.set_cons_succ]))
   refine wpAnyH_ready (rs:=[11,12]) (by kernel_rfl) (by simp) ?_
   refine AllReadyH.cons rfl (fun K hK=>?_) (AllReadyH.cons rfl (fun K hK=>?_) AllReadyH.nil)
   · go_simp
     refine hK.out _ _ (by (try dsimp only);exact MK.out _ (BelowL.alloc hb0 _)) (fun hHeld=>?_)
     clear hK K
     refine wpAnyH_ready (rs:=[12]) (by kernel_rfl) (by simp) ?_
     refine AllReadyH.cons rfl (fun K hK=>?_) AllReadyH.nil
     go_simp
     refine hK.out _ _ (by (try dsimp only);exact MK.out _ (BelowL.alloc (BelowL.alloc hb0 _) _)) (fun hHeld=>?_)
     clear hK K
     refine wpAnyH_ready (rs:=[13]) (by kernel_rfl) (by simp) ?_
     refine AllReadyH.cons rfl (fun K hK=>?_) AllReadyH.nil
     go_simp
     refine hK.out _ _ (by (try dsimp only);exact MK.out _ (BelowL.alloc (BelowL.alloc hb0 _) _)) (fun hHeld=>?_)
     clear hK K
     refine wpAnyH_ready (rs:=[14]) (by kernel_rfl) (by simp) ?_
     refine AllReadyH.cons rfl (fun K hK=>?_) AllReadyH.nil
     go_simp
     refine hK.out _ _ (by (try dsimp only);exact MK.out _ (BelowL.alloc (BelowL.alloc hb0 _) _)) (fun hHeld=>?_)
     clear hK K
     refine wpAnyH_done (by kernel_rfl) ?_ _
     (try go_simp)
     go_wp2_with fail
     go_meet
     exact eu_mk wo ⟨A,B,-B,A⟩
   · go_simp
     refine hK.out _ _ (by (try dsimp only);exact MK.out _ (BelowL.alloc hb0 _)) (fun hHeld=>?_)
     clear hK K
     refine wpAnyH_ready (rs:=[11]) (by kernel_rfl) (by simp) ?_
     refine AllReadyH.cons rfl (fun K hK=>?_) AllReadyH.nil
     go_simp
     refine hK.out _ _ (by (try dsimp only);exact MK.out _ (BelowL.alloc (BelowL.alloc hb0 _) _)) (fun hHeld=>?_)
     clear hK K
     refine wpAnyH_ready (rs:=[13]) (by kernel_rfl) (by simp) ?_
     refine AllReadyH.cons rfl (fun K hK=>?_) AllReadyH.nil
     go_simp
     refine hK.out _ _ (by (try dsimp only);exact MK.out _ (BelowL.alloc (BelowL.alloc hb0 _) _)) (fun hHeld=>?_)
     clear hK K
     refine wpAnyH_ready (rs:=[14]) (by kernel_rfl) (by simp) ?_
     refine AllReadyH.cons rfl (fun K hK=>?_) AllReadyH.nil
     go_simp
     refine hK.out _ _ (by (try dsimp only);exact MK.out _ (BelowL.alloc (BelowL.alloc hb0 _) _)) (fun hHeld=>?_)
     clear hK K
     refine wpAnyH_done (by kernel_rfl) ?_ _
     (try go_simp)
     go_wp2_with fail
     go_meet
     exact eu_mk' wo ⟨A,B,-B,A⟩
 case rest=>
   obtain ⟨g1,g2,rfl,rfl,hne,h1,h2,k1,k2,hb⟩:=hcut
   have K1:=Lib.hid k1
   have K2:=Lib.hid k2
   have HB:=Lib.hid hb
   have hz:=KZ.out.lt
   clear k1 k2 hb
   go_wp2_with fail
   go_loopg [16] 10 (fun gh s16 wr=> ∃(k:Nat) (X Y O V:Int),k<10∧9≤k+gh∧Hid (euAt A B k=⟨X,Y,O,V⟩)∧Hid (Blk wr g1 191 #[.int .i64 X, .int .i64 Y])∧Hid (Blk wr g2 191 #[.int .i64 O, .int .i64 V])∧Hid (Below wo.heap.size wo wr))
   case atStart=>exact ⟨0,A,B,-B,A,by omega,by omega,Lib.hid rfl,K1,K2,HB⟩
   case round=>
     clear K1 K2 HB
     obtain ⟨k,X,Y,O,V,hk,hgh,HE,R1,R2,RB⟩:=hrel
     obtain ⟨e1,e2,e3,e4,e5,e6,e7,e8,e9,e10⟩:=eu_bd HL.out hk HE.out
     simp only at e1 e2 e3 e4 e5 e6 e7 e8 e9 e10
     obtain ⟨l1,p0,p1⟩:=R1.out.c2
     obtain ⟨l2,q0,q1⟩:=R2.out.c2
     by_cases hV:V=0
     · obtain ⟨rfl,hhas⟩:=e9 hV
       subst hV
       have HH:=Lib.hid hhas
       have KZr:=Lib.hid (KZ.out.below RB.out hz)
       obtain ⟨l3,r0,r1⟩:=KZr.out.c2
       have f0:=KZr.out.frozen 0
       have f1:=KZr.out.frozen 1
       clear e9 e10 hhas
       go_wp2_with fail
       exact bodyPost_ret (v:= .agg #[.int .i64 X, .int .i64 Y]) (by simp [results,Tryz.results281,go_sem,r0,r1]) rfl ⟨X,rfl,HH.out,e1,e2,((bTrans HBP.out RB.out).setCell (by simp) _).setCell (by simp) _⟩
     · obtain ⟨k9,d1,d2,d3,d4,d5,d6,d7⟩:=e10 hV
       have hv1:(V !=0)=true:=by simpa using hV
       have hv2:(V==0)=false:=by simpa using hV
       have HN:=Lib.hid d7
       obtain ⟨D,hD⟩: ∃D,Y/V=D:=⟨_,rfl⟩
       rw [hD] at d1 d2 d3 d4 d5 d6
       have t1:Y.tdiv V=D:=by rw [Int.tdiv_eq_ediv_of_nonneg e3];exact hD
       have t2:IntKind.i64.wrap D=D:=IntWalk.i64_in _ (by omega)
       have t3:IntKind.i64.wrap (-D)=-D:=IntWalk.i64_in _ (by omega)
       have HD:=Lib.hid hD
       clear e9 e10 d7 hD
       go_upto_region 3 with fail
       have MK:Hid (∀v,BelowL wr v→v.cell? ⟨g1,0,none⟩=some (.int .i64 X)∧v.cell? ⟨g1,1,none⟩=some (.int .i64 Y)∧v.cell? ⟨g2,0,none⟩=some (.int .i64 O)∧v.cell? ⟨g2,1,none⟩=some (.int .i64 V)∧BelowL wr v):=Lib.hid (fun v hB=>⟨(hB.out.cell l1).trans p0,(hB.out.cell l1).trans p1,(hB.out.cell l2).trans q0,(hB.out.cell l2).trans q1,hB⟩)
       refine wp_region_T 11 (fun v=>v.cell? ⟨g1,0,none⟩=some (.int .i64 X)∧v.cell? ⟨g1,1,none⟩=some (.int .i64 Y)∧v.cell? ⟨g2,0,none⟩=some (.int .i64 O)∧v.cell? ⟨g2,1,none⟩=some (.int .i64 V)∧BelowL wr v) (by kernel_rfl) (MK.out _ (BelowL.start _)) ?_
       intro hHeld
       have hb0:=limb5 hHeld
       (refine' wpAnyT_take (i:=0) (v:=?_) rfl (by kernel_rfl) (by kernel_rfl) (by kernel_rfl) (by kernel_rfl) (fun _ _ _ h=>h) (Or.inl ⟨by rfl,?_⟩) (by assumption) ?_;rotate_left;(· (intro w hSw;(try dsimp only at hSw);go_simp;try with_reducible rfl));(try simp only [Act.put,List.setIfInBounds_toArray,List.set_cons_zero,List.set_cons_succ]))
       (refine' wpAnyT_take (i:=1) (v:=?_) rfl (by kernel_rfl) (by kernel_rfl) (by kernel_rfl) (by kernel_rfl) (fun _ _ _ h=>h) (Or.inl ⟨by rfl,?_⟩) (by assumption) ?_;rotate_left;(· (intro w hSw;(try dsimp only at hSw);go_simp;try with_reducible rfl));(try simp only [Act.put,List.setIfInBounds_toArray,List.set_cons_zero,List.set_cons_succ]))
       (refine' wpAnyT_take (i:=2) (v:=?_) rfl (by kernel_rfl) (by kernel_rfl) (by kernel_rfl) (by kernel_rfl) (fun _ _ _ h=>h) (Or.inl ⟨by rfl,?_⟩) (by assumption) ?_;rotate_left;(· (intro w hSw;(try dsimp only at hSw);go_simp;try with_reducible rfl));(try simp only [Act.put,List.setIfInBounds_toArray,List.set_cons_zero,List.set_cons_succ]))
       (refine' wpAnyT_take (i:=3) (v:=?_) rfl (by kernel_rfl) (by kernel_rfl) (by kernel_rfl) (by kernel_rfl) (fun _ _ _ h=>h) (Or.inl ⟨by rfl,?_⟩) (by assumption) ?_;rotate_left;(· (intro w hSw;(try dsimp only at hSw);go_simp;try with_reducible rfl));(try simp only [Act.put,List.setIfInBounds_toArray,List.set_cons_zero,List.set_cons_succ]))
       (refine' wpAnyT_take (i:=4) (v:=?_) rfl (by kernel_rfl) (by kernel_rfl) (by kernel_rfl) (by kernel_rfl) (fun _ _ _ h=>h) (Or.inl ⟨by rfl,?_⟩) (by assumption) ?_;rotate_left;(· (intro w hSw;(try dsimp only at hSw);go_simp;try with_reducible rfl));(try simp only [Act.put,List.setIfInBounds_toArray,List.set_cons_zero,List.set_cons_succ]))
       (refine' wpAnyT_take (i:=5) (v:=?_) rfl (by kernel_rfl) (by kernel_rfl) (by kernel_rfl) (by kernel_rfl) (fun _ _ _ h=>h) (Or.inl ⟨by rfl,?_⟩) (by assumption) ?_;rotate_left;(· (intro w hSw;(try dsimp only at hSw);go_simp;try with_reducible rfl));(try simp only [Act.put,List.setIfInBounds_toArray,List.set_cons_zero,List.set_cons_succ]))
       (refine' wpAnyT_take (i:=6) (v:=?_) rfl (by kernel_rfl) (by kernel_rfl) (by kernel_rfl) (by kernel_rfl) (fun _ _ _ h=>h) (Or.inl ⟨by rfl,?_⟩) (by assumption) ?_;rotate_left;(· (intro w hSw;(try dsimp only at hSw);go_simp;try with_reducible rfl));(try simp only [Act.put,List.setIfInBounds_toArray,List.set_cons_zero,List.set_cons_succ]))
       (refine' wpAnyT_take (i:=7) (v:=?_) rfl (by kernel_rfl) (by kernel_rfl) (by kernel_rfl) (by kernel_rfl) (fun _ _ _ h=>h) (Or.inl ⟨by rfl,?_⟩) (by assumption) ?_;rotate_left;(· (intro w hSw;(try dsimp only at hSw);go_simp;try with_reducible rfl));(try simp only [Act.put,List.setIfInBounds_toArray,List.set_cons_zero,List.set_cons_succ]))
       (refine' wpAnyT_take (i:=8) (v:=?_) rfl (by kernel_rfl) (by kernel_rfl) (by kernel_rfl) (by kernel_rfl) (fun _ _ _ h=>h) (Or.inl ⟨by rfl,?_⟩) (by assumption) ?_;rotate_left;(· (intro w hSw;(try dsimp only at hSw);go_simp;try with_reducible rfl));(try simp only [Act.put,List.setIfInBounds_toArray,List.set_cons_zero,List.set_cons_succ]))
       refine wpAnyT_one (i:=9) (by kernel_rfl) rfl (fun K hK=>?_)
       go_simp
       go_at_call 305
       ((with_reducible refine (impl_times5 _ _ _ _ (by omega) (by omega) (by omega) (by omega)).mono ?_);rintro e v1 ⟨rfl,hq1⟩)
       have hb1:=BelowL.call hb0 hq1
       go_wp2_with fail
       refine hK.out _ _ (fun _=>by (try dsimp only);exact MK.out _ hb1) (fun hH2=>?_)
       clear hK K hHeld hH2
       refine wpAnyT_one (i:=10) (by kernel_rfl) rfl (fun K hK=>?_)
       go_simp
       go_at_call 193
       ((with_reducible refine (impl_plus5 _ _ _ _ _ (by omega) (by omega) (by omega) (by omega) (by omega) (by omega) (by omega) (by omega)).mono ?_);rintro e v2 ⟨rfl,hq2⟩)
       have hb2:=BelowL.call hb1 hq2
       have S1:=Lib.hid (R1.out.below' hb2.out)
       have S2:=Lib.hid (R2.out.below' hb2.out)
       go_wp2_with fail
       refine hK.out _ _ (fun _=>by (try dsimp only);exact MK.out _ hb2) (fun hH2=>?_)
       clear hK K hH2
       clear p0 p1 q0 q1
       obtain ⟨l1,p0,p1⟩:=S1.out.c2
       obtain ⟨l2,q0,q1⟩:=S2.out.c2
       have f0:=S1.out.frozen 0
       have f1:=S1.out.frozen 1
       have f2:=S2.out.frozen 0
       have f3:=S2.out.frozen 1
       refine wpAnyT_one (i:=11) (by kernel_rfl) rfl (fun K hK=>?_)
       go_simp
       have S3:=Lib.hid ((S1.out.set 0 (.int .i64 O)).set 1 (.int .i64 V))
       have S4:=Lib.hid ((S2.out.other (a:=⟨g1,0,none⟩) (by exact hne) (.int .i64 O)).other (a:=⟨g1,1,none⟩) (by exact hne) (.int .i64 V))
       have HB3:=Lib.hid (((bTrans RB.out hb2.out).setCell (p:=⟨g1,0,none⟩) (by exact h1) (.int .i64 O)).setCell (p:=⟨g1,1,none⟩) (by exact h1) (.int .i64 V))
       refine hK.out _ _ (fun h=>absurd h (by decide)) (fun hH2=>?_)
       clear hK K hH2
       clear l1 p0 p1 l2 q0 q1 f0 f1 f2 f3 hb0 hb1 hb2 hq1 hq2 S1 S2 MK
       obtain ⟨w3,hw3⟩: ∃w3,w3=(v2.setCell ⟨g1,0,none⟩ (.int .i64 O)).setCell ⟨g1,1,none⟩ (.int .i64 V):=⟨_,rfl⟩
       rw [←hw3] at S3 S4 HB3⊢
       clear hw3
       obtain ⟨l2,q0,q1⟩:=S4.out.c2
       have f2:=S4.out.frozen 0
       have f3:=S4.out.frozen 1
       refine wpAnyT_one (i:=12) (by kernel_rfl) rfl (fun K hK=>?_)
       go_simp
       have S5:=Lib.hid ((S3.out.other (a:=⟨g2,0,none⟩) (by exact fun h=>hne h.symm) (.int .i64 (X+O*-D))).other (a:=⟨g2,1,none⟩) (by exact fun h=>hne h.symm) (.int .i64 (Y+V*-D)))
       have S6:=Lib.hid ((S4.out.set 0 (.int .i64 (X+O*-D))).set 1 (.int .i64 (Y+V*-D)))
       have HB4:=Lib.hid ((HB3.out.setCell (p:=⟨g2,0,none⟩) (by exact h2) (.int .i64 (X+O*-D))).setCell (p:=⟨g2,1,none⟩) (by exact h2) (.int .i64 (Y+V*-D)))
       refine hK.out _ _ (fun h=>absurd h (by decide)) (fun hH2=>?_)
       clear hK K hH2
       refine wpAnyT_done (by kernel_rfl) ?_ _
       (try go_simp)
       clear l2 q0 q1 f2 f3
       go_wp2_with fail
       go_roundg (8 - k)
       case measure=>omega
       case rel=>exact ⟨k+1,O,V,X+O*-D,Y+V*-D,by omega,by omega,Lib.hid (by rw [HN.out];unfold euNext;simp only [HD.out]),S5,S6,HB4⟩
def StepSt (w wx:World) (A B d g:Int) (v7 v8:Value):Prop:=v7= .int .i64 d∧ ∃(gb:Nat) (sx:Int),v8= .pointer (some ⟨gb,0,none⟩)∧w.heap.size≤gb∧Blk wx gb 191 #[.int .i64 sx, .int .i64 g]∧HasL A B sx g∧-1000≤sx∧sx≤1000∧Below w.heap.size w wx
theorem step_last {w v:World} {A B d g sx:Int} (hB:BelowL w v) (hs:HasL A B sx g) (s1:-1000≤sx) (s2:sx≤1000):StepSt w (v.alloc (.cells #[.int .i64 sx, .int .i64 g] 191)) A B d g (.int .i64 d) (.pointer (some ⟨v.heap.size,0,none⟩)):=
 ⟨rfl,v.heap.size,sx,rfl,hB.le,Blk.new _ _ _,hs,s1,s2,bAlloc hB.out _⟩
theorem step_set {w v:World} {A B d g sx:Int} {gb:Nat} (hB:BelowL w v) (hg:w.heap.size≤gb) (hk:Blk v gb 191 #[.int .i64 0, .int .i64 0]) (hs:HasL A B sx g) (s1:-1000≤sx) (s2:sx≤1000):StepSt w ((v.setCell ⟨gb,0,none⟩ (.int .i64 sx)).setCell ⟨gb,1,none⟩ (.int .i64 g)) A B d g (.int .i64 d) (.pointer (some ⟨gb,0,none⟩)):=
 ⟨rfl,gb,sx,rfl,hg,by exact (hk.set 0 _).set 1 _,hs,s1,s2,(hB.out.setCell (p:=⟨gb,0,none⟩) (by exact hg) _).setCell (p:=⟨gb,1,none⟩) (by exact hg) _⟩
theorem name_math {A B n g d a b p q x y K sx:Int} (L:Lat A B n g d a b p q) (hK:IsName A B x y K) (hs:HasL A B sx g):y % g*d+(x - (y - y % g)/g*sx) % d=K:=
 L.name_one (L.name_by hs) hK
set_option maxRecDepth 100000 in
set_option maxHeartbeats 1600000 in
theorem impl_NameOf_yes {A B n g d a b p q:Int} (L:Lat A B n g d a b p q) (x y K:Int) (x1:-100000≤x) (x2:x≤100000) (y1:-100000≤y) (y2:y≤100000) (hK:IsName A B x y K) (w:World):
   Calls Tryz.prog 243 #[.agg #[.int .i64 A, .int .i64 B], .int .i64 x, .int .i64 y] w fun e w'=>e= .returned (.int .i64 K)∧Below w.heap.size w w':=by
 have HL:=Lib.hid L
 have HK:=Lib.hid hK
 have g1:=L.g1;have g2:=L.g2;have d1:=L.w1;have d2:=L.w2
 clear L hK
 go_enter Tryz.func243,Tryz.ntmps243
 go_wp2_with fail
 refine (impl_IsLattice _ _ _).mono ?_
 rw [lat_ok HL.out]
 rintro e w1 ⟨rfl,hb⟩
 have HB1:=Lib.hid (bTrans (Joins.below_alloc1 _ _) hb)
 have KB1:=Lib.hid ((Blk.new w 139 #[.int .i64 A, .int .i64 B]).below' hb)
 clear hb
 obtain ⟨z,c0,c1⟩:=KB1.out.c2
 go_wp2_with fail
 refine (impl_isPlace _ _).mono ?_
 rw [decide_eq_true (show -100000≤x∧x≤100000 from ⟨x1,x2⟩)]
 rintro e w2 ⟨rfl,rfl⟩
 go_wp2_with fail
 refine (impl_isPlace _ _).mono ?_
 rw [decide_eq_true (show -100000≤y∧y≤100000 from ⟨y1,y2⟩)]
 rintro e w2 ⟨rfl,rfl⟩
 clear z c0 c1
 go_upto_region 3 with fail
 go_cut [7,8] (fun s7 s8 wx=>StepSt w1 wx A B d g s7 s8)
 case first=>
   obtain ⟨z,c0,c1⟩:=KB1.out.c2
   have MK:Hid (∀v,BelowL w1 v→v.cell? ⟨w.heap.size,0,none⟩=some (.int .i64 A)∧v.cell? ⟨w.heap.size,1,none⟩=some (.int .i64 B)∧BelowL w1 v):=Lib.hid (fun v h=>⟨(h.out.cell z).trans c0,(h.out.cell z).trans c1,h⟩)
   refine wp_region_held_drew (S:=fun v=>v.cell? ⟨w.heap.size,0,none⟩=some (.int .i64 A)∧v.cell? ⟨w.heap.size,1,none⟩=some (.int .i64 B)∧BelowL w1 v) (by kernel_rfl) (MK.out _ (BelowL.start _)) ?_
   intro hHeld
   have hb0:=limb3 hHeld
   (refine' wpAnyH_take (i:=0) (v:=?_) rfl (by kernel_rfl) (by kernel_rfl) (by kernel_rfl) (fun _ _ _ h=>h) (Or.inl ⟨by rfl,?_⟩) (by assumption) ?_;rotate_left;(· (intro w hSw;(try dsimp only at hSw);go_simp;try with_reducible rfl));(try simp only [Act.put,List.setIfInBounds_toArray,List.set_cons_zero,List.set_cons_succ]))
   (refine' wpAnyH_take (i:=2) (v:=?_) rfl (by kernel_rfl) (by kernel_rfl) (by kernel_rfl) (fun _ _ _ h=>h) (Or.inl ⟨by rfl,?_⟩) (by assumption) ?_;rotate_left;(· (intro w hSw;(try dsimp only at hSw);go_simp;try with_reducible rfl));(try simp only [Act.put,List.setIfInBounds_toArray,List.set_cons_zero,List.set_cons_succ]))
   refine wpAnyH_ready (rs:=[1,4]) (by kernel_rfl) (by simp) ?_
   refine AllReadyH.cons rfl (fun K hK=>?_) (AllReadyH.cons rfl (fun K hK=>?_) AllReadyH.nil)
   · skip
     go_simp
     go_at_call 196
     ((with_reducible refine (impl_PeriodOf_yes HL.out _).mono ?_);rintro e v1 ⟨rfl,hq1⟩)
     have hb1:=BelowL.call hb0 hq1
     go_wp2_with fail
     refine hK.out _ _ (by (try dsimp only);exact MK.out _ hb1) (fun hHeld=>?_)
     clear hK K
     refine wpAnyH_ready (rs:=[3,4]) (by kernel_rfl) (by simp) ?_
     refine AllReadyH.cons rfl (fun K hK=>?_) (AllReadyH.cons rfl (fun K hK=>?_) AllReadyH.nil)
     · skip
       go_simp
       go_at_call 281
       ((with_reducible refine (impl_stepDown HL.out _).mono ?_);rintro e v2 ⟨sx,rfl,hs,s1,s2,hq2⟩)
       have hb2:=BelowL.call hb1 hq2
       go_wp2_with fail
       refine hK.out _ _ (by (try dsimp only);exact MK.out _ hb2) (fun hHeld=>?_)
       clear hK K
       refine wpAnyH_ready (rs:=[4]) (by kernel_rfl) (by simp) ?_
       refine AllReadyH.cons rfl (fun K hK=>?_) AllReadyH.nil
       go_simp
       refine hK.out _ _ (by (try dsimp only);exact MK.out _ (BelowL.alloc hb2 _)) (fun hHeld=>?_)
       clear hK K
       refine wpAnyH_ready (rs:=[5]) (by kernel_rfl) (by simp) ?_
       refine AllReadyH.cons rfl (fun K hK=>?_) AllReadyH.nil
       go_simp
       refine hK.out _ _ (by (try dsimp only);exact MK.out _ (BelowL.alloc hb2 _)) (fun hHeld=>?_)
       clear hK K
       refine wpAnyH_ready (rs:=[6]) (by kernel_rfl) (by simp) ?_
       refine AllReadyH.cons rfl (fun K hK=>?_) AllReadyH.nil
       go_simp
       refine hK.out _ _ (by (try dsimp only);exact MK.out _ (BelowL.alloc hb2 _)) (fun hHeld=>?_)
       clear hK K
       refine wpAnyH_done (by kernel_rfl) ?_ _
       (try go_simp)
       go_wp2_with fail
       go_meet
       exact step_last hb2 hs s1 s2
     · skip
       go_simp
       refine hK.out _ _ (by (try dsimp only);exact MK.out _ (BelowL.alloc hb1 _)) (fun hHeld=>?_)
       clear hK K
       refine wpAnyH_ready (rs:=[3]) (by kernel_rfl) (by simp) ?_
       refine AllReadyH.cons rfl (fun K hK=>?_) AllReadyH.nil
       go_simp
       go_at_call 281
       ((with_reducible refine (impl_stepDown HL.out _).mono ?_);rintro e v2 ⟨sx,rfl,hs,s1,s2,hq2⟩)
       have hb2:=BelowL.call (BelowL.alloc hb1 _) hq2
       go_wp2_with fail
       refine hK.out _ _ (by (try dsimp only);exact MK.out _ hb2) (fun hHeld=>?_)
       clear hK K
       have kb:=(Blk.new v1 191 #[.int .i64 0, .int .i64 0]).below' hq2
       obtain ⟨kl,k0,k1⟩:=kb.c2
       have f0:=kb.frozen 0
       have f1:=kb.frozen 1
       refine wpAnyH_ready (rs:=[5]) (by kernel_rfl) (by simp) ?_
       refine AllReadyH.cons rfl (fun K hK=>?_) AllReadyH.nil
       go_simp
       refine hK.out _ _ (by (try dsimp only);exact MK.out _ hb2) (fun hHeld=>?_)
       clear hK K
       refine wpAnyH_ready (rs:=[6]) (by kernel_rfl) (by simp) ?_
       refine AllReadyH.cons rfl (fun K hK=>?_) AllReadyH.nil
       go_simp
       refine hK.out _ _ (by (try dsimp only);exact MK.out _ (BelowL.set (BelowL.set hb2 (a:=⟨v1.heap.size,0,none⟩) (by exact hb1.le) _) (a:=⟨v1.heap.size,1,none⟩) (by exact hb1.le) _)) (fun hHeld=>?_)
       clear hK K
       refine wpAnyH_done (by kernel_rfl) ?_ _
       (try go_simp)
       go_wp2_with fail
       go_meet
       exact step_set hb2 hb1.le kb hs s1 s2
   · skip
     go_simp
     refine hK.out _ _ (by (try dsimp only);exact MK.out _ (BelowL.alloc hb0 _)) (fun hHeld=>?_)
     clear hK K
     refine wpAnyH_ready (rs:=[1]) (by kernel_rfl) (by simp) ?_
     refine AllReadyH.cons rfl (fun K hK=>?_) AllReadyH.nil
     go_simp
     go_at_call 196
     ((with_reducible refine (impl_PeriodOf_yes HL.out _).mono ?_);rintro e v1 ⟨rfl,hq1⟩)
     have hb1:=BelowL.call (BelowL.alloc hb0 _) hq1
     go_wp2_with fail
     refine hK.out _ _ (by (try dsimp only);exact MK.out _ hb1) (fun hHeld=>?_)
     clear hK K
     refine wpAnyH_ready (rs:=[3]) (by kernel_rfl) (by simp) ?_
     refine AllReadyH.cons rfl (fun K hK=>?_) AllReadyH.nil
     go_simp
     go_at_call 281
     ((with_reducible refine (impl_stepDown HL.out _).mono ?_);rintro e v2 ⟨sx,rfl,hs,s1,s2,hq2⟩)
     have hb2:=BelowL.call hb1 hq2
     go_wp2_with fail
     refine hK.out _ _ (by (try dsimp only);exact MK.out _ hb2) (fun hHeld=>?_)
     clear hK K
     have kb:=((Blk.new w1 191 #[.int .i64 0, .int .i64 0]).drew.below' hq1).below' hq2
     obtain ⟨kl,k0,k1⟩:=kb.c2
     have f0:=kb.frozen 0
     have f1:=kb.frozen 1
     refine wpAnyH_ready (rs:=[5]) (by kernel_rfl) (by simp) ?_
     refine AllReadyH.cons rfl (fun K hK=>?_) AllReadyH.nil
     go_simp
     refine hK.out _ _ (by (try dsimp only);exact MK.out _ hb2) (fun hHeld=>?_)
     clear hK K
     refine wpAnyH_ready (rs:=[6]) (by kernel_rfl) (by simp) ?_
     refine AllReadyH.cons rfl (fun K hK=>?_) AllReadyH.nil
     go_simp
     refine hK.out _ _ (by (try dsimp only);exact MK.out _ (BelowL.set (BelowL.set hb2 (a:=⟨w1.heap.size,0,none⟩) (by exact (Nat.le_refl _)) _) (a:=⟨w1.heap.size,1,none⟩) (by exact (Nat.le_refl _)) _)) (fun hHeld=>?_)
     clear hK K
     refine wpAnyH_done (by kernel_rfl) ?_ _
     (try go_simp)
     go_wp2_with fail
     go_meet
     exact step_set hb2 (Nat.le_refl _) kb hs s1 s2
 case rest=>
   obtain ⟨rfl,gb,sx,rfl,hg,kb,hs,s1,s2,hb⟩:=hcut
   have HB2:=Lib.hid (bTrans HB1.out hb)
   have HS:=Lib.hid hs
   have HM:=Lib.hid (name_math HL.out HK.out hs)
   obtain ⟨kl,k0,k1⟩:=kb.c2
   clear kb hs hb
   have v0:=Int.emod_nonneg y (show g≠0 by omega)
   have v1:=Int.emod_lt_of_pos y (show 0<g by omega)
   obtain ⟨V,hV⟩: ∃V,y % g=V:=⟨_,rfl⟩
   rw [hV] at v0 v1 HM
   have hyt:g*((y - V)/g)=y - V:=by
     have h:=Int.mul_ediv_add_emod y g
     have e1:y - V=g*(y/g):=by omega
     rw [e1,Int.mul_ediv_cancel_left _ (by omega)]
   obtain ⟨T,hT⟩: ∃T,(y - V)/g=T:=⟨_,rfl⟩
   rw [hT] at hyt HM
   have tb:-100012≤T∧T≤100000:=by
     have:g*1≤g*12:=by omega
     constructor
     · by_cases h:-100012≤T
       · exact h
       · exfalso
         have:g*T≤1*T:=Int.mul_le_mul_of_nonpos_right (by omega) (by omega)
         omega
     · by_cases h:T≤100000
       · exact h
       · exfalso
         have:1*T≤g*T:=Int.mul_le_mul_of_nonneg_right (by omega) (by omega)
         omega
   obtain ⟨tb1,tb2⟩:=tb
   have tt:(y - V).tdiv g=T:=by rw [←hyt];exact Int.mul_tdiv_cancel_left _ (by omega)
   have m1:-100012000≤T*sx∧T*sx≤100012000:=by
     have q1:T*sx≤100012*1000∧-(100012*1000)≤T*sx:=by
       rcases Int.le_total 0 sx with h | h
       · have i1:T*sx≤100012*sx:=Int.mul_le_mul_of_nonneg_right (by omega) h
         have i2:-100012*sx≤T*sx:=Int.mul_le_mul_of_nonneg_right (by omega) h
         omega
       · have i1:100012*sx≤T*sx:=Int.mul_le_mul_of_nonpos_right (by omega) h
         have i2:T*sx≤-100012*sx:=Int.mul_le_mul_of_nonpos_right (by omega) h
         omega
     omega
   obtain ⟨m2,m3⟩:=m1
   have u0:=Int.emod_nonneg (x - T*sx) (show d≠0 by omega)
   have u1:=Int.emod_lt_of_pos (x - T*sx) (show 0<d by omega)
   obtain ⟨U,hU⟩: ∃U,(x - T*sx) % d=U:=⟨_,rfl⟩
   rw [hU] at u0 u1 HM
   have r1:0≤V*d:=Int.mul_nonneg v0 (by omega)
   have r2:=Int.mul_le_mul (show V≤12 by omega) (show d≤288 by omega) (by omega) (by omega)
   have z1: ¬g=0:=by omega
   have z2:(g==0)=false:=by simp;omega
   have HV:=Lib.hid hV
   have HU:=Lib.hid hU
   clear hV hU hyt hT
   go_wp2_with fail
   refine (rem5 _ _ _ (by omega) (by omega)).mono ?_
   rw [HV.out]
   rintro e w3 ⟨rfl,rfl⟩
   go_wp2_with fail
   refine (rem5 _ _ _ (by omega) (by omega)).mono ?_
   rw [HU.out]
   rintro e w3 ⟨rfl,rfl⟩
   have HMM:=Lib.hid HM
   clear HM
   go_wp2_with fail
   go_ret
   exact ⟨ret_int HMM.out,HB2.out⟩
end Go.Proofs.YtmikajnpgcabfaaGreatDoor
