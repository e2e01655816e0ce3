/-
  Contracts and plain facts on which the theorem of this claim rests, text 37.
-/
import Derived.DeepKeys4
import Derived.Maps.Own
import Derived.Maps.Views
import Derived.StringKeys
import Derived.Test.YtanccoopbgamdaaGreatDoorKC1
import Derived.Test.YtanccoopbgamdaaGreatDoorKC3
import Derived.Test.YtanccoopbgamdaaGreatDoorKC4
import Derived.Test.YtanccoopbgamdaaGreatDoorKC5
import Derived.Test.YtanccoopbgamdaaGreatDoorKC10
import Derived.Test.YtanccoopbgamdaaGreatDoorKC18
import Derived.Test.YtanccoopbgamdaaGreatDoorKC27
import Derived.Test.YtanccoopbgamdaaGreatDoorKC28
import Derived.Test.YtanccoopbgamdaaGreatDoorKC30
import Derived.Test.YtanccoopbgamdaaGreatDoorKC31
import Derived.Test.YtanccoopbgamdaaGreatDoorKC36
namespace Go.Proofs.YtanccoopbgamdaaGreatDoor
open Go.RowKit
set_option linter.unusedVariables false
set_option linter.unusedSimpArgs false
theorem Blk.put3 {w:World} {g T:Nat} {a b c:Value} (k:Blk w g T #[a,b,c]) (x y z:Value):Blk (((w.setCell ⟨g,0,none⟩ x).setCell ⟨g,1,none⟩ y).setCell ⟨g,2,none⟩ z) g T #[x,y,z]:=by
 have:=((k.set 0 x).set 1 y).set 2 z
 simpa using this
def PicCut (w0 wx:World) (p:Pic) (s:Value):Prop:=
 ∃g a n c,s= .pointer (some ⟨g,0,none⟩)∧Blk wx g 27 #[.int .i64 p.W, .int .i64 p.H, .slice a n c]∧OwnA wx w0.heap.size a n c p.ink∧n≤1048576∧Below w0.heap.size w0 wx
def PicCmd (w:World) (p:Pic) (e:Ending) (w':World):Prop:=
 ∃a n c,e= .returned (.tuple #[.iface 122 (.agg #[.int .i64 p.W, .int .i64 p.H, .slice a n c]), .bool true])∧OwnA w' w.heap.size a n c p.ink∧n≤1048576∧Below w.heap.size w w'
set_option maxRecDepth 100000 in
set_option maxHeartbeats 3200000 in
theorem num_ramp (na:Option Addr) (nc:Nat) (x y:Int) (w:World) (hr:Rd w na [x,y]):
   Calls Tryz.prog 67 #[.string ⟨#[114,97,109,112]⟩, .slice na 2 nc] w (PicCmd w (rampF x y).1):=by
 obtain ⟨w0,hw0⟩: ∃v,v=w.alloc (.cells #[.slice na 2 nc] 25):=⟨_,rfl⟩
 have HB0:Hid (Below w.heap.size w w0):=Lib.hid (by rw [hw0];exact bAlloc (Below.refl w.heap.size w) (.cells #[.slice na 2 nc] 25))
 obtain ⟨b,off,hae,hbl,hbc⟩:=(hr.below HB0.out).at (by simp)
 subst hae
 have q0:=hbc 0 (by simp)
 have q1:=hbc 1 (by simp)
 rw [show [x,y].getD 0 0=x from rfl,Nat.add_zero] at q0
 rw [show [x,y].getD 1 0=y from rfl] at q1
 have p0:w0.cell? ⟨w.heap.size,0,none⟩=some (.slice (some ⟨b,off,none⟩) 2 nc):=by rw [hw0];exact (Blk.new w 25 #[.slice (some ⟨b,off,none⟩) 2 nc]).cell 0
 have l0:w.heap.size<w0.heap.size:=by rw [hw0];simp
 clear hr hbc
 go_enter Tryz.func67,Tryz.ntmps67
 go_upto_region 6 with fail
 rw [←hw0]
 clear hw0
 go_cut [8] (fun s wx=>PicCut w0 wx (rampF x y).1 s)
 case first=>
   have MK:Hid (∀v,BelowL w0 v→v.cell? ⟨w.heap.size,0,none⟩=some (.slice (some ⟨b,off,none⟩) 2 nc)∧v.cell? ⟨b,off,none⟩=some (.int .i64 x)∧v.cell? ⟨b,off+1,none⟩=some (.int .i64 y)∧BelowL w0 v):=Lib.hid (fun v h=>⟨(h.out.cell l0).trans p0,(h.out.cell hbl).trans q0,(h.out.cell hbl).trans q1,h⟩)
   clear q0 q1 p0
   refine wp_region_held_drew (S:=fun v=>v.cell? ⟨w.heap.size,0,none⟩=some (.slice (some ⟨b,off,none⟩) 2 nc)∧v.cell? ⟨b,off,none⟩=some (.int .i64 x)∧v.cell? ⟨b,off+1,none⟩=some (.int .i64 y)∧BelowL w0 v) (by kernel_rfl) (MK.out _ (BelowL.start _)) ?_
   intro hHeld
   refine hTake 0 ?_
   refine simpR ?_
   refine hTake 1 ?_
   refine simpR ?_
   refine hTake 2 ?_
   refine simpR ?_
   refine hTake 3 ?_
   refine simpR ?_
   refine hTake 4 ?_
   refine simpR ?_
   refine hTake 5 ?_
   refine simpR ?_
   refine wpAnyH_ready (rs:=[6,10]) (by kernel_rfl) (by simp) ?_
   refine AllReadyH.cons rfl (fun K hK=>?_) (AllReadyH.cons rfl (fun K hK=>?_) AllReadyH.nil)
   · go_simp
     go_at_call 7
     ((with_reducible refine (impl_RampPicture x y _).mono ?_);rintro e v1 ⟨a1,n1,k1,rfl,ho1,hn1,hq1⟩)
     have hb1:=BelowL.call (BelowL.start _) hq1
     go_wp2_with fail
     refine hK.out _ _ (by (try dsimp only);exact MK.out _ hb1) (fun hHeld=>?_)
     clear hK K
     refine simpR ?_
     refine hTake 7 ?_
     refine simpR ?_
     refine hTake 8 ?_
     refine simpR ?_
     refine hTake 9 ?_
     refine simpR ?_
     refine hOne 10 (fun K hK=>?_)
     go_simp
     have hb2:=BelowL.alloc hb1 (.cells #[.int .i64 0, .int .i64 0, .slice none 0 0] 27)
     refine hK.out _ _ (by (try dsimp only);exact MK.out _ hb2) (fun hHeld=>?_)
     clear hK K
     refine simpR ?_
     refine hOne 11 (fun K hK=>?_)
     go_simp
     have hb3:=BelowL.alloc hb1 (.cells #[.int .i64 (rampF x y).1.W, .int .i64 (rampF x y).1.H, .slice a1 n1 k1] 27)
     refine hK.out _ _ (by (try dsimp only);exact MK.out _ hb3) (fun hHeld=>?_)
     clear hK K
     refine simpR ?_
     refine hTake 12 ?_
     refine simpR ?_
     refine wpAnyH_done (by kernel_rfl) ?_ _
     go_wp2_with fail
     go_meet
     exact ⟨v1.heap.size,a1,n1,k1,rfl,Blk.new _ _ _,(ho1.alloc _).mono (Nat.le_refl _),hn1,hb3.out⟩
   · go_simp
     have hb0:BelowL w0 (w0.alloc (.cells #[.int .i64 0, .int .i64 0, .slice none 0 0] 27)).drew:=BelowL.mk (bAlloc (Below.refl _ _) _).drew
     have kb0:Blk (w0.alloc (.cells #[.int .i64 0, .int .i64 0, .slice none 0 0] 27)).drew w0.heap.size 27 #[.int .i64 0, .int .i64 0, .slice none 0 0]:=(Blk.new _ _ _).drew
     refine hK.out _ _ (by (try dsimp only);exact MK.out _ hb0) (fun hHeld=>?_)
     clear hK K
     refine simpR ?_
     refine hOne 6 (fun K hK=>?_)
     go_simp
     go_at_call 7
     ((with_reducible refine (impl_RampPicture x y _).mono ?_);rintro e v1 ⟨a1,n1,k1,rfl,ho1,hn1,hq1⟩)
     have hb1:=BelowL.call hb0 hq1
     have kb1:=kb0.below' hq1
     have hz1:w0.heap.size+1≤v1.heap.size:=by have:=hq1.size;simpa using this
     go_wp2_with fail
     refine hK.out _ _ (by (try dsimp only);exact MK.out _ hb1) (fun hHeld=>?_)
     clear hK K
     refine simpR ?_
     refine hTake 7 ?_
     refine simpR ?_
     refine hTake 8 ?_
     refine simpR ?_
     refine hTake 9 ?_
     refine simpR ?_
     obtain ⟨m0,d0,d1,d2⟩:=kb1.c3
     obtain ⟨f0,f1,f2⟩:=kb1.f3
     refine hOne 11 (fun K hK=>?_)
     go_simp
     have hb3:BelowL w0 _:=((hb1.set (a:=(⟨w0.heap.size,0,none⟩:Addr)) (Nat.le_refl w0.heap.size) (.int .i64 (rampF x y).1.W)).set (a:=(⟨w0.heap.size,1,none⟩:Addr)) (Nat.le_refl w0.heap.size) (.int .i64 (rampF x y).1.H)).set (a:=(⟨w0.heap.size,2,none⟩:Addr)) (Nat.le_refl w0.heap.size) (.slice a1 n1 k1)
     refine hK.out _ _ (by (try dsimp only);exact MK.out _ hb3) (fun hHeld=>?_)
     clear hK K
     refine simpR ?_
     refine hTake 12 ?_
     refine simpR ?_
     refine wpAnyH_done (by kernel_rfl) ?_ _
     go_wp2_with fail
     go_meet
     exact ⟨w0.heap.size,a1,n1,k1,rfl,kb1.put3 _ _ _,OwnA.mono (((ho1.otherT (fun e=>by have:=ho1.bd _ e;simp at this;omega) _).otherT (fun e=>by have:=ho1.bd _ e;simp at this;omega) _).otherT (fun e=>by have:=ho1.bd _ e;simp at this;omega) _) (by simp),hn1,hb3.out⟩
 case rest=>
   obtain ⟨g,a,n,c,rfl,kb,ho,hn,hb⟩:=hcut
   have KB:=Lib.hid kb
   have HB1:=Lib.hid (bTrans HB0.out hb)
   have HO:=Lib.hid ho
   have HN:=Lib.hid hn
   have HZ:=HB0.out.size
   clear hb ho hn kb
   obtain ⟨m0,d0,d1,d2⟩:=KB.out.c3
   go_wp2_with fail
   go_ret2
   exact ⟨a,n,c,rfl,OwnA.mono HO.out HZ,HN.out,HB1.out⟩
set_option maxRecDepth 100000 in
set_option maxHeartbeats 3200000 in
theorem num_flat (na:Option Addr) (nc:Nat) (x y z:Int) (w:World) (hr:Rd w na [x,y,z]):
   Calls Tryz.prog 67 #[.string ⟨#[102,108,97,116]⟩, .slice na 3 nc] w (PicCmd w (flatF x y z).1):=by
 obtain ⟨w0,hw0⟩: ∃v,v=w.alloc (.cells #[.slice na 3 nc] 25):=⟨_,rfl⟩
 have HB0:Hid (Below w.heap.size w w0):=Lib.hid (by rw [hw0];exact bAlloc (Below.refl w.heap.size w) (.cells #[.slice na 3 nc] 25))
 obtain ⟨b,off,hae,hbl,hbc⟩:=(hr.below HB0.out).at (by simp)
 subst hae
 have q0:=hbc 0 (by simp)
 have q1:=hbc 1 (by simp)
 have q2:=hbc 2 (by simp)
 rw [show [x,y,z].getD 0 0=x from rfl,Nat.add_zero] at q0
 rw [show [x,y,z].getD 1 0=y from rfl] at q1
 rw [show [x,y,z].getD 2 0=z from rfl] at q2
 have p0:w0.cell? ⟨w.heap.size,0,none⟩=some (.slice (some ⟨b,off,none⟩) 3 nc):=by rw [hw0];exact (Blk.new w 25 #[.slice (some ⟨b,off,none⟩) 3 nc]).cell 0
 have l0:w.heap.size<w0.heap.size:=by rw [hw0];simp
 clear hr hbc
 go_enter Tryz.func67,Tryz.ntmps67
 go_upto_region 3 with fail
 rw [←hw0]
 clear hw0
 go_cut [6] (fun s wx=>PicCut w0 wx (flatF x y z).1 s)
 case first=>
   have MK:Hid (∀v,BelowL w0 v→v.cell? ⟨w.heap.size,0,none⟩=some (.slice (some ⟨b,off,none⟩) 3 nc)∧v.cell? ⟨b,off,none⟩=some (.int .i64 x)∧v.cell? ⟨b,off+1,none⟩=some (.int .i64 y)∧v.cell? ⟨b,off+2,none⟩=some (.int .i64 z)∧BelowL w0 v):=Lib.hid (fun v h=>⟨(h.out.cell l0).trans p0,(h.out.cell hbl).trans q0,(h.out.cell hbl).trans q1,(h.out.cell hbl).trans q2,h⟩)
   clear q0 q1 q2 p0
   refine wp_region_held_drew (S:=fun v=>v.cell? ⟨w.heap.size,0,none⟩=some (.slice (some ⟨b,off,none⟩) 3 nc)∧v.cell? ⟨b,off,none⟩=some (.int .i64 x)∧v.cell? ⟨b,off+1,none⟩=some (.int .i64 y)∧v.cell? ⟨b,off+2,none⟩=some (.int .i64 z)∧BelowL w0 v) (by kernel_rfl) (MK.out _ (BelowL.start _)) ?_
   intro hHeld
   refine hTake 0 ?_
   refine simpR ?_
   refine hTake 1 ?_
   refine simpR ?_
   refine hTake 2 ?_
   refine simpR ?_
   refine hTake 3 ?_
   refine simpR ?_
   refine hTake 4 ?_
   refine simpR ?_
   refine hTake 5 ?_
   refine simpR ?_
   refine hTake 6 ?_
   refine simpR ?_
   refine hTake 7 ?_
   refine simpR ?_
   refine hTake 8 ?_
   refine simpR ?_
   refine wpAnyH_ready (rs:=[9,13]) (by kernel_rfl) (by simp) ?_
   refine AllReadyH.cons rfl (fun K hK=>?_) (AllReadyH.cons rfl (fun K hK=>?_) AllReadyH.nil)
   · go_simp
     go_at_call 51
     ((with_reducible refine (impl_FlatPicture x y z _).mono ?_);rintro e v1 ⟨a1,n1,k1,rfl,ho1,hn1,hq1⟩)
     have hb1:=BelowL.call (BelowL.start _) hq1
     go_wp2_with fail
     refine hK.out _ _ (by (try dsimp only);exact MK.out _ hb1) (fun hHeld=>?_)
     clear hK K
     refine simpR ?_
     refine hTake 10 ?_
     refine simpR ?_
     refine hTake 11 ?_
     refine simpR ?_
     refine hTake 12 ?_
     refine simpR ?_
     refine hOne 13 (fun K hK=>?_)
     go_simp
     have hb2:=BelowL.alloc hb1 (.cells #[.int .i64 0, .int .i64 0, .slice none 0 0] 27)
     refine hK.out _ _ (by (try dsimp only);exact MK.out _ hb2) (fun hHeld=>?_)
     clear hK K
     refine simpR ?_
     refine hOne 14 (fun K hK=>?_)
     go_simp
     have hb3:=BelowL.alloc hb1 (.cells #[.int .i64 (flatF x y z).1.W, .int .i64 (flatF x y z).1.H, .slice a1 n1 k1] 27)
     refine hK.out _ _ (by (try dsimp only);exact MK.out _ hb3) (fun hHeld=>?_)
     clear hK K
     refine simpR ?_
     refine hTake 15 ?_
     refine simpR ?_
     refine wpAnyH_done (by kernel_rfl) ?_ _
     go_wp2_with fail
     go_meet
     exact ⟨v1.heap.size,a1,n1,k1,rfl,Blk.new _ _ _,(ho1.alloc _).mono (Nat.le_refl _),hn1,hb3.out⟩
   · go_simp
     have hb0:BelowL w0 (w0.alloc (.cells #[.int .i64 0, .int .i64 0, .slice none 0 0] 27)).drew:=BelowL.mk (bAlloc (Below.refl _ _) _).drew
     have kb0:Blk (w0.alloc (.cells #[.int .i64 0, .int .i64 0, .slice none 0 0] 27)).drew w0.heap.size 27 #[.int .i64 0, .int .i64 0, .slice none 0 0]:=(Blk.new _ _ _).drew
     refine hK.out _ _ (by (try dsimp only);exact MK.out _ hb0) (fun hHeld=>?_)
     clear hK K
     refine simpR ?_
     refine hOne 9 (fun K hK=>?_)
     go_simp
     go_at_call 51
     ((with_reducible refine (impl_FlatPicture x y z _).mono ?_);rintro e v1 ⟨a1,n1,k1,rfl,ho1,hn1,hq1⟩)
     have hb1:=BelowL.call hb0 hq1
     have kb1:=kb0.below' hq1
     have hz1:w0.heap.size+1≤v1.heap.size:=by have:=hq1.size;simpa using this
     go_wp2_with fail
     refine hK.out _ _ (by (try dsimp only);exact MK.out _ hb1) (fun hHeld=>?_)
     clear hK K
     refine simpR ?_
     refine hTake 10 ?_
     refine simpR ?_
     refine hTake 11 ?_
     refine simpR ?_
     refine hTake 12 ?_
     refine simpR ?_
     obtain ⟨m0,d0,d1,d2⟩:=kb1.c3
     obtain ⟨f0,f1,f2⟩:=kb1.f3
     refine hOne 14 (fun K hK=>?_)
     go_simp
     have hb3:BelowL w0 _:=((hb1.set (a:=(⟨w0.heap.size,0,none⟩:Addr)) (Nat.le_refl w0.heap.size) (.int .i64 (flatF x y z).1.W)).set (a:=(⟨w0.heap.size,1,none⟩:Addr)) (Nat.le_refl w0.heap.size) (.int .i64 (flatF x y z).1.H)).set (a:=(⟨w0.heap.size,2,none⟩:Addr)) (Nat.le_refl w0.heap.size) (.slice a1 n1 k1)
     refine hK.out _ _ (by (try dsimp only);exact MK.out _ hb3) (fun hHeld=>?_)
     clear hK K
     refine simpR ?_
     refine hTake 15 ?_
     refine simpR ?_
     refine wpAnyH_done (by kernel_rfl) ?_ _
     go_wp2_with fail
     go_meet
     exact ⟨w0.heap.size,a1,n1,k1,rfl,kb1.put3 _ _ _,OwnA.mono (((ho1.otherT (fun e=>by have:=ho1.bd _ e;simp at this;omega) _).otherT (fun e=>by have:=ho1.bd _ e;simp at this;omega) _).otherT (fun e=>by have:=ho1.bd _ e;simp at this;omega) _) (by simp),hn1,hb3.out⟩
 case rest=>
   obtain ⟨g,a,n,c,rfl,kb,ho,hn,hb⟩:=hcut
   have KB:=Lib.hid kb
   have HB1:=Lib.hid (bTrans HB0.out hb)
   have HO:=Lib.hid ho
   have HN:=Lib.hid hn
   have HZ:=HB0.out.size
   clear hb ho hn kb
   obtain ⟨m0,d0,d1,d2⟩:=KB.out.c3
   go_wp2_with fail
   go_ret2
   exact ⟨a,n,c,rfl,OwnA.mono HO.out HZ,HN.out,HB1.out⟩
end Go.Proofs.YtanccoopbgamdaaGreatDoor
namespace Go.Proofs.YtanccoopbgamdaaGreatDoor
set_option linter.unusedVariables false
set_option linter.unusedSimpArgs false
theorem placeC_lt {key:Int→Int} {x y:Int} {n:Nat} (h:RL key x y) (hx: ∃k:Nat,k<n∧(k:Int)=x):placeC key x n<placeC key y n:=by
 obtain ⟨k0,hk0,e0⟩:=hx
 have mono: ∀m,placeC key x m≤placeC key y m∧(k0<m→placeC key x m<placeC key y m):=by
   intro m
   induction m with
   | zero=>exact ⟨Nat.le_refl _,fun h=>by omega⟩
   | succ m ih=>
     unfold placeC
     by_cases c:RLb key (m:Int) x=true
     · have c2:RLb key (m:Int) y=true:=RLb_iff.2 ((RLb_iff.1 c).trans h)
       rw [if_pos c,if_pos c2]
       refine ⟨by omega,fun hm=>?_⟩
       by_cases e:k0=m
       · subst e;rw [e0] at c;exact absurd (RLb_iff.1 c) RL.irrefl
       · have:=ih.2 (by omega);omega
     · rw [if_neg c]
       refine ⟨by split <;>omega,fun hm=>?_⟩
       by_cases e:k0=m
       · subst e
         rw [if_pos (RLb_iff.2 (by rw [e0];exact h))]
         omega
       · have:=ih.2 (by omega)
         split <;>omega
 exact (mono n).2 hk0
theorem placeC_bd {key:Int→Int} {n K:Nat} (hK:K<n):placeC key (K:Int) n<n:=by
 have step: ∀m,placeC key (K:Int) m≤m∧(K<m→placeC key (K:Int) m<m):=by
   intro m
   induction m with
   | zero=>exact ⟨Nat.le_refl _,fun h=>by omega⟩
   | succ m ih=>
     unfold placeC
     refine ⟨by split <;>omega,fun hm=>?_⟩
     by_cases e:K=m
     · subst e
       rw [if_neg (fun c=>RL.irrefl (RLb_iff.1 c))]
       omega
     · have:=ih.2 (by omega)
       split <;>omega
 exact (step n).2 hK
theorem placeC_inj {key:Int→Int} {n i j:Nat} (hi:i<n) (hj:j<n) (e:placeC key (i:Int) n=placeC key (j:Int) n):i=j:=by
 by_cases c:i=j
 · exact c
 · exfalso
   by_cases r:RL key (i:Int) (j:Int)
   · have:=placeC_lt r ⟨i,hi,rfl⟩;omega
   · have:=placeC_lt (RL.of_not r (by omega)) ⟨j,hj,rfl⟩;omega
theorem smat_ok {d:Int} {n:Nat} (key:Int→Int) (hs:matSize d d=true) (hq:(n:Int)=d*d):matOk d d (ranksL key n)=true:=by
 unfold matOk permOk inR ranksL
 rw [hs,gen_len,decide_eq_true hq,Bool.true_and,Bool.true_and,Bool.and_eq_true]
 constructor
 · rw [List.all_eq_true]
   intro x hx
   unfold gen at hx
   simp at hx
   obtain ⟨i,hi,rfl⟩:=hx
   have:=placeC_bd (key:=key) hi
   simp;omega
 · rw [decide_eq_true_eq]
   unfold gen
   rw [List.Nodup,List.pairwise_map]
   exact List.Pairwise.imp_of_mem (fun {a b} ha hb hab=>by
     simp at ha hb
     intro e
     exact hab (placeC_inj (key:=key) ha hb (by omega))) List.nodup_range
end Go.Proofs.YtanccoopbgamdaaGreatDoor
namespace Go.Proofs.YtanccoopbgamdaaGreatDoor
open Go.RowKit
set_option linter.unusedVariables false
set_option linter.unusedSimpArgs false
theorem smat_both3 (A B:Int):
 ∃F:Mat × Bool,True∧(∀w,Calls Tryz.prog 95 #[.agg #[.int .i64 A, .int .i64 B]] w (MatOut2 w F))∧matOk F.1.W F.1.H F.1.ranks=F.2:=by
 by_cases hok:latOk A B=true
 · obtain ⟨n,g,d,a,b,p,q,L⟩:=lat_of hok
   have n1:=L.n1;have n2:=L.n2
   obtain ⟨N,rfl⟩: ∃N:Nat,n=N:=⟨n.toNat,by omega⟩
   by_cases hs:matSize d d=true
   · obtain ⟨b1,b2,b3⟩:=matSqB hs
     have b5:1*1≤d*d:=Int.mul_le_mul b1 b1 (by omega) (by omega)
     obtain ⟨m,hq⟩: ∃m:Nat,(m:Int)=d*d:=⟨(d*d).toNat,by omega⟩
     obtain ⟨nm,hnm⟩:=named_ex L d m
     exact ⟨_,trivial,fun w=>impl_SpotMatrix_yes L m nm hnm hs hq w,smat_ok _ hs hq⟩
   · exact ⟨_,trivial,fun w=>impl_SpotMatrix_no2 L hs w,by decide⟩
 · have ho:latOk A B=false:=by simpa using hok
   exact ⟨_,trivial,fun w=>impl_SpotMatrix_no1 ho w,by decide⟩
noncomputable def spotF (A B:Int):Mat × Bool:=Classical.choose (smat_both3 A B)
theorem spotF_impl (A B:Int):(∀w,Calls Tryz.prog 95 #[.agg #[.int .i64 A, .int .i64 B]] w (MatOut2 w (spotF A B))):=(Classical.choose_spec (smat_both3 A B)).2.1
inductive NumCmd (w:World):List UInt8→List Int→Ending→World→Prop
 | flat {x y z:Int} {e:Ending} {w':World} (h:PicCmd w (flatF x y z).1 e w'):NumCmd w [102,108,97,116] [x,y,z] e w'
 | ramp {x y:Int} {e:Ending} {w':World} (h:PicCmd w (rampF x y).1 e w'):NumCmd w [114,97,109,112] [x,y] e w'
 | bayer {x:Int} {e:Ending} {w':World} (h:GivenOut w (bayerF x).1 e w'):NumCmd w [98,97,121,101,114] [x] e w'
 | spiral {x:Int} {e:Ending} {w':World} (h:GivenOut w (spiralF x).1 e w'):NumCmd w [115,112,105,114,97,108] [x] e w'
 | spot {x y:Int} {e:Ending} {w':World} (h:GivenOut w (spotF x y).1 e w'):NumCmd w [115,112,111,116] [x,y] e w'
 | rank {x y z:Int} {e:Ending} {w':World} (h:GivenOut w (rankedF x y z).1 e w'):NumCmd w [114,97,110,107] [x,y,z] e w'
 | shift {x y:Int} {na:Option Addr} {nc:Nat} (h:Rd w na [x,y]):NumCmd w [115,104,105,102,116] [x,y] (.returned (.tuple #[.iface 106 (.func (.func 97) #[] #[.pointer (some ⟨w.heap.size,0,none⟩)]), .bool true])) (w.alloc (.cells #[.slice na 2 nc] 25))
 | level {x:Int} {na:Option Addr} {nc:Nat}:NumCmd w [108,101,118,101,108] [x] (.returned (.tuple #[.iface 129 (.int .i64 x), .bool true])) (w.alloc (.cells #[.slice na 1 nc] 25))
 | none {l:List UInt8} {xs:List Int} {na:Option Addr} {n nc:Nat} (h:NoForm l xs.length):NumCmd w l xs (.returned (.tuple #[.nilIface, .bool false])) (w.alloc (.cells #[.slice na n nc] 25))
theorem bytes_lit {s:ByteArray} {l:List UInt8} (h:s.toList=l):s=⟨l.toArray⟩:=by
 rw [ByteArray.toList_eq] at h
 cases s with
 | mk d=>
   congr
   have:d.toList=l:=h
   rw [←this]
theorem len1 {xs:List Int} (h:xs.length=1): ∃x,xs=[x]:=by
 match xs,h with
 | [x],_=>exact ⟨x,rfl⟩
theorem len2 {xs:List Int} (h:xs.length=2): ∃x y,xs=[x,y]:=by
 match xs,h with
 | [x,y],_=>exact ⟨x,y,rfl⟩
theorem len3 {xs:List Int} (h:xs.length=3): ∃x y z,xs=[x,y,z]:=by
 match xs,h with
 | [x,y,z],_=>exact ⟨x,y,z,rfl⟩
theorem num_all (s:ByteArray) (na:Option Addr) (n nc:Nat) (xs:List Int) (w:World) (hn:xs.length=n) (hr:Rd w na xs):
   Calls Tryz.prog 67 #[.string s, .slice na n nc] w (NumCmd w s.toList xs):=by
 by_cases hf:NoForm s.toList xs.length
 · subst hn
   refine (num_none s na xs.length nc w hf).mono ?_
   rintro e w' ⟨rfl,rfl⟩
   exact .none hf
 have hc:(s.toList=[102,108,97,116]∧xs.length=3)∨(s.toList=[114,97,109,112]∧xs.length=2)∨(s.toList=[98,97,121,101,114]∧xs.length=1)∨(s.toList=[115,112,105,114,97,108]∧xs.length=1)∨(s.toList=[115,112,111,116]∧xs.length=2)∨(s.toList=[114,97,110,107]∧xs.length=3)∨(s.toList=[115,104,105,102,116]∧xs.length=2)∨(s.toList=[108,101,118,101,108]∧xs.length=1):=by
   apply Classical.byContradiction
   intro h
   simp only [not_or,not_and] at h
   exact hf ⟨h.1,h.2.1,h.2.2.1,h.2.2.2.1,h.2.2.2.2.1,h.2.2.2.2.2.1,h.2.2.2.2.2.2.1,h.2.2.2.2.2.2.2⟩
 subst hn
 rcases hc with ⟨h1,h2⟩ | ⟨h1,h2⟩ | ⟨h1,h2⟩ | ⟨h1,h2⟩ | ⟨h1,h2⟩ | ⟨h1,h2⟩ | ⟨h1,h2⟩ | ⟨h1,h2⟩
 · obtain ⟨x,y,z,rfl⟩:=len3 h2
   rw [h1,bytes_lit h1]
   exact (num_flat na nc x y z w hr).mono (fun e w' h=> .flat h)
 · obtain ⟨x,y,rfl⟩:=len2 h2
   rw [h1,bytes_lit h1]
   exact (num_ramp na nc x y w hr).mono (fun e w' h=> .ramp h)
 · obtain ⟨x,rfl⟩:=len1 h2
   rw [h1,bytes_lit h1]
   exact (num_bayer na nc x w hr).mono (fun e w' h=> .bayer h)
 · obtain ⟨x,rfl⟩:=len1 h2
   rw [h1,bytes_lit h1]
   exact (num_spiral na nc x w hr).mono (fun e w' h=> .spiral h)
 · obtain ⟨x,y,rfl⟩:=len2 h2
   rw [h1,bytes_lit h1]
   exact (num_spot (spotF x y) na nc x y w hr (spotF_impl x y)).mono (fun e w' h=> .spot h)
 · obtain ⟨x,y,z,rfl⟩:=len3 h2
   rw [h1,bytes_lit h1]
   exact (num_rank na nc x y z w hr).mono (fun e w' h=> .rank h)
 · obtain ⟨x,y,rfl⟩:=len2 h2
   rw [h1,bytes_lit h1]
   refine (num_shift na nc w).mono ?_
   rintro e w' ⟨rfl,rfl⟩
   exact .shift hr
 · obtain ⟨x,rfl⟩:=len1 h2
   rw [h1,bytes_lit h1]
   refine (num_level na nc x w hr).mono ?_
   rintro e w' ⟨rfl,rfl⟩
   exact .level
theorem NumCmd.below {w:World} {l:List UInt8} {xs:List Int} {e:Ending} {w':World} (h:NumCmd w l xs e w'):Below w.heap.size w w':=by
 have q: ∀o,Below w.heap.size w (w.alloc o):=fun o=>bAlloc (Below.refl _ _) o
 cases h with
 | flat h=>obtain ⟨_,_,_,_,_,_,h⟩:=h;exact h
 | ramp h=>obtain ⟨_,_,_,_,_,_,h⟩:=h;exact h
 | bayer h=>obtain ⟨_,_,_,_,_,_,_,_,h⟩:=h;exact h
 | spiral h=>obtain ⟨_,_,_,_,_,_,_,_,h⟩:=h;exact h
 | spot h=>obtain ⟨_,_,_,_,_,_,_,_,h⟩:=h;exact h
 | rank h=>obtain ⟨_,_,_,_,_,_,_,_,h⟩:=h;exact h
 | shift h=>exact q _
 | level=>exact q _
 | none h=>exact q _
end Go.Proofs.YtanccoopbgamdaaGreatDoor
namespace Go.Proofs.YtanccoopbgamdaaGreatDoor
open Go.ChangeMaps Go.MapKept Go.WideMaps
open Go.Maps (Keyed)
set_option linter.unusedVariables false
set_option linter.unusedSimpArgs false
theorem str_law:Keyed Tryz.prog 9:=Keyed.of_law (string_law Tryz.underlying9)
def heldR (v:Value):Option (DataW Value × List MemPlace):=some (.held v,[])
def VS (w:World) (b n:Nat) (S:List UInt8→Option Value):Prop:=
 ∃D:DataW Value,Maps.IsMap D∧w.ownsMap Tryz.prog 9 heldR b n D∧ ∀l zd,D.atKey (.string l) zd=(match S l with | some v=> .held v | none=>zd)
theorem vs_made (w:World):VS (w.alloc (.map #[] 0)) w.heap.size 0 (fun _=>none):=
 ⟨.map [],Maps.isMap_empty,World.ownsMap_made w _ _ _,fun l zd=>rfl⟩
theorem VS.same {w w':World} {b n:Nat} {S:List UInt8→Option Value} (h:VS w b n S) (hb:w'.heap[b]? =w.heap[b]?):VS w' b n S:=by
 obtain ⟨D,h1,⟨es,clock,h2,h3⟩,h4⟩:=h
 exact ⟨D,h1,⟨es,clock,hb.trans h2,h3⟩,h4⟩
theorem VS.lt {w:World} {b n:Nat} {S:List UInt8→Option Value} (h:VS w b n S):b<w.heap.size:=by
 obtain ⟨D,h1,h2,h3⟩:=h
 exact h2.lt
theorem VS.below {w w':World} {b n:Nat} {S:List UInt8→Option Value} (h:VS w b n S) (hb:Go.RowKit.Below w.heap.size w w'):VS w' b n S:=h.same (hb.block b h.lt)
theorem VS.alloc {w:World} {b n:Nat} {S:List UInt8→Option Value} (h:VS w b n S) (o:Obj):VS (w.alloc o) b n S:=by
 obtain ⟨D,h1,h2,h3⟩:=h
 exact ⟨D,h1,h2.alloc o,h3⟩
theorem VS.look {w:World} {b n:Nat} {S:List UInt8→Option Value} (h:VS w b n S) (s:ByteArray) (hs:s.size≤maxLen):
   (Instr.lookup 97 (.map (some b)) (.string s) true).run Tryz.prog w= .ok (.tuple #[(S s.data.toList).getD .nilIface, .bool (S s.data.toList).isSome]) w:=by
 obtain ⟨D,h1,⟨es,clock,hb,F,hsz,hD⟩,h3⟩:=h
 have hz:(zeroValue 71).run Tryz.prog w= .ok .nilIface w:=by kernel_rfl
 have h4:=h3 s.data.toList
 rcases Maps.fit_look true str_law Tryz.underlying97 hz hb F (keyOf_string_mk Tryz.underlying9 hs) with ⟨hrun,_,hat⟩ | ⟨e0,y,_,_,hrun,hR,hat,_⟩
 · rw [←hD] at hat
   have h5:S s.data.toList=none:=by
     cases hS:S s.data.toList with
     | none=>rfl
     | some v=>
       have e1:=h4 .nil
       rw [hS] at e1
       have e2:=hat .nil
       rw [e1] at e2
       cases e2
   rw [h5]
   simpa using hrun
 · rw [←hD] at hat
   have hy:y=(.held e0.val,[]):=(Option.some.inj hR).symm
   have h5:S s.data.toList=some e0.val:=by
     have e2:=hat .nil
     rw [hy] at e2
     have e1:=h4 .nil
     rw [e2] at e1
     cases hS:S s.data.toList with
     | none=>rw [hS] at e1;cases e1
     | some v=>rw [hS] at e1;simp only [DataW.held.injEq] at e1;rw [e1]
   rw [h5]
   simpa using hrun
def putV (S:List UInt8→Option Value) (l:List UInt8) (v:Value):List UInt8→Option Value:=fun k=>if k=l then some v else S k
theorem wp_makeMapS (w:World) {ops:Array Oper} {rest:List Oper} {o:Oper} {a:Act} {Q:Exit→Act→World→Prop} {t:TypeId}
   (hg:o.guard=none) (hop:o.op=Op.makeMap t none)
   (hK:wpList Tryz.prog ops Q rest (a.put o.dst (.map (some w.heap.size))) (w.alloc (.map #[] 0))):wpList Tryz.prog ops Q (o::rest) a w:=by
 refine wpList_plain hg fun K hK'=>?_
 have hr:(Instr.makeMap t none).run Tryz.prog w= .ok (.map (some w.heap.size)) (w.alloc (.map #[] 0)):=rfl
 unfold Oper.wp
 simp [execOp,hop,hr,Result.andThen]
 exact hK' _ _ hK
end Go.Proofs.YtanccoopbgamdaaGreatDoor
namespace Go.Proofs.YtanccoopbgamdaaGreatDoor
open Go.RowKit
set_option linter.unusedVariables false
set_option linter.unusedSimpArgs false
def AllK (mb:Nat) (L:List (World→Prop)) (w:World):Prop:= ∀p,p ∈ L→p w∧ ∀v v':World,v.grownBy v' (some mb)→p v→p v'
theorem AllK.step {mb:Nat} {L:List (World→Prop)} {w w':World} (h:AllK mb L w) (hg:w.grownBy w' (some mb)):AllK mb L w':=fun p hp=>⟨(h p hp).2 w w' hg (h p hp).1,(h p hp).2⟩
theorem AllK.cons {mb:Nat} {L:List (World→Prop)} {w:World} {p:World→Prop} (h:AllK mb L w) (hp:p w) (hk: ∀v v':World,v.grownBy v' (some mb)→p v→p v'):AllK mb (p::L) w:=by
 intro q hq
 rcases List.mem_cons.1 hq with rfl | hq
 · exact ⟨hp,hk⟩
 · exact h q hq
def DiffBox (kb ab g kn:Nat) (ks:List Prt) (alt:Bool) (w:World):Prop:=Blk w kb 110 #[.slice (some ⟨g,0,none⟩) kn kn]∧Blk w ab 4 #[.bool alt]∧RowT w 135 3 g kn kn (flat ks)
def ChgBox (bx f:Nat) (w:World):Prop:=Blk w bx 95 #[.func (.func f) #[] #[]]
theorem DiffBox.kept {mb kb ab g kn:Nat} {ks:List Prt} {alt:Bool} (h1:kb≠mb) (h2:ab≠mb) (h3:g≠mb): ∀v v':World,v.grownBy v' (some mb)→DiffBox kb ab g kn ks alt v→DiffBox kb ab g kn ks alt v':=
 fun v v' hg h=>⟨h.1.grown hg (fun e=>h1 (Option.some.inj e)),h.2.1.grown hg (fun e=>h2 (Option.some.inj e)),h.2.2.grown hg (fun e=>h3 (Option.some.inj e))⟩
theorem ChgBox.kept {mb bx f:Nat} (h1:bx≠mb): ∀v v':World,v.grownBy v' (some mb)→ChgBox bx f v→ChgBox bx f v':=
 fun v v' hg h=>Blk.grown h hg (fun e=>h1 (Option.some.inj e))
def diffV (kb ab:Nat):Value:= .iface 108 (.func (.func 100) #[] #[.pointer (some ⟨kb,0,none⟩), .pointer (some ⟨ab,0,none⟩)])
def chgV (bx:Nat):Value:= .iface 113 (.func (.func 103) #[] #[.pointer (some ⟨bx,0,none⟩)])
def fnV (T f:Nat):Value:= .iface T (.func (.func f) #[] #[])
def plainS (k1 a1 k2 a2 k3 a3 k4 a4 b1 b2 b3:Nat):List UInt8→Option Value:=
 (putV (putV (putV (putV (putV (putV (putV (putV (putV (putV (putV (putV (putV (putV (putV (fun _=>none) [114,101,118,101,114,115,101] (fnV 106 75)) [115,99,114,101,101,110] (fnV 108 76)) [100,105,102,102,117,115,101,32,115,116,101,105,110,32,108,101,102,116] (diffV k1 a1)) [100,105,102,102,117,115,101,32,115,116,101,105,110,32,98,111,116,104] (diffV k2 a2)) [100,105,102,102,117,115,101,32,112,108,97,105,110,32,108,101,102,116] (diffV k3 a3)) [100,105,102,102,117,115,101,32,112,108,97,105,110,32,98,111,116,104] (diffV k4 a4)) [103,114,111,119] (chgV b1)) [115,104,114,105,110,107] (chgV b2)) [109,105,114,114,111,114] (chgV b3)) [100,114,111,112] (fnV 113 84)) [115,104,111,119] (fnV 113 85)) [114,117,110,115] (fnV 113 86)) [109,101,97,110] (fnV 113 87)) [99,111,117,110,116,115] (fnV 113 88)) [101,114,114,111,114] (fnV 113 89))
theorem impl_diffusedPlate (a:Option Addr) (n c:Nat) (alt:Bool) (w:World):
   Calls Tryz.prog 77 #[.slice a n c, .bool alt] w fun e w'=>e= .returned (.func (.func 100) #[] #[.pointer (some ⟨w.heap.size,0,none⟩), .pointer (some ⟨w.heap.size+1,0,none⟩)])∧w'=(w.alloc (.cells #[.slice a n c] 110)).alloc (.cells #[.bool alt] 4):=by
 go_enter Tryz.func77,Tryz.ntmps77
 go_wp2_with fail
 go_ret
 exact ⟨by simp,rfl⟩
theorem impl_changedLast (f:Nat) (w:World):
   Calls Tryz.prog 80 #[.func (.func f) #[] #[]] w fun e w'=>e= .returned (.func (.func 103) #[] #[.pointer (some ⟨w.heap.size,0,none⟩)])∧w'=w.alloc (.cells #[.func (.func f) #[] #[]] 95):=by
 go_enter Tryz.func80,Tryz.ntmps80
 go_wp2_with fail
 go_ret
 exact ⟨rfl,rfl⟩
end Go.Proofs.YtanccoopbgamdaaGreatDoor
