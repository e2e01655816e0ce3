/-
  Contracts and plain facts on which the theorem of this claim rests, text 36.
-/
import Derived.Test.YtanccoopbgamdaaGreatDoorDC4
import Derived.Test.YtanccoopbgamdaaGreatDoorDC5
import Derived.Test.YtanccoopbgamdaaGreatDoorDC6
import Derived.Test.YtanccoopbgamdaaGreatDoorDC8
import Derived.Test.YtanccoopbgamdaaGreatDoorDC26
import Derived.Test.YtanccoopbgamdaaGreatDoorDC28
import Derived.Test.YtanccoopbgamdaaGreatDoorDC29
import Derived.Test.YtanccoopbgamdaaGreatDoorDC30
import Derived.Test.YtanccoopbgamdaaGreatDoorDC31
import Derived.Test.YtanccoopbgamdaaGreatDoorDC35
namespace Go.Proofs.YtanccoopbgamdaaGreatDoor
open Go.RowKit
set_option linter.unusedVariables false
set_option linter.unusedSimpArgs false
def rankedF (W H x:Int):Mat × Bool:=if (seedF W H x).2=true then rankF (evenF (seedF W H x).1.W (seedF W H x).1.H (seedF W H x).1.ink 64).1.W (evenF (seedF W H x).1.W (seedF W H x).1.H (seedF W H x).1.ink 64).1.H (evenF (seedF W H x).1.W (seedF W H x).1.H (seedF W H x).1.ink 64).1.ink else (noMat,false)
theorem seed_pos {W H x:Int} (h:(seedF W H x).2=true):0<(seedF W H x).1.ink.length:=by
 unfold seedF at h⊢
 split at h
 · rename_i hs
   rw [if_pos hs]
   have:=(toNat_mul hs.1).1
   have h1:sizeOk W H=true:=hs.1
   have h2:0<(W*H).toNat:=by
     have:=mul_bd W H (by simp [sizeOk] at h1;omega) (by simp [sizeOk] at h1;omega) (by simp [sizeOk] at h1;omega) (by simp [sizeOk] at h1;omega)
     omega
   simpa [gen_len] using h2
 · simp at h
theorem even_pos {W H m:Int} {xs:List Int} (h:0<xs.length):0<(evenF W H xs m).1.ink.length:=by
 unfold evenF
 split
 · show 0<(evenG W H m.toNat xs).1.length
   rw [even_len];exact h
 · exact h
set_option maxRecDepth 100000 in
set_option maxHeartbeats 1600000 in
theorem impl_rankedSeed (W H x:Int) (w:World):Calls Tryz.prog 96 #[.int .i64 W, .int .i64 H, .int .i64 x] w (MatOut2 w (rankedF W H x)):=by
 have HB0:=Lib.hid (bAlloc (Below.refl w.heap.size w) (.cells #[.int .i64 0, .int .i64 0, .slice none 0 0] 31))
 have KM0:=Lib.hid (Blk.new w 31 #[.int .i64 0, .int .i64 0, .slice none 0 0])
 go_enter Tryz.func96,Tryz.ntmps96
 go_wp2_with fail
 refine (impl_SeedField W H x _).mono ?_
 rintro e w1 ⟨a1,n1,k1,rfl,ho,hn1,hb⟩
 have HB1:=Lib.hid (bTrans HB0.out hb)
 have KM1:=Lib.hid (KM0.out.below' hb)
 have HO1:=Lib.hid ho
 have HL:Hid (w.heap.size<w1.heap.size):=Lib.hid (by have:=hb.size;(try simp at this);omega)
 clear hb ho
 by_cases hs:(seedF W H x).2=true
 case neg=>
   have hs2:(seedF W H x).2=false:=by simpa using hs
   have E:Hid (rankedF W H x=(noMat,false)):=Lib.hid (by unfold rankedF;rw [if_neg hs])
   rw [hs2]
   have KM2:=Lib.hid (KM1.out.alloc (.cells #[.int .i64 (seedF W H x).1.W, .int .i64 (seedF W H x).1.H, .slice a1 n1 k1] 27))
   obtain ⟨r0,r1,r2,r3⟩:=KM2.out.c3
   obtain ⟨q0,q1,q2⟩:=KM2.out.f3
   go_wp2_with fail
   rw [E.out]
   exact bodyPost_ret (v:= .tuple #[.agg #[.int .i64 0, .int .i64 0, .slice none 0 0], .bool false]) (by simp [results,Tryz.results96,go_sem,r1,r2,r3]) rfl
     ⟨none,0,0,rfl,OwnA.none _ _,by omega,
       (((bAlloc HB1.out _).setCell (by first | (simp;done) | (simp;omega)) _).setCell (by first | (simp;done) | (simp;omega)) _).setCell (by first | (simp;done) | (simp;omega)) _⟩
 have E:Hid (rankedF W H x=rankF (evenF (seedF W H x).1.W (seedF W H x).1.H (seedF W H x).1.ink 64).1.W (evenF (seedF W H x).1.W (seedF W H x).1.H (seedF W H x).1.ink 64).1.H (evenF (seedF W H x).1.W (seedF W H x).1.H (seedF W H x).1.ink 64).1.ink):=Lib.hid (by unfold rankedF;rw [if_pos hs])
 obtain ⟨b,off,rfl,hbl,hbc⟩:=HO1.out.rd.at (seed_pos hs)
 have P0:=Lib.hid (seed_pos hs)
 clear hbl hbc
 rw [hs]
 obtain ⟨pW,hpW⟩: ∃v,v=(seedF W H x).1.W:=⟨_,rfl⟩
 obtain ⟨pH,hpH⟩: ∃v,v=(seedF W H x).1.H:=⟨_,rfl⟩
 obtain ⟨xs,hxs⟩: ∃v,v=(seedF W H x).1.ink:=⟨_,rfl⟩
 rw [←hpW,←hpH] at E⊢
 rw [←hxs] at E HO1 P0
 clear hpW hpH hxs hs
 have KP1:=Lib.hid (Blk.new w1 27 #[.int .i64 pW, .int .i64 pH, .slice (some ⟨b,off,none⟩) n1 k1])
 have HB2:=Lib.hid (bAlloc HB1.out (.cells #[.int .i64 pW, .int .i64 pH, .slice (some ⟨b,off,none⟩) n1 k1] 27))
 have KM2:=Lib.hid (KM1.out.alloc (.cells #[.int .i64 pW, .int .i64 pH, .slice (some ⟨b,off,none⟩) n1 k1] 27))
 have HO2:=Lib.hid (HO1.out.alloc (.cells #[.int .i64 pW, .int .i64 pH, .slice (some ⟨b,off,none⟩) n1 k1] 27))
 clear HB1 KM1 HO1
 go_wp2_with fail
 refine ((impl_EvenField pW pH b off n1 k1 xs 64 _ HO2.out.len (by exact HO2.out.rd) (by omega)).mono (fun e w' h=>h.out (by omega))).mono ?_
 rintro e w3 ⟨a2,n2,k2,rfl,ho,hn2,hb⟩
 have HB3:=Lib.hid (bTrans HB2.out hb)
 have KM3:=Lib.hid (KM2.out.below' hb)
 have HO3:=Lib.hid ho
 clear hb ho HB2 KM2 HO2 KP1
 obtain ⟨b2,off2,rfl,hbl,hbc⟩:=HO3.out.rd.at (even_pos P0.out)
 clear hbl hbc P0
 obtain ⟨qW,hqW⟩: ∃v,v=(evenF pW pH xs 64).1.W:=⟨_,rfl⟩
 obtain ⟨qH,hqH⟩: ∃v,v=(evenF pW pH xs 64).1.H:=⟨_,rfl⟩
 obtain ⟨qn,hqn⟩: ∃v,v=(evenF pW pH xs 64).2:=⟨_,rfl⟩
 obtain ⟨ys,hys⟩: ∃v,v=(evenF pW pH xs 64).1.ink:=⟨_,rfl⟩
 rw [←hqW,←hqH] at E⊢
 rw [←hqn]
 rw [←hys] at E HO3
 clear hqW hqH hys hqn
 go_wp2_with fail
 refine (impl_RankField qW qH b2 off2 n2 k2 ys _ (by exact HO3.out.len) (by exact (HO3.out.alloc _).rd) (by omega)).mono ?_
 rintro e w4 ⟨a3,n3,k3,rfl,ho,hn3,hb⟩
 have HB4:=Lib.hid (bTrans (bAlloc HB3.out (.cells #[.int .i64 qW, .int .i64 qH, .slice (some ⟨b2,off2,none⟩) n2 k2] 27)) hb)
 have KM4:=Lib.hid ((KM3.out.alloc (.cells #[.int .i64 qW, .int .i64 qH, .slice (some ⟨b2,off2,none⟩) n2 k2] 27)).below' hb)
 have HZ4:Hid (w.heap.size<w4.heap.size):=Lib.hid KM4.out.lt
 have HB5:Hid (w.heap.size+1≤w3.heap.size):=Lib.hid KM3.out.lt
 have HO4:=Lib.hid ho
 clear hb ho KM3 HB3 HO3
 obtain ⟨r0,r1,r2,r3⟩:=KM4.out.c3
 obtain ⟨q0,q1,q2⟩:=KM4.out.f3
 go_wp2_with fail
 rw [E.out]
 have hz:=HB5.out
 exact bodyPost_ret (v:= .tuple #[.agg #[.int .i64 (rankF qW qH ys).1.W, .int .i64 (rankF qW qH ys).1.H, .slice a3 n3 k3], .bool (rankF qW qH ys).2]) (by simp [results,Tryz.results96,go_sem,r1,r2,r3]) rfl
   ⟨a3,n3,k3,rfl,OwnA.mono (((HO4.out.otherT (fun e=>by have:=HO4.out.bd _ e;simp at this;omega) _).otherT (fun e=>by have:=HO4.out.bd _ e;simp at this;omega) _).otherT (fun e=>by have:=HO4.out.bd _ e;simp at this;omega) _) (by simp;omega),hn3,
     ((HB4.out.setCell (by first | (simp;done) | (simp;omega)) _).setCell (by first | (simp;done) | (simp;omega)) _).setCell (by first | (simp;done) | (simp;omega)) _⟩
set_option maxRecDepth 100000 in
set_option maxHeartbeats 1600000 in
theorem num_rank (na:Option Addr) (nc:Nat) (x y z:Int) (w:World) (hr:Rd w na [x,y,z]):
   Calls Tryz.prog 67 #[.string ⟨#[114,97,110,107]⟩, .slice na 3 nc] w (GivenOut w (rankedF x y z).1):=by
 obtain ⟨w0,hw0⟩: ∃v,v=w.alloc (.cells #[.slice na 3 nc] 25):=⟨_,rfl⟩
 have HB0:Hid (Below w.heap.size w w0):=Lib.hid (by rw [hw0];exact bAlloc (Below.refl w.heap.size w) (.cells #[.slice na 3 nc] 25))
 obtain ⟨b,off,hae,hbl,hbc⟩:=(hr.below HB0.out).at (by simp)
 subst hae
 have q0:=hbc 0 (by simp)
 have q1:=hbc 1 (by simp)
 have q2:=hbc 2 (by simp)
 rw [show [x,y,z].getD 0 0=x from rfl,Nat.add_zero] at q0
 rw [show [x,y,z].getD 1 0=y from rfl] at q1
 rw [show [x,y,z].getD 2 0=z from rfl] at q2
 have p0:w0.cell? ⟨w.heap.size,0,none⟩=some (.slice (some ⟨b,off,none⟩) 3 nc):=by rw [hw0];exact (Blk.new w 25 #[.slice (some ⟨b,off,none⟩) 3 nc]).cell 0
 have l0:w.heap.size<w0.heap.size:=by rw [hw0];simp
 clear hr hbc
 go_enter Tryz.func67,Tryz.ntmps67
 go_wp2_with fail
 rw [←hw0]
 clear hw0
 have MK:Hid (∀v,BelowL w0 v→v.cell? ⟨w.heap.size,0,none⟩=some (.slice (some ⟨b,off,none⟩) 3 nc)∧v.cell? ⟨b,off,none⟩=some (.int .i64 x)∧v.cell? ⟨b,off+1,none⟩=some (.int .i64 y)∧v.cell? ⟨b,off+2,none⟩=some (.int .i64 z)∧BelowL w0 v):=Lib.hid (fun v h=>⟨(h.out.cell l0).trans p0,(h.out.cell hbl).trans q0,(h.out.cell hbl).trans q1,(h.out.cell hbl).trans q2,h⟩)
 go_region_held3 (fun v=>v.cell? ⟨w.heap.size,0,none⟩=some (.slice (some ⟨b,off,none⟩) 3 nc)∧v.cell? ⟨b,off,none⟩=some (.int .i64 x)∧v.cell? ⟨b,off+1,none⟩=some (.int .i64 y)∧v.cell? ⟨b,off+2,none⟩=some (.int .i64 z)∧BelowL w0 v)
   (first | exact MK.out _ hb2 | exact MK.out _ hb1 | exact MK.out _ (BelowL.start _))
   (first
     | (go_at_call 96;((with_reducible refine (impl_rankedSeed _ _ _ _).mono ?_);rintro e v1 ⟨a1,n1,k1,rfl,ho1,hn1,hq1⟩;have hb1:=BelowL.call (limb5 (by assumption)) hq1))
     | (go_at_call 93;((with_reducible refine (impl_matrixOrNone _ _ a1 n1 k1 _ _).mono ?_);rintro e v2 ⟨rfl,rfl⟩;have hb2:=BelowL.alloc hb1 (.cells #[.int .i64 (rankedF x y z).1.W, .int .i64 (rankedF x y z).1.H, .slice a1 n1 k1] 31))))
 go_wp2_with fail
 go_ret2
 exact ⟨v1.heap.size,a1,n1,k1,rfl,Blk.new _ _ _,OwnA.mono (ho1.alloc _) (by have:=hb1.le;have:=HB0.out.size;(try simp at*);omega),hn1,bTrans HB0.out hb2.out⟩
structure NoForm (l:List UInt8) (n:Nat):Prop where
 flat:l=[102,108,97,116]→n≠3
 ramp:l=[114,97,109,112]→n≠2
 bayer:l=[98,97,121,101,114]→n≠1
 spiral:l=[115,112,105,114,97,108]→n≠1
 spot:l=[115,112,111,116]→n≠2
 rank:l=[114,97,110,107]→n≠3
 shift:l=[115,104,105,102,116]→n≠2
 level:l=[108,101,118,101,108]→n≠1
set_option maxRecDepth 100000 in
set_option maxHeartbeats 1600000 in
theorem num_none (s:ByteArray) (na:Option Addr) (n nc:Nat) (w:World) (hf:NoForm s.toList n):
   Calls Tryz.prog 67 #[.string s, .slice na n nc] w fun e w'=>e= .returned (.tuple #[.nilIface, .bool false])∧w'=w.alloc (.cells #[.slice na n nc] 25):=by
 have HF:=Lib.hid hf
 clear hf
 go_enter Tryz.func67,Tryz.ntmps67
 go_wp2_with fail
 all_goals first
   | (exfalso;have:=HF.out.flat (by assumption);omega)
   | (exfalso;have:=HF.out.ramp (by assumption);omega)
   | (exfalso;have:=HF.out.bayer (by assumption);omega)
   | (exfalso;have:=HF.out.spiral (by assumption);omega)
   | (exfalso;have:=HF.out.spot (by assumption);omega)
   | (exfalso;have:=HF.out.rank (by assumption);omega)
   | (exfalso;have:=HF.out.shift (by assumption);omega)
   | (exfalso;have:=HF.out.level (by assumption);omega)
   | (go_ret2;exact ⟨rfl,rfl⟩)
theorem Blk.put3 {w:World} {g T:Nat} {a b c:Value} (k:Blk w g T #[a,b,c]) (x y z:Value):Blk (((w.setCell ⟨g,0,none⟩ x).setCell ⟨g,1,none⟩ y).setCell ⟨g,2,none⟩ z) g T #[x,y,z]:=by
 have:=((k.set 0 x).set 1 y).set 2 z
 simpa using this
def PicCut (w0 wx:World) (p:Pic) (s:Value):Prop:=
 ∃g a n c,s= .pointer (some ⟨g,0,none⟩)∧Blk wx g 27 #[.int .i64 p.W, .int .i64 p.H, .slice a n c]∧OwnA wx w0.heap.size a n c p.ink∧n≤1048576∧Below w0.heap.size w0 wx
def PicCmd (w:World) (p:Pic) (e:Ending) (w':World):Prop:=
 ∃a n c,e= .returned (.tuple #[.iface 122 (.agg #[.int .i64 p.W, .int .i64 p.H, .slice a n c]), .bool true])∧OwnA w' w.heap.size a n c p.ink∧n≤1048576∧Below w.heap.size w w'
set_option maxRecDepth 100000 in
set_option maxHeartbeats 3200000 in
theorem num_ramp (na:Option Addr) (nc:Nat) (x y:Int) (w:World) (hr:Rd w na [x,y]):
   Calls Tryz.prog 67 #[.string ⟨#[114,97,109,112]⟩, .slice na 2 nc] w (PicCmd w (rampF x y).1):=by
 obtain ⟨w0,hw0⟩: ∃v,v=w.alloc (.cells #[.slice na 2 nc] 25):=⟨_,rfl⟩
 have HB0:Hid (Below w.heap.size w w0):=Lib.hid (by rw [hw0];exact bAlloc (Below.refl w.heap.size w) (.cells #[.slice na 2 nc] 25))
 obtain ⟨b,off,hae,hbl,hbc⟩:=(hr.below HB0.out).at (by simp)
 subst hae
 have q0:=hbc 0 (by simp)
 have q1:=hbc 1 (by simp)
 rw [show [x,y].getD 0 0=x from rfl,Nat.add_zero] at q0
 rw [show [x,y].getD 1 0=y from rfl] at q1
 have p0:w0.cell? ⟨w.heap.size,0,none⟩=some (.slice (some ⟨b,off,none⟩) 2 nc):=by rw [hw0];exact (Blk.new w 25 #[.slice (some ⟨b,off,none⟩) 2 nc]).cell 0
 have l0:w.heap.size<w0.heap.size:=by rw [hw0];simp
 clear hr hbc
 go_enter Tryz.func67,Tryz.ntmps67
 go_upto_region 6 with fail
 rw [←hw0]
 clear hw0
 go_cut [8] (fun s wx=>PicCut w0 wx (rampF x y).1 s)
 case first=>
   have MK:Hid (∀v,BelowL w0 v→v.cell? ⟨w.heap.size,0,none⟩=some (.slice (some ⟨b,off,none⟩) 2 nc)∧v.cell? ⟨b,off,none⟩=some (.int .i64 x)∧v.cell? ⟨b,off+1,none⟩=some (.int .i64 y)∧BelowL w0 v):=Lib.hid (fun v h=>⟨(h.out.cell l0).trans p0,(h.out.cell hbl).trans q0,(h.out.cell hbl).trans q1,h⟩)
   clear q0 q1 p0
   refine wp_region_held_drew (S:=fun v=>v.cell? ⟨w.heap.size,0,none⟩=some (.slice (some ⟨b,off,none⟩) 2 nc)∧v.cell? ⟨b,off,none⟩=some (.int .i64 x)∧v.cell? ⟨b,off+1,none⟩=some (.int .i64 y)∧BelowL w0 v) (by kernel_rfl) (MK.out _ (BelowL.start _)) ?_
   intro hHeld
   refine hTake 0 ?_
   refine simpR ?_
   refine hTake 1 ?_
   refine simpR ?_
   refine hTake 2 ?_
   refine simpR ?_
   refine hTake 3 ?_
   refine simpR ?_
   refine hTake 4 ?_
   refine simpR ?_
   refine hTake 5 ?_
   refine simpR ?_
   refine wpAnyH_ready (rs:=[6,10]) (by kernel_rfl) (by simp) ?_
   refine AllReadyH.cons rfl (fun K hK=>?_) (AllReadyH.cons rfl (fun K hK=>?_) AllReadyH.nil)
   · go_simp
     go_at_call 7
     ((with_reducible refine (impl_RampPicture x y _).mono ?_);rintro e v1 ⟨a1,n1,k1,rfl,ho1,hn1,hq1⟩)
     have hb1:=BelowL.call (BelowL.start _) hq1
     go_wp2_with fail
     refine hK.out _ _ (by (try dsimp only);exact MK.out _ hb1) (fun hHeld=>?_)
     clear hK K
     refine simpR ?_
     refine hTake 7 ?_
     refine simpR ?_
     refine hTake 8 ?_
     refine simpR ?_
     refine hTake 9 ?_
     refine simpR ?_
     refine hOne 10 (fun K hK=>?_)
     go_simp
     have hb2:=BelowL.alloc hb1 (.cells #[.int .i64 0, .int .i64 0, .slice none 0 0] 27)
     refine hK.out _ _ (by (try dsimp only);exact MK.out _ hb2) (fun hHeld=>?_)
     clear hK K
     refine simpR ?_
     refine hOne 11 (fun K hK=>?_)
     go_simp
     have hb3:=BelowL.alloc hb1 (.cells #[.int .i64 (rampF x y).1.W, .int .i64 (rampF x y).1.H, .slice a1 n1 k1] 27)
     refine hK.out _ _ (by (try dsimp only);exact MK.out _ hb3) (fun hHeld=>?_)
     clear hK K
     refine simpR ?_
     refine hTake 12 ?_
     refine simpR ?_
     refine wpAnyH_done (by kernel_rfl) ?_ _
     go_wp2_with fail
     go_meet
     exact ⟨v1.heap.size,a1,n1,k1,rfl,Blk.new _ _ _,(ho1.alloc _).mono (Nat.le_refl _),hn1,hb3.out⟩
   · go_simp
     have hb0:BelowL w0 (w0.alloc (.cells #[.int .i64 0, .int .i64 0, .slice none 0 0] 27)).drew:=BelowL.mk (bAlloc (Below.refl _ _) _).drew
     have kb0:Blk (w0.alloc (.cells #[.int .i64 0, .int .i64 0, .slice none 0 0] 27)).drew w0.heap.size 27 #[.int .i64 0, .int .i64 0, .slice none 0 0]:=(Blk.new _ _ _).drew
     refine hK.out _ _ (by (try dsimp only);exact MK.out _ hb0) (fun hHeld=>?_)
     clear hK K
     refine simpR ?_
     refine hOne 6 (fun K hK=>?_)
     go_simp
     go_at_call 7
     ((with_reducible refine (impl_RampPicture x y _).mono ?_);rintro e v1 ⟨a1,n1,k1,rfl,ho1,hn1,hq1⟩)
     have hb1:=BelowL.call hb0 hq1
     have kb1:=kb0.below' hq1
     have hz1:w0.heap.size+1≤v1.heap.size:=by have:=hq1.size;simpa using this
     go_wp2_with fail
     refine hK.out _ _ (by (try dsimp only);exact MK.out _ hb1) (fun hHeld=>?_)
     clear hK K
     refine simpR ?_
     refine hTake 7 ?_
     refine simpR ?_
     refine hTake 8 ?_
     refine simpR ?_
     refine hTake 9 ?_
     refine simpR ?_
     obtain ⟨m0,d0,d1,d2⟩:=kb1.c3
     obtain ⟨f0,f1,f2⟩:=kb1.f3
     refine hOne 11 (fun K hK=>?_)
     go_simp
     have hb3:BelowL w0 _:=((hb1.set (a:=(⟨w0.heap.size,0,none⟩:Addr)) (Nat.le_refl w0.heap.size) (.int .i64 (rampF x y).1.W)).set (a:=(⟨w0.heap.size,1,none⟩:Addr)) (Nat.le_refl w0.heap.size) (.int .i64 (rampF x y).1.H)).set (a:=(⟨w0.heap.size,2,none⟩:Addr)) (Nat.le_refl w0.heap.size) (.slice a1 n1 k1)
     refine hK.out _ _ (by (try dsimp only);exact MK.out _ hb3) (fun hHeld=>?_)
     clear hK K
     refine simpR ?_
     refine hTake 12 ?_
     refine simpR ?_
     refine wpAnyH_done (by kernel_rfl) ?_ _
     go_wp2_with fail
     go_meet
     exact ⟨w0.heap.size,a1,n1,k1,rfl,kb1.put3 _ _ _,OwnA.mono (((ho1.otherT (fun e=>by have:=ho1.bd _ e;simp at this;omega) _).otherT (fun e=>by have:=ho1.bd _ e;simp at this;omega) _).otherT (fun e=>by have:=ho1.bd _ e;simp at this;omega) _) (by simp),hn1,hb3.out⟩
 case rest=>
   obtain ⟨g,a,n,c,rfl,kb,ho,hn,hb⟩:=hcut
   have KB:=Lib.hid kb
   have HB1:=Lib.hid (bTrans HB0.out hb)
   have HO:=Lib.hid ho
   have HN:=Lib.hid hn
   have HZ:=HB0.out.size
   clear hb ho hn kb
   obtain ⟨m0,d0,d1,d2⟩:=KB.out.c3
   go_wp2_with fail
   go_ret2
   exact ⟨a,n,c,rfl,OwnA.mono HO.out HZ,HN.out,HB1.out⟩
set_option maxRecDepth 100000 in
set_option maxHeartbeats 3200000 in
theorem num_flat (na:Option Addr) (nc:Nat) (x y z:Int) (w:World) (hr:Rd w na [x,y,z]):
   Calls Tryz.prog 67 #[.string ⟨#[102,108,97,116]⟩, .slice na 3 nc] w (PicCmd w (flatF x y z).1):=by
 obtain ⟨w0,hw0⟩: ∃v,v=w.alloc (.cells #[.slice na 3 nc] 25):=⟨_,rfl⟩
 have HB0:Hid (Below w.heap.size w w0):=Lib.hid (by rw [hw0];exact bAlloc (Below.refl w.heap.size w) (.cells #[.slice na 3 nc] 25))
 obtain ⟨b,off,hae,hbl,hbc⟩:=(hr.below HB0.out).at (by simp)
 subst hae
 have q0:=hbc 0 (by simp)
 have q1:=hbc 1 (by simp)
 have q2:=hbc 2 (by simp)
 rw [show [x,y,z].getD 0 0=x from rfl,Nat.add_zero] at q0
 rw [show [x,y,z].getD 1 0=y from rfl] at q1
 rw [show [x,y,z].getD 2 0=z from rfl] at q2
 have p0:w0.cell? ⟨w.heap.size,0,none⟩=some (.slice (some ⟨b,off,none⟩) 3 nc):=by rw [hw0];exact (Blk.new w 25 #[.slice (some ⟨b,off,none⟩) 3 nc]).cell 0
 have l0:w.heap.size<w0.heap.size:=by rw [hw0];simp
 clear hr hbc
 go_enter Tryz.func67,Tryz.ntmps67
 go_upto_region 3 with fail
 rw [←hw0]
 clear hw0
 go_cut [6] (fun s wx=>PicCut w0 wx (flatF x y z).1 s)
 case first=>
   have MK:Hid (∀v,BelowL w0 v→v.cell? ⟨w.heap.size,0,none⟩=some (.slice (some ⟨b,off,none⟩) 3 nc)∧v.cell? ⟨b,off,none⟩=some (.int .i64 x)∧v.cell? ⟨b,off+1,none⟩=some (.int .i64 y)∧v.cell? ⟨b,off+2,none⟩=some (.int .i64 z)∧BelowL w0 v):=Lib.hid (fun v h=>⟨(h.out.cell l0).trans p0,(h.out.cell hbl).trans q0,(h.out.cell hbl).trans q1,(h.out.cell hbl).trans q2,h⟩)
   clear q0 q1 q2 p0
   refine wp_region_held_drew (S:=fun v=>v.cell? ⟨w.heap.size,0,none⟩=some (.slice (some ⟨b,off,none⟩) 3 nc)∧v.cell? ⟨b,off,none⟩=some (.int .i64 x)∧v.cell? ⟨b,off+1,none⟩=some (.int .i64 y)∧v.cell? ⟨b,off+2,none⟩=some (.int .i64 z)∧BelowL w0 v) (by kernel_rfl) (MK.out _ (BelowL.start _)) ?_
   intro hHeld
   refine hTake 0 ?_
   refine simpR ?_
   refine hTake 1 ?_
   refine simpR ?_
   refine hTake 2 ?_
   refine simpR ?_
   refine hTake 3 ?_
   refine simpR ?_
   refine hTake 4 ?_
   refine simpR ?_
   refine hTake 5 ?_
   refine simpR ?_
   refine hTake 6 ?_
   refine simpR ?_
   refine hTake 7 ?_
   refine simpR ?_
   refine hTake 8 ?_
   refine simpR ?_
   refine wpAnyH_ready (rs:=[9,13]) (by kernel_rfl) (by simp) ?_
   refine AllReadyH.cons rfl (fun K hK=>?_) (AllReadyH.cons rfl (fun K hK=>?_) AllReadyH.nil)
   · go_simp
     go_at_call 51
     ((with_reducible refine (impl_FlatPicture x y z _).mono ?_);rintro e v1 ⟨a1,n1,k1,rfl,ho1,hn1,hq1⟩)
     have hb1:=BelowL.call (BelowL.start _) hq1
     go_wp2_with fail
     refine hK.out _ _ (by (try dsimp only);exact MK.out _ hb1) (fun hHeld=>?_)
     clear hK K
     refine simpR ?_
     refine hTake 10 ?_
     refine simpR ?_
     refine hTake 11 ?_
     refine simpR ?_
     refine hTake 12 ?_
     refine simpR ?_
     refine hOne 13 (fun K hK=>?_)
     go_simp
     have hb2:=BelowL.alloc hb1 (.cells #[.int .i64 0, .int .i64 0, .slice none 0 0] 27)
     refine hK.out _ _ (by (try dsimp only);exact MK.out _ hb2) (fun hHeld=>?_)
     clear hK K
     refine simpR ?_
     refine hOne 14 (fun K hK=>?_)
     go_simp
     have hb3:=BelowL.alloc hb1 (.cells #[.int .i64 (flatF x y z).1.W, .int .i64 (flatF x y z).1.H, .slice a1 n1 k1] 27)
     refine hK.out _ _ (by (try dsimp only);exact MK.out _ hb3) (fun hHeld=>?_)
     clear hK K
     refine simpR ?_
     refine hTake 15 ?_
     refine simpR ?_
     refine wpAnyH_done (by kernel_rfl) ?_ _
     go_wp2_with fail
     go_meet
     exact ⟨v1.heap.size,a1,n1,k1,rfl,Blk.new _ _ _,(ho1.alloc _).mono (Nat.le_refl _),hn1,hb3.out⟩
   · go_simp
     have hb0:BelowL w0 (w0.alloc (.cells #[.int .i64 0, .int .i64 0, .slice none 0 0] 27)).drew:=BelowL.mk (bAlloc (Below.refl _ _) _).drew
     have kb0:Blk (w0.alloc (.cells #[.int .i64 0, .int .i64 0, .slice none 0 0] 27)).drew w0.heap.size 27 #[.int .i64 0, .int .i64 0, .slice none 0 0]:=(Blk.new _ _ _).drew
     refine hK.out _ _ (by (try dsimp only);exact MK.out _ hb0) (fun hHeld=>?_)
     clear hK K
     refine simpR ?_
     refine hOne 9 (fun K hK=>?_)
     go_simp
     go_at_call 51
     ((with_reducible refine (impl_FlatPicture x y z _).mono ?_);rintro e v1 ⟨a1,n1,k1,rfl,ho1,hn1,hq1⟩)
     have hb1:=BelowL.call hb0 hq1
     have kb1:=kb0.below' hq1
     have hz1:w0.heap.size+1≤v1.heap.size:=by have:=hq1.size;simpa using this
     go_wp2_with fail
     refine hK.out _ _ (by (try dsimp only);exact MK.out _ hb1) (fun hHeld=>?_)
     clear hK K
     refine simpR ?_
     refine hTake 10 ?_
     refine simpR ?_
     refine hTake 11 ?_
     refine simpR ?_
     refine hTake 12 ?_
     refine simpR ?_
     obtain ⟨m0,d0,d1,d2⟩:=kb1.c3
     obtain ⟨f0,f1,f2⟩:=kb1.f3
     refine hOne 14 (fun K hK=>?_)
     go_simp
     have hb3:BelowL w0 _:=((hb1.set (a:=(⟨w0.heap.size,0,none⟩:Addr)) (Nat.le_refl w0.heap.size) (.int .i64 (flatF x y z).1.W)).set (a:=(⟨w0.heap.size,1,none⟩:Addr)) (Nat.le_refl w0.heap.size) (.int .i64 (flatF x y z).1.H)).set (a:=(⟨w0.heap.size,2,none⟩:Addr)) (Nat.le_refl w0.heap.size) (.slice a1 n1 k1)
     refine hK.out _ _ (by (try dsimp only);exact MK.out _ hb3) (fun hHeld=>?_)
     clear hK K
     refine simpR ?_
     refine hTake 15 ?_
     refine simpR ?_
     refine wpAnyH_done (by kernel_rfl) ?_ _
     go_wp2_with fail
     go_meet
     exact ⟨w0.heap.size,a1,n1,k1,rfl,kb1.put3 _ _ _,OwnA.mono (((ho1.otherT (fun e=>by have:=ho1.bd _ e;simp at this;omega) _).otherT (fun e=>by have:=ho1.bd _ e;simp at this;omega) _).otherT (fun e=>by have:=ho1.bd _ e;simp at this;omega) _) (by simp),hn1,hb3.out⟩
 case rest=>
   obtain ⟨g,a,n,c,rfl,kb,ho,hn,hb⟩:=hcut
   have KB:=Lib.hid kb
   have HB1:=Lib.hid (bTrans HB0.out hb)
   have HO:=Lib.hid ho
   have HN:=Lib.hid hn
   have HZ:=HB0.out.size
   clear hb ho hn kb
   obtain ⟨m0,d0,d1,d2⟩:=KB.out.c3
   go_wp2_with fail
   go_ret2
   exact ⟨a,n,c,rfl,OwnA.mono HO.out HZ,HN.out,HB1.out⟩
end Go.Proofs.YtanccoopbgamdaaGreatDoor
namespace Go.Proofs.YtanccoopbgamdaaGreatDoor
set_option linter.unusedVariables false
set_option linter.unusedSimpArgs false
theorem placeC_lt {key:Int→Int} {x y:Int} {n:Nat} (h:RL key x y) (hx: ∃k:Nat,k<n∧(k:Int)=x):placeC key x n<placeC key y n:=by
 obtain ⟨k0,hk0,e0⟩:=hx
 have mono: ∀m,placeC key x m≤placeC key y m∧(k0<m→placeC key x m<placeC key y m):=by
   intro m
   induction m with
   | zero=>exact ⟨Nat.le_refl _,fun h=>by omega⟩
   | succ m ih=>
     unfold placeC
     by_cases c:RLb key (m:Int) x=true
     · have c2:RLb key (m:Int) y=true:=RLb_iff.2 ((RLb_iff.1 c).trans h)
       rw [if_pos c,if_pos c2]
       refine ⟨by omega,fun hm=>?_⟩
       by_cases e:k0=m
       · subst e;rw [e0] at c;exact absurd (RLb_iff.1 c) RL.irrefl
       · have:=ih.2 (by omega);omega
     · rw [if_neg c]
       refine ⟨by split <;>omega,fun hm=>?_⟩
       by_cases e:k0=m
       · subst e
         rw [if_pos (RLb_iff.2 (by rw [e0];exact h))]
         omega
       · have:=ih.2 (by omega)
         split <;>omega
 exact (mono n).2 hk0
theorem placeC_bd {key:Int→Int} {n K:Nat} (hK:K<n):placeC key (K:Int) n<n:=by
 have step: ∀m,placeC key (K:Int) m≤m∧(K<m→placeC key (K:Int) m<m):=by
   intro m
   induction m with
   | zero=>exact ⟨Nat.le_refl _,fun h=>by omega⟩
   | succ m ih=>
     unfold placeC
     refine ⟨by split <;>omega,fun hm=>?_⟩
     by_cases e:K=m
     · subst e
       rw [if_neg (fun c=>RL.irrefl (RLb_iff.1 c))]
       omega
     · have:=ih.2 (by omega)
       split <;>omega
 exact (step n).2 hK
theorem placeC_inj {key:Int→Int} {n i j:Nat} (hi:i<n) (hj:j<n) (e:placeC key (i:Int) n=placeC key (j:Int) n):i=j:=by
 by_cases c:i=j
 · exact c
 · exfalso
   by_cases r:RL key (i:Int) (j:Int)
   · have:=placeC_lt r ⟨i,hi,rfl⟩;omega
   · have:=placeC_lt (RL.of_not r (by omega)) ⟨j,hj,rfl⟩;omega
theorem count_le (P Q:Nat→Bool) (n:Nat) (h: ∀j,j<n→P j=true→Q j=true):(List.range n).countP P≤(List.range n).countP Q:=by
 induction n with
 | zero=>simp
 | succ n ih=>
   have ih:=ih (fun j hj=>h j (by omega))
   have hn:=h n (by omega)
   rw [List.range_succ,List.countP_append,List.countP_append]
   by_cases p:P n=true
   · simp [p,hn p];omega
   · by_cases q:Q n=true <;>simp [p,q] <;>omega
theorem smat_ok {d:Int} {n:Nat} (key:Int→Int) (hs:matSize d d=true) (hq:(n:Int)=d*d):matOk d d (ranksL key n)=true:=by
 unfold matOk permOk inR ranksL
 rw [hs,gen_len,decide_eq_true hq,Bool.true_and,Bool.true_and,Bool.and_eq_true]
 constructor
 · rw [List.all_eq_true]
   intro x hx
   unfold gen at hx
   simp at hx
   obtain ⟨i,hi,rfl⟩:=hx
   have:=placeC_bd (key:=key) hi
   simp;omega
 · rw [decide_eq_true_eq]
   unfold gen
   rw [List.Nodup,List.pairwise_map]
   exact List.Pairwise.imp_of_mem (fun {a b} ha hb hab=>by
     simp at ha hb
     intro e
     exact hab (placeC_inj (key:=key) ha hb (by omega))) List.nodup_range
end Go.Proofs.YtanccoopbgamdaaGreatDoor
namespace Go.Proofs.YtanccoopbgamdaaGreatDoor
open Go.RowKit
set_option linter.unusedVariables false
set_option linter.unusedSimpArgs false
theorem smat_both3 (A B:Int):
 ∃F:Mat × Bool,True∧(∀w,Calls Tryz.prog 95 #[.agg #[.int .i64 A, .int .i64 B]] w (MatOut2 w F))∧matOk F.1.W F.1.H F.1.ranks=F.2:=by
 by_cases hok:latOk A B=true
 · obtain ⟨n,g,d,a,b,p,q,L⟩:=lat_of hok
   have n1:=L.n1;have n2:=L.n2
   obtain ⟨N,rfl⟩: ∃N:Nat,n=N:=⟨n.toNat,by omega⟩
   by_cases hs:matSize d d=true
   · obtain ⟨b1,b2,b3⟩:=matSqB hs
     have b5:1*1≤d*d:=Int.mul_le_mul b1 b1 (by omega) (by omega)
     obtain ⟨m,hq⟩: ∃m:Nat,(m:Int)=d*d:=⟨(d*d).toNat,by omega⟩
     obtain ⟨nm,hnm⟩:=named_ex L d m
     exact ⟨_,trivial,fun w=>impl_SpotMatrix_yes L m nm hnm hs hq w,smat_ok _ hs hq⟩
   · exact ⟨_,trivial,fun w=>impl_SpotMatrix_no2 L hs w,by decide⟩
 · have ho:latOk A B=false:=by simpa using hok
   exact ⟨_,trivial,fun w=>impl_SpotMatrix_no1 ho w,by decide⟩
end Go.Proofs.YtanccoopbgamdaaGreatDoor
