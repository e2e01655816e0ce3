/-
  Contracts and plain facts on which the theorem of this claim rests, text 38.
-/
import Derived.Deep.QuietTactic
import Derived.Deep.RegionHeld3
import Derived.Lib.Bytealg
import Derived.Test.YtanccoopbgamdaaGreatDoorKC2
import Derived.Test.YtanccoopbgamdaaGreatDoorKC3
import Derived.Test.YtanccoopbgamdaaGreatDoorKC7
import Derived.Test.YtanccoopbgamdaaGreatDoorKC11
import Derived.Test.YtanccoopbgamdaaGreatDoorKC13
import Derived.Test.YtanccoopbgamdaaGreatDoorKC14
import Derived.Test.YtanccoopbgamdaaGreatDoorKC37
namespace Go.Proofs.YtanccoopbgamdaaGreatDoor
open Go.RowKit
open Go.ChangeMaps Go.MapKept Go.WideMaps
set_option linter.unusedVariables false
set_option linter.unusedSimpArgs false
open Go.MapKept Go.WideMaps in
theorem wp_vsIns (w:World) {ops:Array Oper} {rest:List Oper} {o:Oper} {a:Act} {Q:Exit→Act→World→Prop}
   (hg:o.guard=none) (m x v:Operand) (hop:o.op=Op.insert 97 m x v)
   (b n:Nat) (S:List UInt8→Option Value) (s:ByteArray) (val:Value) (hm:a.eval m= .map (some b)) (hown:VS w b n S) (hn:n<maxLen) (hx:a.eval x= .string s) (hv:a.eval v=val) (hs:s.size≤maxLen)
   (hK: ∀w',VS w' b (n+1) (putV S s.data.toList val)→w.grownBy w' (some b)→wpList Tryz.prog ops Q rest (a.put o.dst undef) w'):
   wpList Tryz.prog ops Q (o::rest) a w:=by
 obtain ⟨D,h1,h2,h3⟩:=hown
 refine wpList_plain hg fun K' hK'=>?_
 obtain ⟨w',hrun,r1,r2⟩:=h2.update str_law Tryz.underlying97 hn (keyOf_string_mk Tryz.underlying9 hs) (val:=val) (d:= .held val) (ps:=[]) rfl
 unfold Oper.wp
 simp [execOp,hop,hm,hx,hv,hrun,Result.andThen]
 refine hK' _ _ (hK w' ⟨_,h1.put _ _,r1,?_⟩ r2)
 intro l zd
 unfold putV
 by_cases e:l=s.data.toList
 · subst e
   rw [Maps.atKey_put_same h1 (str_law.key (keyOf_string_mk Tryz.underlying9 hs)),if_pos rfl]
 · rw [Maps.atKey_put_other (fun hh=>e (by injection hh)),h3 l zd,if_neg e]
set_option maxRecDepth 100000 in
set_option maxHeartbeats 3200000 in
theorem impl_plainCommands (w:World):
   Calls Tryz.prog 64 #[] w fun e w'=> ∃k1 a1 g1 k2 a2 g2 k3 a3 g3 k4 a4 g4 b1 b2 b3:Nat,e= .returned (.map (some w.heap.size))∧VS w' w.heap.size 15 (plainS k1 a1 k2 a2 k3 a3 k4 a4 b1 b2 b3)∧
     DiffBox k1 a1 g1 4 steinK false w'∧DiffBox k2 a2 g2 4 steinK true w'∧DiffBox k3 a3 g3 1 plainK false w'∧DiffBox k4 a4 g4 1 plainK true w'∧
     ChgBox b1 81 w'∧ChgBox b2 82 w'∧ChgBox b3 83 w'∧Below w.heap.size w w':=by
 have HV:=Lib.hid (vs_made w)
 have HB:=Lib.hid (bAlloc (Below.refl w.heap.size w) (.map #[] 0))
 have HL:Hid (AllK w.heap.size [] (w.alloc (.map #[] 0))):=Lib.hid (fun p hp=>by cases hp)
 have HZ:Hid (w.heap.size<(w.alloc (.map #[] 0)).heap.size):=Lib.hid (by simp)
 obtain ⟨mb,hmb⟩: ∃x,x=w.heap.size:=⟨_,rfl⟩
 go_enter Tryz.func64,Tryz.ntmps64
 go_wp2_with (first
   | (refine wp_makeMapS _ rfl rfl ?_)
   | (refine wp_vsIns _ rfl _ _ _ rfl _ _ _ _ _ rfl HV.out (by unfold maxLen;omega) rfl rfl (by unfold maxLen;decide) ?_;intro w6 hv6 hg6;(try simp [Act.eval,go_sem] at hv6);have HV:=Lib.hid hv6;have HB:=Lib.hid (HB.out.grown hg6 (Nat.le_of_lt HZ.out) (fun b hb=>by cases hb;exact Nat.le_refl _));have HL:=Lib.hid (HL.out.step hg6);have HZ:=Lib.hid (Nat.lt_of_lt_of_le HZ.out hg6.size);clear hv6 hg6))
 refine (impl_SteinKernel _).mono ?_
 rintro e u1 ⟨g1,rfl,hg,hk,hq⟩
 have HV:=Lib.hid (HV.out.below hq)
 have HB:=Lib.hid (bTrans HB.out hq)
 have HL:=Lib.hid (HL.out.step (grown_of_below hq))
 have NG1:Hid (g1≠w.heap.size):=Lib.hid (by have:=HZ.out;omega)
 have HZ:=Lib.hid (Nat.lt_of_lt_of_le HZ.out hq.size)
 have HK1:=Lib.hid hk
 clear hg hk hq
 go_wp2_with fail
 refine (impl_diffusedPlate _ _ _ _ _).mono ?_
 rintro e u ⟨rfl,rfl⟩
 have HV:=Lib.hid ((HV.out.alloc (.cells #[.slice (some ⟨g1,0,none⟩) 4 4] 110)).alloc (.cells #[.bool false] 4))
 have HB:=Lib.hid (bAlloc (bAlloc HB.out (.cells #[.slice (some ⟨g1,0,none⟩) 4 4] 110)) (.cells #[.bool false] 4))
 have HL:=Lib.hid ((HL.out.step (grown_of_below (bAlloc (bAlloc (Below.refl _ _) (.cells #[.slice (some ⟨g1,0,none⟩) 4 4] 110)) (.cells #[.bool false] 4)))).cons (p:=DiffBox u1.heap.size (u1.heap.size+1) g1 4 steinK false) ⟨(Blk.new u1 _ _).alloc _,Blk.new' _ _ (by simp),(HK1.out.alloc _).alloc _⟩ (DiffBox.kept (by have:=HZ.out;omega) (by have:=HZ.out;omega) NG1.out))
 have HZ:Hid (w.heap.size<((u1.alloc (.cells #[.slice (some ⟨g1,0,none⟩) 4 4] 110)).alloc (.cells #[.bool false] 4)).heap.size):=Lib.hid (by have:=HZ.out;simp;omega)
 go_wp2_with (first
   | (refine wp_vsIns _ rfl _ _ _ rfl _ _ _ _ _ rfl HV.out (by unfold maxLen;omega) rfl rfl (by unfold maxLen;decide) ?_;intro w6 hv6 hg6;(try simp [Act.eval,go_sem] at hv6);have HV:=Lib.hid hv6;have HB:=Lib.hid (HB.out.grown hg6 (Nat.le_of_lt HZ.out) (fun b hb=>by cases hb;exact Nat.le_refl _));have HL:=Lib.hid (HL.out.step hg6);have HZ:=Lib.hid (Nat.lt_of_lt_of_le HZ.out hg6.size);clear hv6 hg6))
 refine (impl_SteinKernel _).mono ?_
 rintro e u2 ⟨g2,rfl,hg,hk,hq⟩
 have HV:=Lib.hid (HV.out.below hq)
 have HB:=Lib.hid (bTrans HB.out hq)
 have HL:=Lib.hid (HL.out.step (grown_of_below hq))
 have NG2:Hid (g2≠w.heap.size):=Lib.hid (by have:=HZ.out;omega)
 have HZ:=Lib.hid (Nat.lt_of_lt_of_le HZ.out hq.size)
 have HK2:=Lib.hid hk
 clear hg hk hq
 go_wp2_with fail
 refine (impl_diffusedPlate _ _ _ _ _).mono ?_
 rintro e u ⟨rfl,rfl⟩
 have HV:=Lib.hid ((HV.out.alloc (.cells #[.slice (some ⟨g2,0,none⟩) 4 4] 110)).alloc (.cells #[.bool true] 4))
 have HB:=Lib.hid (bAlloc (bAlloc HB.out (.cells #[.slice (some ⟨g2,0,none⟩) 4 4] 110)) (.cells #[.bool true] 4))
 have HL:=Lib.hid ((HL.out.step (grown_of_below (bAlloc (bAlloc (Below.refl _ _) (.cells #[.slice (some ⟨g2,0,none⟩) 4 4] 110)) (.cells #[.bool true] 4)))).cons (p:=DiffBox u2.heap.size (u2.heap.size+1) g2 4 steinK true) ⟨(Blk.new u2 _ _).alloc _,Blk.new' _ _ (by simp),(HK2.out.alloc _).alloc _⟩ (DiffBox.kept (by have:=HZ.out;omega) (by have:=HZ.out;omega) NG2.out))
 have HZ:Hid (w.heap.size<((u2.alloc (.cells #[.slice (some ⟨g2,0,none⟩) 4 4] 110)).alloc (.cells #[.bool true] 4)).heap.size):=Lib.hid (by have:=HZ.out;simp;omega)
 go_wp2_with (first
   | (refine wp_vsIns _ rfl _ _ _ rfl _ _ _ _ _ rfl HV.out (by unfold maxLen;omega) rfl rfl (by unfold maxLen;decide) ?_;intro w6 hv6 hg6;(try simp [Act.eval,go_sem] at hv6);have HV:=Lib.hid hv6;have HB:=Lib.hid (HB.out.grown hg6 (Nat.le_of_lt HZ.out) (fun b hb=>by cases hb;exact Nat.le_refl _));have HL:=Lib.hid (HL.out.step hg6);have HZ:=Lib.hid (Nat.lt_of_lt_of_le HZ.out hg6.size);clear hv6 hg6))
 refine (impl_PlainKernel _).mono ?_
 rintro e u3 ⟨g3,rfl,hg,hk,hq⟩
 have HV:=Lib.hid (HV.out.below hq)
 have HB:=Lib.hid (bTrans HB.out hq)
 have HL:=Lib.hid (HL.out.step (grown_of_below hq))
 have NG3:Hid (g3≠w.heap.size):=Lib.hid (by have:=HZ.out;omega)
 have HZ:=Lib.hid (Nat.lt_of_lt_of_le HZ.out hq.size)
 have HK3:=Lib.hid hk
 clear hg hk hq
 go_wp2_with fail
 refine (impl_diffusedPlate _ _ _ _ _).mono ?_
 rintro e u ⟨rfl,rfl⟩
 have HV:=Lib.hid ((HV.out.alloc (.cells #[.slice (some ⟨g3,0,none⟩) 1 1] 110)).alloc (.cells #[.bool false] 4))
 have HB:=Lib.hid (bAlloc (bAlloc HB.out (.cells #[.slice (some ⟨g3,0,none⟩) 1 1] 110)) (.cells #[.bool false] 4))
 have HL:=Lib.hid ((HL.out.step (grown_of_below (bAlloc (bAlloc (Below.refl _ _) (.cells #[.slice (some ⟨g3,0,none⟩) 1 1] 110)) (.cells #[.bool false] 4)))).cons (p:=DiffBox u3.heap.size (u3.heap.size+1) g3 1 plainK false) ⟨(Blk.new u3 _ _).alloc _,Blk.new' _ _ (by simp),(HK3.out.alloc _).alloc _⟩ (DiffBox.kept (by have:=HZ.out;omega) (by have:=HZ.out;omega) NG3.out))
 have HZ:Hid (w.heap.size<((u3.alloc (.cells #[.slice (some ⟨g3,0,none⟩) 1 1] 110)).alloc (.cells #[.bool false] 4)).heap.size):=Lib.hid (by have:=HZ.out;simp;omega)
 go_wp2_with (first
   | (refine wp_vsIns _ rfl _ _ _ rfl _ _ _ _ _ rfl HV.out (by unfold maxLen;omega) rfl rfl (by unfold maxLen;decide) ?_;intro w6 hv6 hg6;(try simp [Act.eval,go_sem] at hv6);have HV:=Lib.hid hv6;have HB:=Lib.hid (HB.out.grown hg6 (Nat.le_of_lt HZ.out) (fun b hb=>by cases hb;exact Nat.le_refl _));have HL:=Lib.hid (HL.out.step hg6);have HZ:=Lib.hid (Nat.lt_of_lt_of_le HZ.out hg6.size);clear hv6 hg6))
 refine (impl_PlainKernel _).mono ?_
 rintro e u4 ⟨g4,rfl,hg,hk,hq⟩
 have HV:=Lib.hid (HV.out.below hq)
 have HB:=Lib.hid (bTrans HB.out hq)
 have HL:=Lib.hid (HL.out.step (grown_of_below hq))
 have NG4:Hid (g4≠w.heap.size):=Lib.hid (by have:=HZ.out;omega)
 have HZ:=Lib.hid (Nat.lt_of_lt_of_le HZ.out hq.size)
 have HK4:=Lib.hid hk
 clear hg hk hq
 go_wp2_with fail
 refine (impl_diffusedPlate _ _ _ _ _).mono ?_
 rintro e u ⟨rfl,rfl⟩
 have HV:=Lib.hid ((HV.out.alloc (.cells #[.slice (some ⟨g4,0,none⟩) 1 1] 110)).alloc (.cells #[.bool true] 4))
 have HB:=Lib.hid (bAlloc (bAlloc HB.out (.cells #[.slice (some ⟨g4,0,none⟩) 1 1] 110)) (.cells #[.bool true] 4))
 have HL:=Lib.hid ((HL.out.step (grown_of_below (bAlloc (bAlloc (Below.refl _ _) (.cells #[.slice (some ⟨g4,0,none⟩) 1 1] 110)) (.cells #[.bool true] 4)))).cons (p:=DiffBox u4.heap.size (u4.heap.size+1) g4 1 plainK true) ⟨(Blk.new u4 _ _).alloc _,Blk.new' _ _ (by simp),(HK4.out.alloc _).alloc _⟩ (DiffBox.kept (by have:=HZ.out;omega) (by have:=HZ.out;omega) NG4.out))
 have HZ:Hid (w.heap.size<((u4.alloc (.cells #[.slice (some ⟨g4,0,none⟩) 1 1] 110)).alloc (.cells #[.bool true] 4)).heap.size):=Lib.hid (by have:=HZ.out;simp;omega)
 go_wp2_with (first
   | (refine wp_vsIns _ rfl _ _ _ rfl _ _ _ _ _ rfl HV.out (by unfold maxLen;omega) rfl rfl (by unfold maxLen;decide) ?_;intro w6 hv6 hg6;(try simp [Act.eval,go_sem] at hv6);have HV:=Lib.hid hv6;have HB:=Lib.hid (HB.out.grown hg6 (Nat.le_of_lt HZ.out) (fun b hb=>by cases hb;exact Nat.le_refl _));have HL:=Lib.hid (HL.out.step hg6);have HZ:=Lib.hid (Nat.lt_of_lt_of_le HZ.out hg6.size);clear hv6 hg6))
 obtain ⟨u5,hu5⟩: ∃x,x=w6:=⟨_,rfl⟩
 rw [←hu5] at HV HB HL HZ⊢
 clear hu5
 refine (impl_changedLast _ _).mono ?_
 rintro e u ⟨rfl,rfl⟩
 have HV:=Lib.hid (HV.out.alloc (.cells #[.func (.func 81) #[] #[]] 95))
 have HB:=Lib.hid (bAlloc HB.out (.cells #[.func (.func 81) #[] #[]] 95))
 have HL:=Lib.hid ((HL.out.step (grown_of_below (bAlloc (Below.refl _ _) (.cells #[.func (.func 81) #[] #[]] 95)))).cons (p:=ChgBox u5.heap.size 81) (Blk.new u5 _ _) (ChgBox.kept (by have:=HZ.out;omega)))
 have HZ:Hid (w.heap.size<(u5.alloc (.cells #[.func (.func 81) #[] #[]] 95)).heap.size):=Lib.hid (by have:=HZ.out;simp;omega)
 go_wp2_with (first
   | (refine wp_vsIns _ rfl _ _ _ rfl _ _ _ _ _ rfl HV.out (by unfold maxLen;omega) rfl rfl (by unfold maxLen;decide) ?_;intro w6 hv6 hg6;(try simp [Act.eval,go_sem] at hv6);have HV:=Lib.hid hv6;have HB:=Lib.hid (HB.out.grown hg6 (Nat.le_of_lt HZ.out) (fun b hb=>by cases hb;exact Nat.le_refl _));have HL:=Lib.hid (HL.out.step hg6);have HZ:=Lib.hid (Nat.lt_of_lt_of_le HZ.out hg6.size);clear hv6 hg6))
 obtain ⟨u6,hu6⟩: ∃x,x=w6:=⟨_,rfl⟩
 rw [←hu6] at HV HB HL HZ⊢
 clear hu6
 refine (impl_changedLast _ _).mono ?_
 rintro e u ⟨rfl,rfl⟩
 have HV:=Lib.hid (HV.out.alloc (.cells #[.func (.func 82) #[] #[]] 95))
 have HB:=Lib.hid (bAlloc HB.out (.cells #[.func (.func 82) #[] #[]] 95))
 have HL:=Lib.hid ((HL.out.step (grown_of_below (bAlloc (Below.refl _ _) (.cells #[.func (.func 82) #[] #[]] 95)))).cons (p:=ChgBox u6.heap.size 82) (Blk.new u6 _ _) (ChgBox.kept (by have:=HZ.out;omega)))
 have HZ:Hid (w.heap.size<(u6.alloc (.cells #[.func (.func 82) #[] #[]] 95)).heap.size):=Lib.hid (by have:=HZ.out;simp;omega)
 go_wp2_with (first
   | (refine wp_vsIns _ rfl _ _ _ rfl _ _ _ _ _ rfl HV.out (by unfold maxLen;omega) rfl rfl (by unfold maxLen;decide) ?_;intro w6 hv6 hg6;(try simp [Act.eval,go_sem] at hv6);have HV:=Lib.hid hv6;have HB:=Lib.hid (HB.out.grown hg6 (Nat.le_of_lt HZ.out) (fun b hb=>by cases hb;exact Nat.le_refl _));have HL:=Lib.hid (HL.out.step hg6);have HZ:=Lib.hid (Nat.lt_of_lt_of_le HZ.out hg6.size);clear hv6 hg6))
 obtain ⟨u7,hu7⟩: ∃x,x=w6:=⟨_,rfl⟩
 rw [←hu7] at HV HB HL HZ⊢
 clear hu7
 refine (impl_changedLast _ _).mono ?_
 rintro e u ⟨rfl,rfl⟩
 have HV:=Lib.hid (HV.out.alloc (.cells #[.func (.func 83) #[] #[]] 95))
 have HB:=Lib.hid (bAlloc HB.out (.cells #[.func (.func 83) #[] #[]] 95))
 have HL:=Lib.hid ((HL.out.step (grown_of_below (bAlloc (Below.refl _ _) (.cells #[.func (.func 83) #[] #[]] 95)))).cons (p:=ChgBox u7.heap.size 83) (Blk.new u7 _ _) (ChgBox.kept (by have:=HZ.out;omega)))
 have HZ:Hid (w.heap.size<(u7.alloc (.cells #[.func (.func 83) #[] #[]] 95)).heap.size):=Lib.hid (by have:=HZ.out;simp;omega)
 go_wp2_with (first
   | (refine wp_vsIns _ rfl _ _ _ rfl _ _ _ _ _ rfl HV.out (by unfold maxLen;omega) rfl rfl (by unfold maxLen;decide) ?_;intro w6 hv6 hg6;(try simp [Act.eval,go_sem] at hv6);have HV:=Lib.hid hv6;have HB:=Lib.hid (HB.out.grown hg6 (Nat.le_of_lt HZ.out) (fun b hb=>by cases hb;exact Nat.le_refl _));have HL:=Lib.hid (HL.out.step hg6);have HZ:=Lib.hid (Nat.lt_of_lt_of_le HZ.out hg6.size);clear hv6 hg6))
 go_ret
 have hL:=HL.out
 have hL:=HL.out
 have d1:DiffBox u1.heap.size (u1.heap.size+1) g1 4 steinK false w6:=(hL _ (.tail _ (.tail _ (.tail _ (.tail _ (.tail _ (.tail _ (.head _)))))))).1
 have d2:DiffBox u2.heap.size (u2.heap.size+1) g2 4 steinK true w6:=(hL _ (.tail _ (.tail _ (.tail _ (.tail _ (.tail _ (.head _))))))).1
 have d3:DiffBox u3.heap.size (u3.heap.size+1) g3 1 plainK false w6:=(hL _ (.tail _ (.tail _ (.tail _ (.tail _ (.head _)))))).1
 have d4:DiffBox u4.heap.size (u4.heap.size+1) g4 1 plainK true w6:=(hL _ (.tail _ (.tail _ (.tail _ (.head _))))).1
 have d5:ChgBox u5.heap.size 81 w6:=(hL _ (.tail _ (.tail _ (.head _)))).1
 have d6:ChgBox u6.heap.size 82 w6:=(hL _ (.tail _ (.head _))).1
 have d7:ChgBox u7.heap.size 83 w6:=(hL _ (.head _)).1
 have hv:VS w6 w.heap.size 15 (plainS u1.heap.size (u1.heap.size+1) u2.heap.size (u2.heap.size+1) u3.heap.size (u3.heap.size+1) u4.heap.size (u4.heap.size+1) u5.heap.size u6.heap.size u7.heap.size):=HV.out
 have hb:=HB.out
 clear hL HL HV HB
 exact ⟨u1.heap.size,u1.heap.size+1,g1,u2.heap.size,u2.heap.size+1,g2,u3.heap.size,u3.heap.size+1,g3,u4.heap.size,u4.heap.size+1,g4,u5.heap.size,u6.heap.size,u7.heap.size,rfl,hv,d1,d2,d3,d4,d5,d6,d7,hb⟩
end Go.Proofs.YtanccoopbgamdaaGreatDoor
namespace Go.Proofs.YtanccoopbgamdaaGreatDoor
open Go.RowKit
set_option linter.unusedVariables false
set_option linter.unusedSimpArgs false
structure Boxes where
 k1:Nat
 a1:Nat
 g1:Nat
 k2:Nat
 a2:Nat
 g2:Nat
 k3:Nat
 a3:Nat
 g3:Nat
 k4:Nat
 a4:Nat
 g4:Nat
 b1:Nat
 b2:Nat
 b3:Nat
def Boxes.S (x:Boxes):List UInt8→Option Value:=plainS x.k1 x.a1 x.k2 x.a2 x.k3 x.a3 x.k4 x.a4 x.b1 x.b2 x.b3
structure BoxesIn (x:Boxes) (w:World):Prop where
 d1:DiffBox x.k1 x.a1 x.g1 4 steinK false w
 d2:DiffBox x.k2 x.a2 x.g2 4 steinK true w
 d3:DiffBox x.k3 x.a3 x.g3 1 plainK false w
 d4:DiffBox x.k4 x.a4 x.g4 1 plainK true w
 c1:ChgBox x.b1 81 w
 c2:ChgBox x.b2 82 w
 c3:ChgBox x.b3 83 w
theorem impl_plainBoxes (w:World):Calls Tryz.prog 64 #[] w fun e w'=> ∃x:Boxes,e= .returned (.map (some w.heap.size))∧VS w' w.heap.size 15 x.S∧BoxesIn x w'∧Below w.heap.size w w':=by
 refine (impl_plainCommands w).mono ?_
 rintro e w' ⟨k1,a1,g1,k2,a2,g2,k3,a3,g3,k4,a4,g4,b1,b2,b3,h1,h2,h3,h4,h5,h6,h7,h8,h9,h10⟩
 exact ⟨⟨k1,a1,g1,k2,a2,g2,k3,a3,g3,k4,a4,g4,b1,b2,b3⟩,h1,h2,⟨h3,h4,h5,h6,h7,h8,h9⟩,h10⟩
def wordsF (s:ByteArray):List ByteArray:=Lib.splitB ⟨#[32]⟩ 0 (min 4 (s.size+1) - 1) s
theorem wordsF_len (s:ByteArray):1≤(wordsF s).length∧(wordsF s).length≤min 4 (s.size+1):=by
 unfold wordsF
 have h1:=Lib.splitB_length_le ⟨#[32]⟩ 0 (min 4 (s.size+1) - 1) s
 constructor
 · cases min 4 (s.size+1) - 1 with
   | zero=>simp [Lib.splitB]
   | succ k=>unfold Lib.splitB;split <;>simp
 · omega
theorem NumCmd.shape {w:World} {l:List UInt8} {xs:List Int} {e:Ending} {w':World} (h:NumCmd w l xs e w'): ∃v bo,e= .returned (.tuple #[v, .bool bo]):=by
 cases h with
 | flat h=>obtain ⟨a,n,c,he,_⟩:=h;exact ⟨_,_,he⟩
 | ramp h=>obtain ⟨a,n,c,he,_⟩:=h;exact ⟨_,_,he⟩
 | bayer h=>obtain ⟨mb,a,n,c,he,_⟩:=h;exact ⟨_,_,he⟩
 | spiral h=>obtain ⟨mb,a,n,c,he,_⟩:=h;exact ⟨_,_,he⟩
 | spot h=>obtain ⟨mb,a,n,c,he,_⟩:=h;exact ⟨_,_,he⟩
 | rank h=>obtain ⟨mb,a,n,c,he,_⟩:=h;exact ⟨_,_,he⟩
 | shift h=>exact ⟨_,_,rfl⟩
 | level=>exact ⟨_,_,rfl⟩
 | none h=>exact ⟨_,_,rfl⟩
theorem extract_le (s:ByteArray) (a b:Nat):(s.extract a b).size≤s.size:=by
 rw [ByteArray.size_extract];omega
theorem splitB_size (sep:ByteArray): ∀(k:Nat) (s:ByteArray) (t:ByteArray),t ∈ Lib.splitB sep 0 k s→t.size≤s.size
 | 0,s,t,h=>by simp [Lib.splitB] at h;rw [h];exact Nat.le_refl _
 | k +1,s,t,h=>by
   unfold Lib.splitB at h
   split at h
   · simp at h;rw [h];exact Nat.le_refl _
   · rcases List.mem_cons.1 h with rfl | h
     · exact extract_le _ _ _
     · exact Nat.le_trans (splitB_size sep k _ t h) (extract_le _ _ _)
theorem rdS_new (w:World) (ws:List ByteArray) (N T:Nat):RdS (w.alloc (.cells (Lib.cellsOf ws N) T)) (some ⟨w.heap.size,0,none⟩) ws:=by
 intro k hk
 refine ⟨w.heap.size,0,rfl,by simp,?_⟩
 have h:=(Blk.new w T (Lib.cellsOf ws N)).cell k
 rw [Nat.zero_add,h]
 simp only [Lib.cellsOf,List.getElem?_toArray]
 rw [List.getElem?_append_left (by simpa using hk)]
 simp [hk]
theorem RdS.tail {w:World} {b:Nat} {ws:List ByteArray} (h:RdS w (some ⟨b,0,none⟩) ws):RdS w (some ⟨b,1,none⟩) ws.tail:=by
 intro k hk
 have hk2:k+1<ws.length:=by simp at hk;omega
 obtain ⟨b',off,he,hl,hc⟩:=h (k+1) hk2
 obtain ⟨rfl,rfl⟩:b=b'∧0=off:=by simpa using he
 refine ⟨b,1,rfl,hl,?_⟩
 rw [show 1+k=0+(k+1) by omega,hc]
 simp
def CmdRes (s:ByteArray) (w:World) (e:Ending) (w':World):Prop:=
 Below w.heap.size w w'∧ ∃x:Boxes,((∃v,x.S s.data.toList=some v∧e= .returned (.tuple #[v, .bool true])∧BoxesIn x w')∨
   (x.S s.data.toList=none∧((numsW (wordsL (wordsF s).tail)=none∧ ∃v,e= .returned (.tuple #[v, .bool false]))∨
     ∃xs w1,numsW (wordsL (wordsF s).tail)=some xs∧(∀x,x ∈ xs→InI64 x)∧Below w.heap.size w w1∧NumCmd w1 ((wordsF s).getD 0 ByteArray.empty).toList xs e w')))
set_option maxRecDepth 100000 in
set_option maxHeartbeats 1600000 in
theorem impl_commandOf (s:ByteArray) (w:World) (hs:s.size≤1048576) (hL:LaidW w):Calls Tryz.prog 40 #[.string s] w (CmdRes s w):=by
 have HLW:=Lib.hid hL
 clear hL
 go_enter Tryz.func40,Tryz.ntmps40
 go_wp2_with fail
 refine (impl_plainBoxes _).mono ?_
 rintro e w1 ⟨x,rfl,hv,hx,hb⟩
 have HB1:=Lib.hid hb
 have HX:=Lib.hid hx
 have HV:=Lib.hid hv
 clear hb hx hv
 have hlk:=HV.out.look s (by unfold maxLen;omega)
 cases hS:x.S s.data.toList with
 | some v=>
   rw [hS] at hlk
   simp only [Option.getD_some,Option.isSome_some] at hlk
   go_wp2_with fail
   go_ret2
   exact ⟨HB1.out,x, .inl ⟨v,hS,rfl,HX.out⟩⟩
 | none=>
   rw [hS] at hlk
   simp only [Option.getD_none,Option.isSome_none] at hlk
   go_wp2_with fail
   obtain ⟨m,hm⟩:=(HLW.out.below HB1.out).max
   have hws:=wordsF_len s
   refine (Tryz.strings_SplitN s ⟨#[32]⟩ 4 m w1 (by omega) hm (by decide) (by omega) (by omega)).mono ?_
   rintro e w2 ⟨rfl,hw2⟩
   obtain ⟨N,hN⟩: ∃N,N=min 4 (s.size+1):=⟨_,rfl⟩
   obtain ⟨ws,hwsd⟩: ∃ws,ws=wordsF s:=⟨_,rfl⟩
   have hwl:(Lib.splitB ⟨#[32]⟩ 0 (min 4 (s.size+1) - 1) s)=ws:=hwsd.symm
   rw [hwl] at hw2⊢
   rw [←hwsd,←hN] at hws
   rw [←hN] at hw2⊢
   have HR:Hid (RdS w2 (some ⟨w1.heap.size,0,none⟩) ws):=Lib.hid (by rw [hw2];exact rdS_new _ _ _ _)
   have HSZ:Hid (∀t,t ∈ ws→t.size≤1048576):=Lib.hid (fun t ht=>Nat.le_trans (splitB_size _ _ _ _ (by rw [hwsd] at ht;exact ht)) hs)
   have HB2:Hid (Below w.heap.size w w2):=Lib.hid (by rw [hw2];exact bAlloc HB1.out _)
   have HWD:=Lib.hid hwsd
   have hNb:N≤4:=by omega
   obtain ⟨L,hL⟩: ∃L,L=ws.length:=⟨_,rfl⟩
   rw [←hL] at hws⊢
   obtain ⟨hw1,hw4⟩:=hws
   have HLD:=Lib.hid hL
   clear hw2 hlk hm hN hwl hwsd hL
   by_cases hN1:N=1
   case pos=>
     have hL1:L=1:=by omega
     subst hN1 hL1
     have HT:Hid (RdS w2 (some ⟨w1.heap.size,0,none⟩) ws.tail):=Lib.hid (fun k hk=>by simp at hk;have:=HLD.out;omega)
     go_wp2_with fail
     refine (impl_numbersOf _ _ _ ws.tail _ (by simp;have:=HLD.out;omega) (HT.out) (by omega) (fun t ht=>HSZ.out t (List.mem_of_mem_tail ht)) (HLW.out.below HB2.out)).mono ?_
     rintro e w3 ⟨hb3,hres⟩
     have HB3:=Lib.hid (bTrans HB2.out hb3)
     have HR3:=Lib.hid (HR.out.below hb3)
     clear hb3
     rcases hres with ⟨hno,v,rfl⟩ | ⟨xs,na,nn,nc,hyes,rfl,ho,hi⟩
     · go_wp2_with fail
       go_ret2
       exact ⟨HB3.out,x, .inr ⟨hS, .inl ⟨by rw [←HWD.out];exact hno,_,rfl⟩⟩⟩
     · obtain ⟨wd,hwd⟩: ∃t,t=ws.getD 0 ByteArray.empty:=⟨_,rfl⟩
       have hc0:w3.cell? ⟨w1.heap.size,0,none⟩=some (.string wd):=by
         obtain ⟨b',off,he,hl,hc⟩:=HR3.out 0 (by have:=HLD.out;omega)
         obtain ⟨rfl,rfl⟩:w1.heap.size=b'∧0=off:=by simpa using he
         rw [hwd,hc]
         simp [List.getD_eq_getElem?_getD,(show 0<ws.length by have:=HLD.out;omega)]
       have HO:=Lib.hid ho
       have HI:=Lib.hid hi
       have HY:=Lib.hid hyes
       have HWDD:=Lib.hid hwd
       clear ho hi hyes hwd
       go_wp2_with fail
       refine (num_all wd na nn nc xs w3 HO.out.len (HO.out.rd)).mono ?_
       intro e w4 hc4
       have HC4:=Lib.hid hc4
       have hbb:=hc4.below
       have HB4:=Lib.hid (bTrans HB3.out hbb)
       have hshape:=hc4.shape
       obtain ⟨v,bo,rfl⟩:=hshape
       clear hc4 hbb
       go_wp2_with fail
       go_ret2
       exact ⟨HB4.out,x, .inr ⟨hS, .inr ⟨xs,w3,by rw [←HWD.out];exact HY.out,HI.out,HB3.out,by rw [←HWD.out,←HWDD.out];exact HC4.out⟩⟩⟩
   case neg=>
     have hN2:2≤N:=by omega
     go_wp2_with fail
     refine (impl_numbersOf _ _ _ ws.tail _ (by simp;have:=HLD.out;omega) (HR.out.tail) (by omega) (fun t ht=>HSZ.out t (List.mem_of_mem_tail ht)) (HLW.out.below HB2.out)).mono ?_
     rintro e w3 ⟨hb3,hres⟩
     have HB3:=Lib.hid (bTrans HB2.out hb3)
     have HR3:=Lib.hid (HR.out.below hb3)
     clear hb3
     rcases hres with ⟨hno,v,rfl⟩ | ⟨xs,na,nn,nc,hyes,rfl,ho,hi⟩
     · go_wp2_with fail
       go_ret2
       exact ⟨HB3.out,x, .inr ⟨hS, .inl ⟨by rw [←HWD.out];exact hno,_,rfl⟩⟩⟩
     · obtain ⟨wd,hwd⟩: ∃t,t=ws.getD 0 ByteArray.empty:=⟨_,rfl⟩
       have hc0:w3.cell? ⟨w1.heap.size,0,none⟩=some (.string wd):=by
         obtain ⟨b',off,he,hl,hc⟩:=HR3.out 0 (by have:=HLD.out;omega)
         obtain ⟨rfl,rfl⟩:w1.heap.size=b'∧0=off:=by simpa using he
         rw [hwd,hc]
         simp [List.getD_eq_getElem?_getD,(show 0<ws.length by have:=HLD.out;omega)]
       have HO:=Lib.hid ho
       have HI:=Lib.hid hi
       have HY:=Lib.hid hyes
       have HWDD:=Lib.hid hwd
       clear ho hi hyes hwd
       go_wp2_with fail
       refine (num_all wd na nn nc xs w3 HO.out.len (HO.out.rd)).mono ?_
       intro e w4 hc4
       have HC4:=Lib.hid hc4
       have hbb:=hc4.below
       have HB4:=Lib.hid (bTrans HB3.out hbb)
       have hshape:=hc4.shape
       obtain ⟨v,bo,rfl⟩:=hshape
       clear hc4 hbb
       go_wp2_with fail
       go_ret2
       exact ⟨HB4.out,x, .inr ⟨hS, .inr ⟨xs,w3,by rw [←HWD.out];exact HY.out,HI.out,HB3.out,by rw [←HWD.out,←HWDD.out];exact HC4.out⟩⟩⟩
end Go.Proofs.YtanccoopbgamdaaGreatDoor
namespace Go.Proofs.YtanccoopbgamdaaGreatDoor
set_option linter.unusedVariables false
set_option linter.unusedSimpArgs false
def dotB (v:Int):UInt8:=if v=1 then 35 else 46
def textAt (w:Nat) (xs:List Int) (j:Nat):UInt8:=if j % (w+1)=w then 10 else dotB (xs.getD (j/(w+1)*w+j % (w+1)) 0)
def textG (w h:Nat) (xs:List Int):List UInt8:=(List.range ((w+1)*h)).map (textAt w xs)
theorem textG_len (w h:Nat) (xs:List Int):(textG w h xs).length=(w+1)*h:=by simp [textG]
theorem textG_at {w h:Nat} {xs:List Int} {j:Nat} (hj:j<(w+1)*h):(textG w h xs)[j]? =some (textAt w xs j):=by
 simp [textG,hj]
theorem take_bytes {l:List UInt8} {k:Nat} {c:UInt8} (h:l[k]? =some c):l.take (k+1)=l.take k++ [c]:=by
 have hk:=(List.getElem?_eq_some_iff.1 h).1
 rw [List.take_succ_eq_append_getElem hk]
 rw [List.getElem?_eq_getElem hk] at h
 rw [Option.some.inj h]
theorem plate_dots {W H:Int} {xs:List Int} (h:picOk W H xs 1=true): ∃w h:Nat,W=(w:Int)∧H=(h:Int)∧1≤w∧w≤64∧1≤h∧h≤64∧w*h≤1024∧xs.length=w*h∧sizeOk W H=true∧ ∀k,k<xs.length→xs.getD k 0=0∨xs.getD k 0=1:=by
 obtain ⟨h1,h2,h3⟩:=picOk_bd rfl h
 obtain ⟨b1,b2,b3,b4,b5,b6⟩:=sizeOk_bd h1
 refine ⟨W.toNat,H.toNat,by omega,by omega,by omega,by omega,by omega,by omega,?_,?_,h1,fun k hk=>?_⟩
 · have e:((W.toNat*H.toNat:Nat):Int)=W*H:=by rw [Int.natCast_mul,Int.toNat_of_nonneg (by omega),Int.toNat_of_nonneg (by omega)]
   omega
 · have e:((W.toNat*H.toNat:Nat):Int)=W*H:=by rw [Int.natCast_mul,Int.toNat_of_nonneg (by omega),Int.toNat_of_nonneg (by omega)]
   omega
 · have:=within_at h3 k hk
   simp only [List.getD_eq_getElem?_getD]
   omega
end Go.Proofs.YtanccoopbgamdaaGreatDoor
namespace Go.Proofs.YtanccoopbgamdaaGreatDoor
open Go.RowKit
set_option linter.unusedVariables false
set_option linter.unusedSimpArgs false
def textF (W H:Int) (xs:List Int):List UInt8:=if picOk W H xs 1=true then textG W.toNat H.toNat xs else []
end Go.Proofs.YtanccoopbgamdaaGreatDoor
namespace Go.Proofs.YtanccoopbgamdaaGreatDoor
set_option linter.unusedVariables false
set_option linter.unusedSimpArgs false
def rightI (w i:Nat):Nat:=w*(i/w)+(i % w+1) % w
def leftI (w i:Nat):Nat:=w*(i/w)+(i % w+(w - 1)) % w
def downI (w h i:Nat):Nat:=w*((i/w+1) % h)+i % w
def upI (w h i:Nat):Nat:=w*((i/w+(h - 1)) % h)+i % w
theorem grid_div {w x y:Nat} (hx:x<w):(w*y+x)/w=y:=by
 rw [Nat.mul_add_div (by omega),Nat.div_eq_of_lt hx,Nat.add_zero]
theorem grid_mod {w x y:Nat} (hx:x<w):(w*y+x) % w=x:=by
 rw [Nat.mul_add_mod,Nat.mod_eq_of_lt hx]
section
variable {w h n i : Nat}
end
def nearS (w h:Nat) (xs:List Int) (i:Nat):Int:=xs.getD i 0+xs.getD (rightI w i) 0+xs.getD (leftI w i) 0+xs.getD (downI w h i) 0+xs.getD (upI w h i) 0
def leastG (w h:Nat) (xs:List Int) (n:Nat) (m:Int):List Int:=gen n (fun i=>if m≤nearS w h xs i then 1 else 0)
def DotsN (n:Nat) (xs:List Int):Prop:= ∀k,k<n→xs.getD k 0=0∨xs.getD k 0=1
theorem dotsN_of {xs:List Int} {n:Nat} (hn:xs.length=n) (h:within xs 1=true):DotsN n xs:=fun k hk=>by
 have:=within_at h k (by omega)
 simp only [List.getD_eq_getElem?_getD]
 omega
theorem least_within (w h n:Nat) (xs:List Int) (m:Int):within (leastG w h xs n m) 1=true:=by
 unfold within leastG gen
 rw [List.all_eq_true]
 intro v hv
 obtain ⟨i,_,rfl⟩:=List.mem_map.1 hv
 split <;>simp
section
variable {w h n : Nat} {xs : List Int}
end
end Go.Proofs.YtanccoopbgamdaaGreatDoor
namespace Go.Proofs.YtanccoopbgamdaaGreatDoor
open Go.RowKit
set_option linter.unusedVariables false
set_option linter.unusedSimpArgs false
def growF (m:Int) (W H:Int) (xs:List Int):Pic:=if picOk W H xs 1=true then ⟨W,H,leastG W.toNat H.toNat xs xs.length m⟩ else noPic
theorem growF_no {m W H:Int} {xs:List Int} (h: ¬picOk W H xs 1=true):growF m W H xs=noPic:=by unfold growF;rw [if_neg h]
theorem growF_yes {m W H:Int} {xs:List Int} {n:Nat} (hn:xs.length=n) (h:picOk W H xs 1=true):growF m W H xs=⟨W,H,leastG W.toNat H.toNat xs n m⟩:=by unfold growF;rw [if_pos h,hn]
theorem filled_skipW (ys xs:List Int) (k:Nat) (hk:k<ys.length) (hx:k<xs.length) (hv:ys.getD k 0=xs.getD k 0):filled ys xs k=filled ys xs (k+1):=by
 rw [←filled_succ ys xs k _ hk hx rfl,hv]
 apply List.ext_getElem?
 intro i
 rw [List.getElem?_set]
 by_cases h:k=i
 · subst h
   rw [if_pos rfl,if_pos (by simp [filled];omega)]
   simp only [filled]
   rw [List.getElem?_append_right (by simp;omega)]
   simp only [List.length_take,Nat.min_eq_left (Nat.le_of_lt hk),Nat.sub_self,List.getElem?_drop,Nat.add_zero]
   simp [List.getD,List.getElem?_eq_getElem hx]
 · rw [if_neg h]
theorem leastG_len (w h:Nat) (xs:List Int) (n:Nat) (m:Int):(leastG w h xs n m).length=n:=gen_len _ _
theorem leastG_at {w h:Nat} {xs:List Int} {n:Nat} {m:Int} {k:Nat} (hk:k<n):(leastG w h xs n m).getD k 0=if m≤nearS w h xs k then 1 else 0:=gen_get _ _ _ hk
theorem grow_plate {m W H:Int} {xs:List Int} (h:picOk W H xs 1=true):picOk W H (leastG W.toNat H.toNat xs xs.length m) 1=true:=by
 obtain ⟨h1,h2,h3⟩:=picOk_bd rfl h
 unfold picOk
 rw [h1,decide_eq_true (by rw [leastG_len];exact h2),least_within]
 rfl
end Go.Proofs.YtanccoopbgamdaaGreatDoor
