/-
  Contracts and plain facts on which the theorem of this claim rests, text 44.
-/
import Derived.Laws.RangeAny
import Derived.Lib.AppendStr
import Derived.Lib.OthersKept
import Derived.Test.YtanccoopbgamdaaGreatDoorKC1
import Derived.Test.YtanccoopbgamdaaGreatDoorKC2
import Derived.Test.YtanccoopbgamdaaGreatDoorKC5
import Derived.Test.YtanccoopbgamdaaGreatDoorKC6
import Derived.Test.YtanccoopbgamdaaGreatDoorKC9
import Derived.Test.YtanccoopbgamdaaGreatDoorKC12
import Derived.Test.YtanccoopbgamdaaGreatDoorKC14
import Derived.Test.YtanccoopbgamdaaGreatDoorKC21
import Derived.Test.YtanccoopbgamdaaGreatDoorKC42
import Derived.Test.YtanccoopbgamdaaGreatDoorKC43
namespace Go.Proofs.YtanccoopbgamdaaGreatDoor
set_option linter.unusedVariables false
set_option linter.unusedSimpArgs false
theorem picOk_mk {W H:Int} {xs:List Int} {m:Int} {n:Nat} (hs:sizeOk W H=true) (hn:xs.length=n) (hq:(n:Int)=W*H) (hw:within xs m=true):picOk W H xs m=true:=by
 rw [picOk_in hn hs hq];exact hw
end Go.Proofs.YtanccoopbgamdaaGreatDoor
namespace Go.Proofs.YtanccoopbgamdaaGreatDoor
open Go.RowKit
set_option linter.unusedVariables false
set_option linter.unusedSimpArgs false
structure OkD (d:Dat):Prop where
 p:picOk d.1.W d.1.H d.1.ink 255=true
 m:matOk d.2.1.W d.2.1.H d.2.1.ink=true
 n:d.2.2.length≤4
 s: ∀q,q ∈ d.2.2→picOk q.W q.H q.ink 1=true∧q.W=d.1.W∧q.H=d.1.H
theorem getD0_mem {L:List Pic} (h:1≤L.length):L.getD 0 noPic ∈ L:=by
 rw [List.getD_eq_getElem?_getD,List.getElem?_eq_getElem (by omega)];exact List.getElem_mem _
theorem okD_iff (d:Dat):deskOk d=true↔OkD d:=by
 unfold deskOk
 simp only [Bool.and_eq_true,Bool.or_eq_true,decide_eq_true_eq]
 constructor
 · rintro ⟨⟨hp,hm⟩,hs⟩
   refine ⟨hp,hm,?_,?_⟩
   · rcases hs with hs | ⟨hs,_⟩
     · omega
     · exact (stack_bd hs).2.1
   · intro q hq
     rcases hs with hs | ⟨hs,h1,h2⟩
     · have:=List.length_pos_of_mem hq;omega
     · obtain ⟨_,_,h⟩:=stack_bd hs
       obtain ⟨k,hk,rfl⟩:=List.getElem_of_mem hq
       have:=h k hk
       rw [show d.2.2.getD k noPic=d.2.2[k] by rw [List.getD_eq_getElem?_getD,List.getElem?_eq_getElem hk];rfl] at this
       exact ⟨this.1,this.2.1.trans h1,this.2.2.trans h2⟩
 · intro h
   refine ⟨⟨h.p,h.m⟩,?_⟩
   by_cases h0:d.2.2.length=0
   · exact .inl h0
   · have hg:=h.s _ (getD0_mem (L:=d.2.2) (by omega))
     refine .inr ⟨?_,hg.2.1,hg.2.2⟩
     unfold stackOk
     simp only [Bool.and_eq_true,decide_eq_true_eq,List.all_eq_true]
     exact ⟨⟨by omega,h.n⟩,fun q hq=>⟨(h.s q hq).1,(h.s q hq).2.1.trans hg.2.1.symm,(h.s q hq).2.2.trans hg.2.2.symm⟩⟩
theorem within_genV {n:Nat} {m:Int} {f:Nat→Int} (h: ∀i,i<n→0≤f i∧f i≤m):within (gen n f) m=true:=by
 unfold within gen
 rw [List.all_eq_true]
 intro x hx
 simp only [List.mem_map,List.mem_range] at hx
 obtain ⟨i,hi,rfl⟩:=hx
 have:=h i hi
 simp only [Bool.and_eq_true,decide_eq_true_eq]
 omega
def Kept (F:Dat→Dat × List UInt8):Prop:= ∀d,OkD d→OkD (F d).1
theorem kept_pic (p:Pic):Kept (actPic p):=by
 intro d h
 unfold actPic
 split
 · rename_i hp;exact ⟨hp,h.m,by simp,by simp⟩
 · exact h
theorem kept_mat (f:Pic→Pic):Kept (actMat f):=by
 intro d h
 unfold actMat
 split
 · rename_i hp;exact ⟨h.p,hp,h.n,h.s⟩
 · exact h
theorem kept_level (i:Int):Kept (actLevel i):=fun d h=>h
theorem kept_plate (f:Dat→Pic × List UInt8) (hf: ∀d,OkD d→picOk (f d).1.W (f d).1.H (f d).1.ink 1=true∧(f d).1.W=d.1.W∧(f d).1.H=d.1.H):Kept (actPlate f):=by
 intro d h
 unfold actPlate
 split
 · exact h
 · rename_i hl
   refine ⟨h.p,h.m,?_,?_⟩
   · have:=h.n
     simp only [List.length_append,List.length_singleton]
     omega
   · intro q hq
     rcases List.mem_append.1 hq with hq | hq
     · exact h.s q hq
     · rw [List.mem_singleton.1 hq];exact hf d h
theorem kept_last (F:Dat→Pic→Dat × List UInt8) (hF: ∀d q,OkD d→q ∈ d.2.2→OkD (F d q).1):Kept (actLast F):=by
 intro d h
 unfold actLast
 split
 · exact h
 · rename_i hl
   exact hF d _ h (by rw [List.getD_eq_getElem?_getD,List.getElem?_eq_getElem (by omega)];exact List.getElem_mem _)
theorem kept_change (f:Pic→Pic) (hf: ∀q:Pic,picOk q.W q.H q.ink 1=true→picOk (f q).W (f q).H (f q).ink 1=true∧(f q).W=q.W∧(f q).H=q.H): ∀d q,OkD d→q ∈ d.2.2→OkD (changeT f d q).1:=by
 intro d q h hq
 refine ⟨h.p,h.m,by simp only [changeT,List.length_set];exact h.n,?_⟩
 intro r hr
 rcases List.mem_or_eq_of_mem_set hr with hr | rfl
 · exact h.s r hr
 · have a:=h.s q hq
   have b:=hf q a.1
   exact ⟨b.1,b.2.1.trans a.2.1,b.2.2.trans a.2.2⟩
theorem kept_drop: ∀d q,OkD d→q ∈ d.2.2→OkD (dropT d q).1:=by
 intro d q h hq
 refine ⟨h.p,h.m,?_,fun r hr=>h.s r (List.mem_of_mem_take hr)⟩
 have:=h.n
 simp only [dropT,List.length_take]
 omega
theorem grow_keeps (m:Nat): ∀q:Pic,picOk q.W q.H q.ink 1=true→picOk (growT m q).W (growT m q).H (growT m q).ink 1=true∧(growT m q).W=q.W∧(growT m q).H=q.H:=by
 intro q h
 unfold growT
 rw [growF_yes rfl h]
 exact ⟨grow_plate h,rfl,rfl⟩
theorem bit_at {xs:List Int} (h:within xs 1=true) (k:Nat):0≤xs.getD k 0∧xs.getD k 0≤1:=by
 unfold within at h
 rw [List.all_eq_true] at h
 by_cases hk:k<xs.length
 · have:=h (xs.getD k 0) (by rw [List.getD_eq_getElem?_getD,List.getElem?_eq_getElem hk];exact List.getElem_mem hk)
   simp only [Bool.and_eq_true,decide_eq_true_eq] at this
   omega
 · rw [List.getD_eq_getElem?_getD,List.getElem?_eq_none (by omega)];simp
theorem mir_keeps: ∀q:Pic,picOk q.W q.H q.ink 1=true→picOk (mirT2 q).W (mirT2 q).H (mirT2 q).ink 1=true∧(mirT2 q).W=q.W∧(mirT2 q).H=q.H:=by
 intro q h
 obtain ⟨hs,hq,hw⟩:=picOk_bd rfl h
 unfold mirT2
 rw [mirF_yes (picOk_le h) hq]
 exact ⟨picOk_mk hs (gen_len _ _) hq (within_genV (fun i _=>bit_at hw _)),rfl,rfl⟩
theorem plate_screenT: ∀d,OkD d→picOk (screenT d).1.W (screenT d).1.H (screenT d).1.ink 1=true∧(screenT d).1.W=d.1.W∧(screenT d).1.H=d.1.H:=by
 intro d h
 obtain ⟨hs,hq,hw⟩:=picOk_bd rfl h.p
 unfold screenT screenF
 rw [if_pos ⟨h.m,h.p⟩]
 exact ⟨picOk_mk hs (gen_len _ _) hq (within_genV (fun i _=>by unfold dotG;split <;>omega)),rfl,rfl⟩
theorem plate_diffT {ks:List Prt} {alt:Bool} (hk:kernOk ks=true): ∀d,OkD d→picOk (diffT ks alt d).1.W (diffT ks alt d).1.H (diffT ks alt d).1.ink 1=true∧(diffT ks alt d).1.W=d.1.W∧(diffT ks alt d).1.H=d.1.H:=by
 intro d h
 obtain ⟨hs,hq,hw⟩:=picOk_bd rfl h.p
 unfold diffT
 rw [diffF_yes rfl hk h.p]
 have r:RunOk alt ks d.1.W d.1.H d.1.ink d.1.ink.length:=RunOk.of rfl hk h.p
 obtain ⟨_,_,_,_,_,b6⟩:=run_inv r d.1.ink.length (Nat.le_refl _)
 have hl:(runG alt ks d.1.W d.1.H d.1.ink d.1.ink.length).dots.length=d.1.ink.length:=(run_len d.1.ink.length).1
 exact ⟨picOk_mk hs hl hq b6,rfl,rfl⟩
theorem kept_plain {l:List UInt8} {F:Dat→Dat × List UInt8} (hF:plainF l=some F):Kept F:=by
 unfold plainF at hF
 by_cases h:l=[101,114,114,111,114]
 · rw [if_pos h] at hF
   cases hF
   exact kept_last _ (fun d q h hq=>h)
 rw [if_neg h] at hF
 clear h
 by_cases h:l=[99,111,117,110,116,115]
 · rw [if_pos h] at hF
   cases hF
   exact kept_last _ (fun d q h hq=>h)
 rw [if_neg h] at hF
 clear h
 by_cases h:l=[109,101,97,110]
 · rw [if_pos h] at hF
   cases hF
   exact kept_last _ (fun d q h hq=>h)
 rw [if_neg h] at hF
 clear h
 by_cases h:l=[114,117,110,115]
 · rw [if_pos h] at hF
   cases hF
   exact kept_last _ (fun d q h hq=>h)
 rw [if_neg h] at hF
 clear h
 by_cases h:l=[115,104,111,119]
 · rw [if_pos h] at hF
   cases hF
   exact kept_last _ (fun d q h hq=>h)
 rw [if_neg h] at hF
 clear h
 by_cases h:l=[100,114,111,112]
 · rw [if_pos h] at hF
   cases hF
   exact kept_last _ kept_drop
 rw [if_neg h] at hF
 clear h
 by_cases h:l=[109,105,114,114,111,114]
 · rw [if_pos h] at hF
   cases hF
   exact kept_last _ (kept_change _ mir_keeps)
 rw [if_neg h] at hF
 clear h
 by_cases h:l=[115,104,114,105,110,107]
 · rw [if_pos h] at hF
   cases hF
   exact kept_last _ (kept_change _ (grow_keeps _))
 rw [if_neg h] at hF
 clear h
 by_cases h:l=[103,114,111,119]
 · rw [if_pos h] at hF
   cases hF
   exact kept_last _ (kept_change _ (grow_keeps _))
 rw [if_neg h] at hF
 clear h
 by_cases h:l=[100,105,102,102,117,115,101,32,112,108,97,105,110,32,98,111,116,104]
 · rw [if_pos h] at hF
   cases hF
   exact kept_plate _ (plate_diffT (by decide))
 rw [if_neg h] at hF
 clear h
 by_cases h:l=[100,105,102,102,117,115,101,32,112,108,97,105,110,32,108,101,102,116]
 · rw [if_pos h] at hF
   cases hF
   exact kept_plate _ (plate_diffT (by decide))
 rw [if_neg h] at hF
 clear h
 by_cases h:l=[100,105,102,102,117,115,101,32,115,116,101,105,110,32,98,111,116,104]
 · rw [if_pos h] at hF
   cases hF
   exact kept_plate _ (plate_diffT (by decide))
 rw [if_neg h] at hF
 clear h
 by_cases h:l=[100,105,102,102,117,115,101,32,115,116,101,105,110,32,108,101,102,116]
 · rw [if_pos h] at hF
   cases hF
   exact kept_plate _ (plate_diffT (by decide))
 rw [if_neg h] at hF
 clear h
 by_cases h:l=[115,99,114,101,101,110]
 · rw [if_pos h] at hF
   cases hF
   exact kept_plate _ plate_screenT
 rw [if_neg h] at hF
 clear h
 by_cases h:l=[114,101,118,101,114,115,101]
 · rw [if_pos h] at hF
   cases hF
   exact kept_mat _
 rw [if_neg h] at hF
 clear h
 cases hF
theorem kept_num {l:List UInt8} {xs:List Int} {F:Dat→Dat × List UInt8} (hF:numF l xs=some F):Kept F:=by
 unfold numF at hF
 by_cases h:l=[102,108,97,116]∧xs.length=3
 · rw [if_pos h] at hF
   cases hF
   exact kept_pic _
 rw [if_neg h] at hF
 clear h
 by_cases h:l=[114,97,109,112]∧xs.length=2
 · rw [if_pos h] at hF
   cases hF
   exact kept_pic _
 rw [if_neg h] at hF
 clear h
 by_cases h:l=[98,97,121,101,114]∧xs.length=1
 · rw [if_pos h] at hF
   cases hF
   exact kept_mat _
 rw [if_neg h] at hF
 clear h
 by_cases h:l=[115,112,105,114,97,108]∧xs.length=1
 · rw [if_pos h] at hF
   cases hF
   exact kept_mat _
 rw [if_neg h] at hF
 clear h
 by_cases h:l=[115,112,111,116]∧xs.length=2
 · rw [if_pos h] at hF
   cases hF
   exact kept_mat _
 rw [if_neg h] at hF
 clear h
 by_cases h:l=[114,97,110,107]∧xs.length=3
 · rw [if_pos h] at hF
   cases hF
   exact kept_mat _
 rw [if_neg h] at hF
 clear h
 by_cases h:l=[115,104,105,102,116]∧xs.length=2
 · rw [if_pos h] at hF
   cases hF
   exact kept_mat _
 rw [if_neg h] at hF
 clear h
 by_cases h:l=[108,101,118,101,108]∧xs.length=1
 · rw [if_pos h] at hF
   cases hF
   exact kept_level _
 rw [if_neg h] at hF
 clear h
 cases hF
theorem runF_kept {d:Dat} (s:ByteArray) (h:deskOk d=true):deskOk (runF d s).1=true:=by
 rw [okD_iff] at h⊢
 unfold runF
 split
 · split
   · exact h
   · split
     · rename_i F hF
       unfold lineF at hF
       split at hF
       · rename_i G hG
         cases hF
         exact kept_plain hG d h
       · split at hF
         · exact kept_num hF d h
         · cases hF
     · exact h
 · exact h
theorem impl_RunLineA (D:Dsk) (s:ByteArray) (w:World) (hr:RdD w D) (hs:SmallD D) (ha:AddrD D) (hz:s.size≤1048576) (hL:LaidW w):
   Calls Tryz.prog 15 #[D.val, .string s] w (DeskAns w (runF D.dat s)):=impl_RunLine D s w hr hs ha hz hL bd_of
def TL (F:Dat→Dat × List UInt8):Prop:= ∀d,OkD d→(F d).2.length≤4194304
end Go.Proofs.YtanccoopbgamdaaGreatDoor
namespace Go.Proofs.YtanccoopbgamdaaGreatDoor
open Go.ChangeShapes Go.WideShapes Go.ChangeAt Go.RowKit
set_option linter.unusedVariables false
set_option linter.unusedSimpArgs false
theorem short_at (w:World) (T:Nat) (M:Array Value) (B n:Nat) (hn:M.size=n) (h: ∀v,v ∈ M.toList→ ∃s:ByteArray,v= .string s∧s.size≤B) (r:Nat) (hr:r<n): ∃s:ByteArray,(w.alloc (.cells M T)).cell? ⟨w.heap.size,r,none⟩=some (.string s)∧s.size≤B:=by
 have hlt:r<M.size:=by omega
 obtain ⟨s,e,hs⟩:=h M[r] (by simp)
 refine ⟨s,?_,hs⟩
 rw [←e]
 have:=(Blk.new w T M).cell r
 rw [this]
 simp [hlt]
def shortL (B:Nat):List Value→Prop
 | []=>True
 | .string s::r=>s.size≤B∧shortL B r
 | _::_=>False
def shortB (B:Nat):List Value→Bool
 | []=>true
 | .string s::r=>decide (s.size≤B) && shortB B r
 | _::_=>false
theorem shortL_of (B:Nat): ∀l,shortB B l=true→shortL B l
 | [],_=>trivial
 | .string s::r,h=>by
   simp only [shortB,Bool.and_eq_true,decide_eq_true_eq] at h
   exact ⟨h.1,shortL_of B r h.2⟩
 | .int _ _::_,h=>by simp [shortB] at h
 | .bool _::_,h=>by simp [shortB] at h
 | .slice _ _ _::_,h=>by simp [shortB] at h
 | .pointer _::_,h=>by simp [shortB] at h
 | .agg _::_,h=>by simp [shortB] at h
 | .tuple _::_,h=>by simp [shortB] at h
theorem shortL_mem (B:Nat): ∀l,shortL B l→ ∀v,v ∈ l→ ∃s:ByteArray,v= .string s∧s.size≤B
 | [],_,_,h=>by cases h
 | .string s::r,h,v,hv=>by
   rcases List.mem_cons.1 hv with rfl | hv
   · exact ⟨s,rfl,h.1⟩
   · exact shortL_mem B r h.2 v hv
theorem below_short (c:Nat) (ac:Option Addr) (nc capc:Nat) (bs:List Int) (n:Nat) (w:World) (T:Nat) (M:Array Value) (B:Nat) (hc:Cur w c ac nc capc bs) (h1:1≤n) (h2:n≤256) (hn:M.size=n) (hM:shortL B M.toList):
   Calls Tryz.prog 54 #[.pointer (some ⟨c,0,none⟩), .int .i64 n] (w.alloc (.cells M T)) fun e w'=> ∃(v:Nat) (s:ByteArray),e= .returned (.int .i64 v)∧v<n∧w'.cell? ⟨w.heap.size,v,none⟩=some (.string s)∧s.size≤B∧Cur w' c ac nc capc bs∧w.grownBy w' (some c):=by
 have hlt:c<w.heap.size:=hc.lt
 refine (spec_l01Below c ac nc capc bs n _ (hc.alloc _) (by omega) (by omega)).mono ?_
 rintro e w1 ⟨v,rfl,v0,v1,hc1,hg1⟩
 obtain ⟨r,rfl⟩: ∃r:Nat,v=r:=⟨v.toNat,by omega⟩
 obtain ⟨s,hs,hz⟩:=short_at w T M B n hn (shortL_mem B _ hM) r (by omega)
 exact ⟨r,s,rfl,by omega,hg1.cell hs (by intro e;have:=Option.some.inj e;simp at this;omega),hz,hc1,grown_trans (World.grownBy_alloc _ _ _) hg1⟩
set_option maxRecDepth 100000 in
set_option maxHeartbeats 1600000 in
theorem spec_l8Line (c:Nat) (ac:Option Addr) (nc capc:Nat) (bs:List Int) (w:World) (hc:Cur w c ac nc capc bs):
   Calls Tryz.prog 35 #[.pointer (some ⟨c,0,none⟩)] w fun e w'=> ∃s:ByteArray,e= .returned (.string s)∧s.size≤64∧Cur w' c ac nc capc bs∧w.grownBy w' (some c):=by
 have HC:=Lib.hid hc
 clear hc
 go_enter Tryz.func35,Tryz.ntmps35
 go_wp2_with fail
 refine (below_short c ac nc capc bs 43 w _ _ 62 HC.out (by omega) (by omega) rfl (shortL_of _ _ (by kernel_rfl))).mono ?_
 rintro e w1 ⟨v,s,rfl,v1,hs,hz,hc1,hg1⟩
 have HC1:=Lib.hid hc1
 have G1:=Lib.hid hg1
 clear hc1 hg1
 go_wp2_with fail
 refine (spec_l01Once c ac nc capc bs 12 _ HC1.out (by omega) (by omega)).mono ?_
 rintro e w2 ⟨b,rfl,hc2,hg2⟩
 have HC2:=Lib.hid hc2
 have G2:=Lib.hid (grown_trans G1.out hg2)
 clear hc2 hg2
 cases b
 · go_wp2_with fail
   go_ret
   exact ⟨s,rfl,by omega,HC2.out,G2.out⟩
 · go_wp2_with fail
   refine (below_short c ac nc capc bs 12 _ _ _ 64 HC2.out (by omega) (by omega) rfl ?_).mono ?_
   · simp only [shortL]
     refine ⟨?_,?_,?_,?_,?_,?_,?_,?_,?_,?_,?_,?_,trivial⟩ <;>(try decide)
     · rw [ByteArray.size_append]
       show s.size+1≤64
       omega
     · rw [ByteArray.size_append]
       show 1+s.size≤64
       omega
     · rw [ByteArray.size_append]
       show s.size+1≤64
       omega
   · rintro e w3 ⟨v3,s3,rfl,v13,hs3,hz3,hc3,hg3⟩
     have HC3:=Lib.hid hc3
     have G3:=Lib.hid (grown_trans G2.out hg3)
     clear hc3 hg3
     go_wp2_with fail
     go_ret
     exact ⟨_,rfl,hz3,HC3.out,G3.out⟩
theorem rd_lit3 (w:World) (a b c:Int) (T:Nat):Rd (w.alloc (.cells #[.int .i64 a, .int .i64 b, .int .i64 c] T)) (some ⟨w.heap.size,0,none⟩) [a,b,c]:=by
 intro k hk
 refine ⟨w.heap.size,0,rfl,by simp,?_⟩
 rw [Nat.zero_add,(Blk.new w T _).cell k]
 match k,hk with
 | 0,_=>rfl
 | 1,_=>rfl
 | 2,_=>rfl
def DrawAny (w:World) (c:Nat) (ac:Option Addr) (nc capc:Nat) (bs:List Int) (most:Int) (e:Ending) (w':World):Prop:=
 ∃(W H:Int) (g n:Nat) (xs:List Int),e= .returned (.agg #[.int .i64 W, .int .i64 H, .slice (some ⟨g,0,none⟩) n n])∧1≤W∧W≤most∧1≤H∧H≤most∧(n:Int)=W*H∧w.heap.size≤g∧Own w' g n n xs∧Cur w' c ac nc capc bs∧w.grownBy w' (some c)
set_option maxRecDepth 100000 in
set_option maxHeartbeats 3200000 in
theorem spec_l1Plate (c:Nat) (ac:Option Addr) (nc capc:Nat) (bs:List Int) (w:World) (hc:Cur w c ac nc capc bs):
   Calls Tryz.prog 57 #[.pointer (some ⟨c,0,none⟩)] w (DrawAny w c ac nc capc bs 7):=by
 have hcl:=hc.lt
 have h1:(1:Int)≤7:=by omega
 have h2:(7:Int)≤16:=by omega
 go_enter Tryz.func57,Tryz.ntmps57
 go_wp2_with fail
 refine (spec_l01Below c ac nc capc bs 7 _ (hc.alloc _) h1 (by omega)).mono ?_
 rintro e w1 ⟨v1,rfl,a0,a1,hc1,hg1⟩
 have HC1:=Lib.hid hc1
 have G1:=Lib.hid (grown_trans (World.grownBy_alloc w (.cells #[.int .i64 0, .int .i64 0, .slice none 0 0] 27) (some c)) hg1)
 have KR1:=Lib.hid ((Blk.new w 27 #[.int .i64 0, .int .i64 0, .slice none 0 0]).grown hg1 (by intro e;have:=Option.some.inj e;omega))
 clear hc1 hg1
 go_wp2_with fail
 refine (spec_l01Below c ac nc capc bs 7 _ HC1.out h1 (by omega)).mono ?_
 rintro e w2 ⟨v2,rfl,b0,b1,hc2,hg2⟩
 have HC2:=Lib.hid hc2
 have G2:=Lib.hid (grown_trans G1.out hg2)
 have KR2:=Lib.hid (KR1.out.grown hg2 (by intro e;have:=Option.some.inj e;omega))
 clear hc2 hg2
 have HS:=Lib.hid (sizeOk_small (W:=1+v1) (H:=1+v2) (m:=7) (by omega) (by omega) (by omega) (by omega) h2)
 obtain ⟨n,hq⟩: ∃n:Nat,(n:Int)=(1+v1)*(1+v2):=⟨_,(toNat_mul HS.out).1⟩
 have HQ:=Lib.hid hq
 obtain ⟨s1,s2,s3,s4,s5,s6⟩:=sizeOk_bd HS.out
 have hn1:1≤n:=by omega
 have hn2:n≤1024:=by omega
 clear hq
 go_wp2_with fail
 refine (spec_l1Empty (1+v1) (1+v2) n _ HS.out HQ.out).mono ?_
 rintro e w3 ⟨g,rfl,hg,ho,hb⟩
 have HC3:=Lib.hid (HC2.out.below' hb)
 have G3:=Lib.hid (grown_bel G2.out hb)
 have KR3:=Lib.hid (KR2.out.below' hb)
 have HO3:=Lib.hid ho
 have HG:Hid (w.heap.size+1≤g):=Lib.hid (by have:=KR2.out.lt;omega)
 clear hb hg ho
 go_wp2_with fail
 have HC4:=Lib.hid (HC3.out.alloc (.cells #[.int .i64 (1+v1), .int .i64 (1+v2), .slice (some ⟨g,0,none⟩) n n] 27))
 have G4:=Lib.hid (grown_trans G3.out (World.grownBy_alloc _ (.cells #[.int .i64 (1+v1), .int .i64 (1+v2), .slice (some ⟨g,0,none⟩) n n] 27) _))
 have KR4:=Lib.hid (KR3.out.alloc (.cells #[.int .i64 (1+v1), .int .i64 (1+v2), .slice (some ⟨g,0,none⟩) n n] 27))
 have KB4:=Lib.hid (Blk.new w3 27 #[.int .i64 (1+v1), .int .i64 (1+v2), .slice (some ⟨g,0,none⟩) n n])
 have HO4:=Lib.hid (HO3.out.alloc (.cells #[.int .i64 (1+v1), .int .i64 (1+v2), .slice (some ⟨g,0,none⟩) n n] 27))
 obtain ⟨l0,o0,o1,o2⟩:=KB4.out.c3
 go_wp2_with fail
 go_loopw [15] (fun i wr=> ∃(k:Nat) (xs:List Int),k≤n∧i= .int .i64 k∧Own wr g n n xs∧Hid (within xs 255=true)∧Blk wr w3.heap.size 27 #[.int .i64 (1+v1), .int .i64 (1+v2), .slice (some ⟨g,0,none⟩) n n]∧Blk wr w.heap.size 27 #[.int .i64 0, .int .i64 0, .slice none 0 0]∧Cur wr c ac nc capc bs∧w.grownBy wr (some c)) (fun i _=>n - (intOf i).toNat)
 case atStart=>exact ⟨0,_,Nat.zero_le _,rfl,HO4.out,within_zero n 255 (by omega),KB4.out,KR4.out,HC4.out,G4.out⟩
 case round=>
   obtain ⟨k,xs,hk,rfl,ho,HX,hb1,hb2,hcr,hgr⟩:=hrel
   have HO:=Lib.hid ho
   have KB:=Lib.hid hb1
   have KR:=Lib.hid hb2
   have HC:=Lib.hid hcr
   have HGr:=Lib.hid hgr
   clear o0 o1 o2 l0
   obtain ⟨l0,o0,o1,o2⟩:=KB.out.c3
   have gl:=ho.lt
   have N3:w.heap.size<w3.heap.size:=KR3.out.lt
   have N2:g≠w3.heap.size:=by have:=HO3.out.lt;omega
   have N1:g≠w.heap.size:=by have:=HG.out;omega
   have N4:c<g:=by have:=HG.out;omega
   clear ho hb1 hb2 hcr hgr
   by_cases hlt:k<n
   · go_wp2_with fail
     go_region_held3 (fun v=>v.cell? ⟨w3.heap.size,2,none⟩=some (.slice (some ⟨g,0,none⟩) n n))
       (first | exact o2 | exact z2 | exact cell_far z2 N2)
       (first
         | (go_at_call 54;((with_reducible refine (spec_l01Below c ac nc capc bs 2 _ (by exact HC.out.drew) (by omega) (by omega)).mono ?_);rintro e v1' ⟨x,rfl,x0,x1,hcv,hgv⟩;have HOv:=Lib.hid ((HO.out.drewN 1).grown hgv (by intro e;have:=Option.some.inj e;omega));have KBv:=Lib.hid (KB.out.drew.grown hgv (by intro e;have:=Option.some.inj e;omega));have KRv:=Lib.hid (KR.out.drew.grown hgv (by intro e;have:=Option.some.inj e;omega));obtain ⟨lv,z0,z1,z2⟩:=KBv.out.c3;have t2:=HOv.out.cell hlt;have t3:=HOv.out.frozen k)))
     have HCv:=Lib.hid hcv
     have HGv:=Lib.hid (grown_trans (grown_drewN HGr.out 1) hgv)
     have hx2:x≤255:=by omega
     clear hcv hgv
     go_wp2_with fail
     go_roundw
     case rel=>exact ⟨k+1,xs.set k x,by omega,by go_num,HOv.out.set k x,within_set HX.out k x x0 hx2,KBv.out.other (by simp;omega) _,KRv.out.other (by simp;omega) _,HCv.out.other (by simp;omega) _,grown_setNew HGv.out (by have:=HG.out;simp;omega) _⟩
     case measure=>simp [intOf];omega
   · obtain rfl:n=k:=by omega
     go_wp2_with fail
     refine (spec_l01Once c ac nc capc bs 12 _ HC.out (by omega) (by omega)).mono ?_
     rintro e w7 ⟨b7,rfl,hc7,hg7⟩
     have HC7:=Lib.hid hc7
     have HG7:=Lib.hid (grown_trans HGr.out hg7)
     have HO7:=Lib.hid (HO.out.grown hg7 (by intro e;have:=Option.some.inj e;omega))
     have KB7:=Lib.hid (KB.out.grown hg7 (by intro e;have:=Option.some.inj e;omega))
     have KR7:=Lib.hid (KR.out.grown hg7 (by intro e;have:=Option.some.inj e;omega))
     clear hc7 hg7 o0 o1 o2 l0
     obtain ⟨l0,o0,o1,o2⟩:=KB7.out.c3
     have hn0:0<n:=by omega
     cases b7
     · have KRE:=KR7
       have HOE:=HO7
       have HCE:=HC7
       have HGE:=HG7
       obtain ⟨r0,r1,r2,r3⟩:=KRE.out.c3
       obtain ⟨q0,q1,q2⟩:=KRE.out.f3
       go_wp2_with fail
       exact bodyPost_ret (v:= .agg #[.int .i64 (1+v1), .int .i64 (1+v2), .slice (some ⟨g,0,none⟩) n n]) (by simp [results,Tryz.results57,go_sem,r1,r2,r3]) rfl
         ⟨_,_,g,n,_,rfl,by omega,by omega,by omega,by omega,HQ.out,by have:=HG.out;omega,((HOE.out.other (by simp;omega) _).other (by simp;omega) _).other (by simp;omega) _,
           ((HCE.out.other (by simp;omega) _).other (by simp;omega) _).other (by simp;omega) _,grown_setNew (grown_setNew (grown_setNew HGE.out (by simp) _) (by simp) _) (by simp) _⟩
     · have t2:=HO7.out.cell hn0
       have t3:=HO7.out.frozen 0
       go_wp2_with fail
       go_region_held3 (fun v=>v.cell? ⟨w3.heap.size,2,none⟩=some (.slice (some ⟨g,0,none⟩) n n))
         (first | exact o2 | exact z2 | exact cell_al o2 | exact cell_far z2 N2)
         (first
           | (go_at_call 56;((with_reducible refine (spec_l01Int c ac nc capc bs _ 3 3 [2,-1,255] _ (by exact (HC7.out.alloc _).drew) rfl (by exact (rd_lit3 _ _ _ _ _).drew) (by intro b off e;have:=HC7.out.lt;cases e;omega) (by omega) (by omega)).mono ?_);rintro e v1' ⟨x,rfl,hxm,hcv,hgv⟩;have HOv:=Lib.hid (((HO7.out.alloc _).drewN 1).grown hgv (by intro e;have:=Option.some.inj e;omega));have KBv:=Lib.hid ((KB7.out.alloc _).drew.grown hgv (by intro e;have:=Option.some.inj e;omega));have KRv:=Lib.hid ((KR7.out.alloc _).drew.grown hgv (by intro e;have:=Option.some.inj e;omega));obtain ⟨lv,z0,z1,z2⟩:=KBv.out.c3;have t2:=HOv.out.cell hn0;have t3:=HOv.out.frozen 0)))
       have HCv:=Lib.hid hcv
       have HGv:=Lib.hid (grown_trans (grown_drewN (grown_trans HG7.out (World.grownBy_alloc _ _ _)) 1) hgv)
       clear hcv hgv hxm
       have HOE:=Lib.hid (HOv.out.set 0 x)
       have HCE:=Lib.hid (HCv.out.other (a:=⟨g,0,none⟩) (by simp;omega) (.int .i64 x))
       have KRE:=Lib.hid (KRv.out.other (a:=⟨g,0,none⟩) (by simp;omega) (.int .i64 x))
       have HGE:=Lib.hid (grown_setNew (p:=⟨g,0,none⟩) HGv.out (by have:=HG.out;simp;omega) (.int .i64 x))
       obtain ⟨r0,r1,r2,r3⟩:=KRE.out.c3
       obtain ⟨q0,q1,q2⟩:=KRE.out.f3
       go_wp2_with fail
       exact bodyPost_ret (v:= .agg #[.int .i64 (1+v1), .int .i64 (1+v2), .slice (some ⟨g,0,none⟩) n n]) (by simp [results,Tryz.results57,go_sem,r1,r2,r3]) rfl
         ⟨_,_,g,n,_,rfl,by omega,by omega,by omega,by omega,HQ.out,by have:=HG.out;omega,((HOE.out.other (by simp;omega) _).other (by simp;omega) _).other (by simp;omega) _,
           ((HCE.out.other (by simp;omega) _).other (by simp;omega) _).other (by simp;omega) _,grown_setNew (grown_setNew (grown_setNew HGE.out (by simp) _) (by simp) _) (by simp) _⟩
end Go.Proofs.YtanccoopbgamdaaGreatDoor
