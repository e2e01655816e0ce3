/-
  Contracts and plain facts on which the theorem of this claim rests, text 44.
-/
import Derived.Test.YtanccoopbgamdaaGreatDoorDC3
import Derived.Test.YtanccoopbgamdaaGreatDoorDC8
import Derived.Test.YtanccoopbgamdaaGreatDoorDC10
import Derived.Test.YtanccoopbgamdaaGreatDoorDC12
import Derived.Test.YtanccoopbgamdaaGreatDoorDC43
namespace Go.Proofs.YtanccoopbgamdaaGreatDoor
open Go.RowKit
set_option linter.unusedVariables false
set_option linter.unusedSimpArgs false
noncomputable def runF (d:Dat) (s:ByteArray):Dat × List UInt8:=
 if deskOk d=true then (if s.size=0 then (d,[]) else match lineF s with | some F=>F d | none=>(d,ansWhat)) else (d,ansBad)
def DeskAns (w:World) (R:Dat × List UInt8) (e:Ending) (w':World):Prop:=
 ∃E:Dsk,e= .returned (.tuple #[E.val, .string ⟨R.2.toArray⟩])∧OwnD w' w.heap.size E∧E.dat=R.1∧SmallD E∧Below w.heap.size w w'
set_option maxRecDepth 100000 in
set_option maxHeartbeats 3200000 in
theorem impl_RunLine (D:Dsk) (s:ByteArray) (w:World) (hr:RdD w D) (hs:SmallD D) (ha:AddrD D) (hz:s.size≤1048576) (hL:LaidW w) (hbd:deskOk D.dat=true→BdD D.dat):
   Calls Tryz.prog 15 #[D.val, .string s] w (DeskAns w (runF D.dat s)):=by
 have HR:=Lib.hid hr
 have HS:=Lib.hid hs
 have HA:=Lib.hid ha
 have HLW:=Lib.hid hL
 have HBD:=Lib.hid hbd
 obtain ⟨w0,hw0⟩: ∃x,x=(w.alloc (.cells D.cells 43)).alloc (.cells #[.int .i64 0, .int .i64 0, .slice none 0 0, .int .i64 0, .int .i64 0, .slice none 0 0, .slice none 0 0] 43):=⟨_,rfl⟩
 have KA:Hid (Blk w0 w.heap.size 43 #[.int .i64 D.P.W, .int .i64 D.P.H, .slice D.P.a D.P.n D.P.c, .int .i64 D.M.W, .int .i64 D.M.H, .slice D.M.a D.M.n D.M.c, .slice D.a D.n D.c]):=Lib.hid (by rw [hw0];exact (Blk.new w _ _).alloc _)
 have KR:Hid (Blk w0 (w.heap.size+1) 43 #[.int .i64 0, .int .i64 0, .slice none 0 0, .int .i64 0, .int .i64 0, .slice none 0 0, .slice none 0 0]):=Lib.hid (by rw [hw0];exact Blk.new' _ _ (by simp))
 have HB0:Hid (Below w.heap.size w w0):=Lib.hid (by rw [hw0];exact bAlloc (bAlloc (Below.refl _ _) _) _)
 have HZ0:Hid (w0.heap.size=w.heap.size+2):=Lib.hid (by rw [hw0];simp)
 clear hr hs ha hL hbd
 show Calls Tryz.prog 15 #[.agg #[.int .i64 D.P.W, .int .i64 D.P.H, .slice D.P.a D.P.n D.P.c, .int .i64 D.M.W, .int .i64 D.M.H, .slice D.M.a D.M.n D.M.c, .slice D.a D.n D.c], .string s] w _
 go_enter Tryz.func15,Tryz.ntmps15
 go_upto_region 1 with fail
 rw [show (w.alloc (.cells #[.int .i64 D.P.W, .int .i64 D.P.H, .slice D.P.a D.P.n D.P.c, .int .i64 D.M.W, .int .i64 D.M.H, .slice D.M.a D.M.n D.M.c, .slice D.a D.n D.c] 43)).alloc (.cells #[.int .i64 0, .int .i64 0, .slice none 0 0, .int .i64 0, .int .i64 0, .slice none 0 0, .slice none 0 0] 43)=w0 from hw0.symm]
 clear hw0
 obtain ⟨l0,c0,c1,c2,c3,c4,c5,c6⟩:=KA.out.c7
 go_wp2_with fail
 refine (impl_unchangedDesk D w0 (HR.out.below HB0.out) HS.out HA.out).mono ?_
 rintro e w1 ⟨E,rfl,ho,hd,hsm,hb⟩
 have HO1:=Lib.hid ho
 have HB1:=Lib.hid hb
 have HSM:=Lib.hid hsm
 have HD:=Lib.hid hd
 have HEB:=Lib.hid ho.bd
 have KR1:=Lib.hid (KR.out.below' hb)
 clear ho hd hsm hb KA l0 c0 c1 c2 c3 c4 c5 c6
 obtain ⟨w2,hw2⟩: ∃x,x=w1.alloc (.cells E.cells 43):=⟨_,rfl⟩
 have KG2:Hid (Blk w2 w1.heap.size 43 #[.int .i64 E.P.W, .int .i64 E.P.H, .slice E.P.a E.P.n E.P.c, .int .i64 E.M.W, .int .i64 E.M.H, .slice E.M.a E.M.n E.M.c, .slice E.a E.n E.c]):=Lib.hid (by rw [hw2];exact Blk.new w1 _ _)
 have KR2:Hid (Blk w2 (w.heap.size+1) 43 #[.int .i64 0, .int .i64 0, .slice none 0 0, .int .i64 0, .int .i64 0, .slice none 0 0, .slice none 0 0]):=Lib.hid (by rw [hw2];exact KR1.out.alloc _)
 have HO2:Hid (OwnD w2 w0.heap.size E):=Lib.hid (by rw [hw2];exact HO1.out.alloc _)
 have HB2:Hid (Below w0.heap.size w0 w2):=Lib.hid (by rw [hw2];exact bAlloc HB1.out _)
 have HZ2:Hid (w2.heap.size=w1.heap.size+1):=Lib.hid (by rw [hw2];simp)
 clear KR1 HO1
 unfold Dsk.val
 go_upto_region 2 with fail
 rw [show w1.alloc (.cells #[.int .i64 E.P.W, .int .i64 E.P.H, .slice E.P.a E.P.n E.P.c, .int .i64 E.M.W, .int .i64 E.M.H, .slice E.M.a E.M.n E.M.c, .slice E.a E.n E.c] 43)=w2 from hw2.symm]
 clear hw2
 obtain ⟨l0,c0,c1,c2,c3,c4,c5,c6⟩:=KG2.out.c7
 go_wp2_with fail
 refine (impl_DeskOk E w2 HO2.out.rd HSM.out).mono ?_
 rintro e w3 ⟨rfl,hb⟩
 have KG3:=Lib.hid (KG2.out.below' hb)
 have KR3:=Lib.hid (KR2.out.below' hb)
 have HO3:=Lib.hid (HO2.out.below hb)
 have HB3:=Lib.hid (bTrans HB2.out hb)
 have HW3:=Lib.hid (bTrans HB0.out (Below.mono HB3.out (Nat.le_refl _)))
 have HZ3:=Lib.hid hb.size
 clear hb KG2 KR2 HO2 l0 c0 c1 c2 c3 c4 c5 c6
 rw [HD.out]
 by_cases hk:deskOk D.dat=true
 case neg=>
   have hk2:deskOk D.dat=false:=by simpa using hk
   have E1:Hid (runF D.dat s=(D.dat,ansBad)):=Lib.hid (by unfold runF;rw [if_neg hk])
   rw [hk2]
   obtain ⟨r0,x0,x1,x2,x3,x4,x5,x6⟩:=KR3.out.c7
   obtain ⟨f0,f1,f2,f3,f4,f5,f6⟩:=KR3.out.f7
   obtain ⟨l0,c0,c1,c2,c3,c4,c5,c6⟩:=KG3.out.c7
   go_wp2_with fail
   have hz0:=HZ0.out
   refine bodyPost_ret (v:= .tuple #[E.val, .string ⟨#[98,97,100]⟩]) (by simp [results,Tryz.results15,go_sem,Dsk.val,x0,x1,x2,x3,x4,x5,x6]) rfl ⟨E,(by rw [E1.out];try rfl),?_,?_,HSM.out,?_⟩
   · exact OwnD.mono (HO3.out.set7 (fun b hb=>by have:=HO3.out.bd b hb;omega) _ _ _ _ _ _ _) (by omega)
   · rw [HD.out,E1.out]
   · exact below_set7 HW3.out (by omega) _ _ _ _ _ _ _
 rw [hk]
 by_cases hs0:s.size=0
 case pos=>
   have hse:s=⟨#[]⟩:=by
     cases s with
     | mk d=>congr;exact Array.eq_empty_of_size_eq_zero hs0
   have E1:Hid (runF D.dat s=(D.dat,[])):=Lib.hid (by unfold runF;rw [if_pos hk,if_pos hs0])
   subst hse
   obtain ⟨r0,x0,x1,x2,x3,x4,x5,x6⟩:=KR3.out.c7
   obtain ⟨f0,f1,f2,f3,f4,f5,f6⟩:=KR3.out.f7
   obtain ⟨l0,c0,c1,c2,c3,c4,c5,c6⟩:=KG3.out.c7
   go_wp2_with fail
   have hz0:=HZ0.out
   refine bodyPost_ret (v:= .tuple #[E.val, .string ⟨#[]⟩]) (by simp [results,Tryz.results15,go_sem,Dsk.val,x0,x1,x2,x3,x4,x5,x6]) rfl ⟨E,(by rw [E1.out];try rfl),?_,?_,HSM.out,?_⟩
   · exact OwnD.mono (HO3.out.set7 (fun b hb=>by have:=HO3.out.bd b hb;omega) _ _ _ _ _ _ _) (by omega)
   · rw [HD.out,E1.out]
   · exact below_set7 HW3.out (by omega) _ _ _ _ _ _ _
 have hs2: ¬s.toList=[]:=fun e=>hs0 (by have:=bytes_lit e;rw [this];rfl)
 have hs1:s.toList.isEmpty=false:=by
   cases h:s.toList with
   | nil=>exact absurd h hs2
   | cons a b=>rfl
 clear hs2
 obtain ⟨l0,c0,c1,c2,c3,c4,c5,c6⟩:=KG3.out.c7
 go_wp2_with fail
 refine (cmd_line s w3 hz (HLW.out.below HW3.out)).mono ?_
 rintro e w4 ⟨hb,v,hcase⟩
 have KG4:=Lib.hid (KG3.out.below' hb)
 have KR4:=Lib.hid (KR3.out.below' hb)
 have HO4:=Lib.hid (HO3.out.below hb)
 have HB4:=Lib.hid (bTrans HB3.out hb)
 have HW4:=Lib.hid (bTrans HW3.out hb)
 clear hb l0 c0 c1 c2 c3 c4 c5 c6
 rcases hcase with ⟨hno,rfl⟩ | ⟨F,hF,rfl,hcv⟩
 · have E1:Hid (runF D.dat s=(D.dat,ansWhat)):=Lib.hid (by unfold runF;rw [if_pos hk,if_neg hs0,hno])
   obtain ⟨r0,x0,x1,x2,x3,x4,x5,x6⟩:=KR4.out.c7
   obtain ⟨f0,f1,f2,f3,f4,f5,f6⟩:=KR4.out.f7
   obtain ⟨l0,c0,c1,c2,c3,c4,c5,c6⟩:=KG4.out.c7
   go_wp2_with fail
   have hz0:=HZ0.out
   exact bodyPost_ret (v:= .tuple #[E.val, .string ⟨#[119,104,97,116]⟩]) (by simp [results,Tryz.results15,go_sem,Dsk.val,x0,x1,x2,x3,x4,x5,x6]) rfl ⟨E,(by rw [E1.out];try rfl),
     OwnD.mono (HO4.out.set7 (fun b hb=>by have:=HO4.out.bd b hb;omega) _ _ _ _ _ _ _) (by omega),(by rw [HD.out,E1.out]),HSM.out,below_set7 HW4.out (by omega) _ _ _ _ _ _ _⟩
 have E1:Hid (runF D.dat s=F D.dat):=Lib.hid (by unfold runF;rw [if_pos hk,if_neg hs0,hF])
 obtain ⟨T,h,p,hmem,rfl,hperf⟩:=hcv
 have hz0:=HZ0.out
 have hz2:=HZ2.out
 have hz3:=HZ3.out
 have hin:PerfIn w4 w0.heap.size w1.heap.size E:=⟨KG4.out,HO4.out,fun b hb=>by have:=HEB.out b hb;omega,HSM.out,by rw [HD.out];exact hk,by have:=HB1.out.size;omega,HLW.out.below HW4.out,by have:=HLW.out.size;omega⟩
 have hcall:=hperf w0.heap.size w1.heap.size E hin (by have:=HB3.out.size;omega) (by omega) (fun b hb=>by have:=HEB.out b hb;omega) (by rw [HD.out];exact HBD.out hk)
 have HC:=Lib.hid hcall
 clear hin hcall hperf
 have hm0: ∀(p:Value) (w:World),(method 412 122 p "loop.example/g03229/impl.perform").run Tryz.prog w= .ok (246,p) w:=fun _ _=>by kernel_rfl
 have hm1: ∀(p:Value) (w:World),(method 412 106 p "loop.example/g03229/impl.perform").run Tryz.prog w= .ok (243,p) w:=fun _ _=>by kernel_rfl
 have hm2: ∀(p:Value) (w:World),(method 412 108 p "loop.example/g03229/impl.perform").run Tryz.prog w= .ok (244,p) w:=fun _ _=>by kernel_rfl
 have hm3: ∀(p:Value) (w:World),(method 412 113 p "loop.example/g03229/impl.perform").run Tryz.prog w= .ok (245,p) w:=fun _ _=>by kernel_rfl
 have hm4: ∀(p:Value) (w:World),(method 412 129 p "loop.example/g03229/impl.perform").run Tryz.prog w= .ok (247,p) w:=fun _ _=>by kernel_rfl
 simp only [performs,List.mem_cons,List.mem_nil_iff,or_false,Prod.mk.injEq] at hmem
 rcases hmem with ⟨rfl,rfl⟩ | ⟨rfl,rfl⟩ | ⟨rfl,rfl⟩ | ⟨rfl,rfl⟩ | ⟨rfl,rfl⟩
 all_goals (
   go_wp2_with fail
   refine HC.out.mono ?_
   rintro e w5 ⟨E2,rfl,kg,how,hoff,hdat,hsm2,hb⟩
   have KG5:=Lib.hid kg
   have HO5:=Lib.hid how
   have HSM5:=Lib.hid hsm2
   have HDAT:=Lib.hid hdat
   have HW5:=Lib.hid (Below.trans HW4.out (hb.mono (by omega)))
   have KR5:=Lib.hid (KR4.out.below hb (by omega))
   clear kg how hoff hdat hsm2 hb
   obtain ⟨r0,x0,x1,x2,x3,x4,x5,x6⟩:=KR5.out.c7
   obtain ⟨f0,f1,f2,f3,f4,f5,f6⟩:=KR5.out.f7
   obtain ⟨l0,c0,c1,c2,c3,c4,c5,c6⟩:=(show Blk w5 w1.heap.size 43 #[.int .i64 E2.P.W, .int .i64 E2.P.H, .slice E2.P.a E2.P.n E2.P.c, .int .i64 E2.M.W, .int .i64 E2.M.H, .slice E2.M.a E2.M.n E2.M.c, .slice E2.a E2.n E2.c] from KG5.out).c7
   go_wp2_with fail
   exact bodyPost_ret (v:= .tuple #[E2.val, .string ⟨(F E.dat).2.toArray⟩]) (by simp [results,Tryz.results15,go_sem,Dsk.val,x0,x1,x2,x3,x4,x5,x6]) rfl ⟨E2,(by rw [E1.out,HD.out]),
     OwnD.mono (HO5.out.set7 (fun b hb=>by have:=HO5.out.bd b hb;omega) _ _ _ _ _ _ _) (by omega),(by rw [HDAT.out,HD.out,E1.out]),HSM5.out,below_set7 HW5.out (by omega) _ _ _ _ _ _ _⟩)
end Go.Proofs.YtanccoopbgamdaaGreatDoor
namespace Go.Proofs.YtanccoopbgamdaaGreatDoor
set_option linter.unusedVariables false
set_option linter.unusedSimpArgs false
theorem picOk_mk {W H:Int} {xs:List Int} {m:Int} {n:Nat} (hs:sizeOk W H=true) (hn:xs.length=n) (hq:(n:Int)=W*H) (hw:within xs m=true):picOk W H xs m=true:=by
 rw [picOk_in hn hs hq];exact hw
end Go.Proofs.YtanccoopbgamdaaGreatDoor
namespace Go.Proofs.YtanccoopbgamdaaGreatDoor
open Go.RowKit
set_option linter.unusedVariables false
set_option linter.unusedSimpArgs false
structure OkD (d:Dat):Prop where
 p:picOk d.1.W d.1.H d.1.ink 255=true
 m:matOk d.2.1.W d.2.1.H d.2.1.ink=true
 n:d.2.2.length≤4
 s: ∀q,q ∈ d.2.2→picOk q.W q.H q.ink 1=true∧q.W=d.1.W∧q.H=d.1.H
theorem getD0_mem {L:List Pic} (h:1≤L.length):L.getD 0 noPic ∈ L:=by
 rw [List.getD_eq_getElem?_getD,List.getElem?_eq_getElem (by omega)];exact List.getElem_mem _
theorem okD_iff (d:Dat):deskOk d=true↔OkD d:=by
 unfold deskOk
 simp only [Bool.and_eq_true,Bool.or_eq_true,decide_eq_true_eq]
 constructor
 · rintro ⟨⟨hp,hm⟩,hs⟩
   refine ⟨hp,hm,?_,?_⟩
   · rcases hs with hs | ⟨hs,_⟩
     · omega
     · exact (stack_bd hs).2.1
   · intro q hq
     rcases hs with hs | ⟨hs,h1,h2⟩
     · have:=List.length_pos_of_mem hq;omega
     · obtain ⟨_,_,h⟩:=stack_bd hs
       obtain ⟨k,hk,rfl⟩:=List.getElem_of_mem hq
       have:=h k hk
       rw [show d.2.2.getD k noPic=d.2.2[k] by rw [List.getD_eq_getElem?_getD,List.getElem?_eq_getElem hk];rfl] at this
       exact ⟨this.1,this.2.1.trans h1,this.2.2.trans h2⟩
 · intro h
   refine ⟨⟨h.p,h.m⟩,?_⟩
   by_cases h0:d.2.2.length=0
   · exact .inl h0
   · have hg:=h.s _ (getD0_mem (L:=d.2.2) (by omega))
     refine .inr ⟨?_,hg.2.1,hg.2.2⟩
     unfold stackOk
     simp only [Bool.and_eq_true,decide_eq_true_eq,List.all_eq_true]
     exact ⟨⟨by omega,h.n⟩,fun q hq=>⟨(h.s q hq).1,(h.s q hq).2.1.trans hg.2.1.symm,(h.s q hq).2.2.trans hg.2.2.symm⟩⟩
theorem within_genV {n:Nat} {m:Int} {f:Nat→Int} (h: ∀i,i<n→0≤f i∧f i≤m):within (gen n f) m=true:=by
 unfold within gen
 rw [List.all_eq_true]
 intro x hx
 simp only [List.mem_map,List.mem_range] at hx
 obtain ⟨i,hi,rfl⟩:=hx
 have:=h i hi
 simp only [Bool.and_eq_true,decide_eq_true_eq]
 omega
def Kept (F:Dat→Dat × List UInt8):Prop:= ∀d,OkD d→OkD (F d).1
theorem kept_pic (p:Pic):Kept (actPic p):=by
 intro d h
 unfold actPic
 split
 · rename_i hp;exact ⟨hp,h.m,by simp,by simp⟩
 · exact h
theorem kept_mat (f:Pic→Pic):Kept (actMat f):=by
 intro d h
 unfold actMat
 split
 · rename_i hp;exact ⟨h.p,hp,h.n,h.s⟩
 · exact h
theorem kept_level (i:Int):Kept (actLevel i):=fun d h=>h
theorem kept_plate (f:Dat→Pic × List UInt8) (hf: ∀d,OkD d→picOk (f d).1.W (f d).1.H (f d).1.ink 1=true∧(f d).1.W=d.1.W∧(f d).1.H=d.1.H):Kept (actPlate f):=by
 intro d h
 unfold actPlate
 split
 · exact h
 · rename_i hl
   refine ⟨h.p,h.m,?_,?_⟩
   · have:=h.n
     simp only [List.length_append,List.length_singleton]
     omega
   · intro q hq
     rcases List.mem_append.1 hq with hq | hq
     · exact h.s q hq
     · rw [List.mem_singleton.1 hq];exact hf d h
theorem kept_last (F:Dat→Pic→Dat × List UInt8) (hF: ∀d q,OkD d→q ∈ d.2.2→OkD (F d q).1):Kept (actLast F):=by
 intro d h
 unfold actLast
 split
 · exact h
 · rename_i hl
   exact hF d _ h (by rw [List.getD_eq_getElem?_getD,List.getElem?_eq_getElem (by omega)];exact List.getElem_mem _)
theorem kept_change (f:Pic→Pic) (hf: ∀q:Pic,picOk q.W q.H q.ink 1=true→picOk (f q).W (f q).H (f q).ink 1=true∧(f q).W=q.W∧(f q).H=q.H): ∀d q,OkD d→q ∈ d.2.2→OkD (changeT f d q).1:=by
 intro d q h hq
 refine ⟨h.p,h.m,by simp only [changeT,List.length_set];exact h.n,?_⟩
 intro r hr
 rcases List.mem_or_eq_of_mem_set hr with hr | rfl
 · exact h.s r hr
 · have a:=h.s q hq
   have b:=hf q a.1
   exact ⟨b.1,b.2.1.trans a.2.1,b.2.2.trans a.2.2⟩
theorem kept_drop: ∀d q,OkD d→q ∈ d.2.2→OkD (dropT d q).1:=by
 intro d q h hq
 refine ⟨h.p,h.m,?_,fun r hr=>h.s r (List.mem_of_mem_take hr)⟩
 have:=h.n
 simp only [dropT,List.length_take]
 omega
theorem grow_keeps (m:Nat): ∀q:Pic,picOk q.W q.H q.ink 1=true→picOk (growT m q).W (growT m q).H (growT m q).ink 1=true∧(growT m q).W=q.W∧(growT m q).H=q.H:=by
 intro q h
 unfold growT
 rw [growF_yes rfl h]
 exact ⟨grow_plate h,rfl,rfl⟩
theorem bit_at {xs:List Int} (h:within xs 1=true) (k:Nat):0≤xs.getD k 0∧xs.getD k 0≤1:=by
 unfold within at h
 rw [List.all_eq_true] at h
 by_cases hk:k<xs.length
 · have:=h (xs.getD k 0) (by rw [List.getD_eq_getElem?_getD,List.getElem?_eq_getElem hk];exact List.getElem_mem hk)
   simp only [Bool.and_eq_true,decide_eq_true_eq] at this
   omega
 · rw [List.getD_eq_getElem?_getD,List.getElem?_eq_none (by omega)];simp
theorem mir_keeps: ∀q:Pic,picOk q.W q.H q.ink 1=true→picOk (mirT2 q).W (mirT2 q).H (mirT2 q).ink 1=true∧(mirT2 q).W=q.W∧(mirT2 q).H=q.H:=by
 intro q h
 obtain ⟨hs,hq,hw⟩:=picOk_bd rfl h
 unfold mirT2
 rw [mirF_yes (picOk_le h) hq]
 exact ⟨picOk_mk hs (gen_len _ _) hq (within_genV (fun i _=>bit_at hw _)),rfl,rfl⟩
theorem plate_screenT: ∀d,OkD d→picOk (screenT d).1.W (screenT d).1.H (screenT d).1.ink 1=true∧(screenT d).1.W=d.1.W∧(screenT d).1.H=d.1.H:=by
 intro d h
 obtain ⟨hs,hq,hw⟩:=picOk_bd rfl h.p
 unfold screenT screenF
 rw [if_pos ⟨h.m,h.p⟩]
 exact ⟨picOk_mk hs (gen_len _ _) hq (within_genV (fun i _=>by unfold dotG;split <;>omega)),rfl,rfl⟩
theorem plate_diffT {ks:List Prt} {alt:Bool} (hk:kernOk ks=true): ∀d,OkD d→picOk (diffT ks alt d).1.W (diffT ks alt d).1.H (diffT ks alt d).1.ink 1=true∧(diffT ks alt d).1.W=d.1.W∧(diffT ks alt d).1.H=d.1.H:=by
 intro d h
 obtain ⟨hs,hq,hw⟩:=picOk_bd rfl h.p
 unfold diffT
 rw [diffF_yes rfl hk h.p]
 have r:RunOk alt ks d.1.W d.1.H d.1.ink d.1.ink.length:=RunOk.of rfl hk h.p
 obtain ⟨_,_,_,_,_,b6⟩:=run_inv r d.1.ink.length (Nat.le_refl _)
 have hl:(runG alt ks d.1.W d.1.H d.1.ink d.1.ink.length).dots.length=d.1.ink.length:=(run_len d.1.ink.length).1
 exact ⟨picOk_mk hs hl hq b6,rfl,rfl⟩
theorem kept_plain {l:List UInt8} {F:Dat→Dat × List UInt8} (hF:plainF l=some F):Kept F:=by
 unfold plainF at hF
 by_cases h:l=[101,114,114,111,114]
 · rw [if_pos h] at hF
   cases hF
   exact kept_last _ (fun d q h hq=>h)
 rw [if_neg h] at hF
 clear h
 by_cases h:l=[99,111,117,110,116,115]
 · rw [if_pos h] at hF
   cases hF
   exact kept_last _ (fun d q h hq=>h)
 rw [if_neg h] at hF
 clear h
 by_cases h:l=[109,101,97,110]
 · rw [if_pos h] at hF
   cases hF
   exact kept_last _ (fun d q h hq=>h)
 rw [if_neg h] at hF
 clear h
 by_cases h:l=[114,117,110,115]
 · rw [if_pos h] at hF
   cases hF
   exact kept_last _ (fun d q h hq=>h)
 rw [if_neg h] at hF
 clear h
 by_cases h:l=[115,104,111,119]
 · rw [if_pos h] at hF
   cases hF
   exact kept_last _ (fun d q h hq=>h)
 rw [if_neg h] at hF
 clear h
 by_cases h:l=[100,114,111,112]
 · rw [if_pos h] at hF
   cases hF
   exact kept_last _ kept_drop
 rw [if_neg h] at hF
 clear h
 by_cases h:l=[109,105,114,114,111,114]
 · rw [if_pos h] at hF
   cases hF
   exact kept_last _ (kept_change _ mir_keeps)
 rw [if_neg h] at hF
 clear h
 by_cases h:l=[115,104,114,105,110,107]
 · rw [if_pos h] at hF
   cases hF
   exact kept_last _ (kept_change _ (grow_keeps _))
 rw [if_neg h] at hF
 clear h
 by_cases h:l=[103,114,111,119]
 · rw [if_pos h] at hF
   cases hF
   exact kept_last _ (kept_change _ (grow_keeps _))
 rw [if_neg h] at hF
 clear h
 by_cases h:l=[100,105,102,102,117,115,101,32,112,108,97,105,110,32,98,111,116,104]
 · rw [if_pos h] at hF
   cases hF
   exact kept_plate _ (plate_diffT (by decide))
 rw [if_neg h] at hF
 clear h
 by_cases h:l=[100,105,102,102,117,115,101,32,112,108,97,105,110,32,108,101,102,116]
 · rw [if_pos h] at hF
   cases hF
   exact kept_plate _ (plate_diffT (by decide))
 rw [if_neg h] at hF
 clear h
 by_cases h:l=[100,105,102,102,117,115,101,32,115,116,101,105,110,32,98,111,116,104]
 · rw [if_pos h] at hF
   cases hF
   exact kept_plate _ (plate_diffT (by decide))
 rw [if_neg h] at hF
 clear h
 by_cases h:l=[100,105,102,102,117,115,101,32,115,116,101,105,110,32,108,101,102,116]
 · rw [if_pos h] at hF
   cases hF
   exact kept_plate _ (plate_diffT (by decide))
 rw [if_neg h] at hF
 clear h
 by_cases h:l=[115,99,114,101,101,110]
 · rw [if_pos h] at hF
   cases hF
   exact kept_plate _ plate_screenT
 rw [if_neg h] at hF
 clear h
 by_cases h:l=[114,101,118,101,114,115,101]
 · rw [if_pos h] at hF
   cases hF
   exact kept_mat _
 rw [if_neg h] at hF
 clear h
 cases hF
theorem kept_num {l:List UInt8} {xs:List Int} {F:Dat→Dat × List UInt8} (hF:numF l xs=some F):Kept F:=by
 unfold numF at hF
 by_cases h:l=[102,108,97,116]∧xs.length=3
 · rw [if_pos h] at hF
   cases hF
   exact kept_pic _
 rw [if_neg h] at hF
 clear h
 by_cases h:l=[114,97,109,112]∧xs.length=2
 · rw [if_pos h] at hF
   cases hF
   exact kept_pic _
 rw [if_neg h] at hF
 clear h
 by_cases h:l=[98,97,121,101,114]∧xs.length=1
 · rw [if_pos h] at hF
   cases hF
   exact kept_mat _
 rw [if_neg h] at hF
 clear h
 by_cases h:l=[115,112,105,114,97,108]∧xs.length=1
 · rw [if_pos h] at hF
   cases hF
   exact kept_mat _
 rw [if_neg h] at hF
 clear h
 by_cases h:l=[115,112,111,116]∧xs.length=2
 · rw [if_pos h] at hF
   cases hF
   exact kept_mat _
 rw [if_neg h] at hF
 clear h
 by_cases h:l=[114,97,110,107]∧xs.length=3
 · rw [if_pos h] at hF
   cases hF
   exact kept_mat _
 rw [if_neg h] at hF
 clear h
 by_cases h:l=[115,104,105,102,116]∧xs.length=2
 · rw [if_pos h] at hF
   cases hF
   exact kept_mat _
 rw [if_neg h] at hF
 clear h
 by_cases h:l=[108,101,118,101,108]∧xs.length=1
 · rw [if_pos h] at hF
   cases hF
   exact kept_level _
 rw [if_neg h] at hF
 clear h
 cases hF
theorem runF_kept {d:Dat} (s:ByteArray) (h:deskOk d=true):deskOk (runF d s).1=true:=by
 rw [okD_iff] at h⊢
 unfold runF
 split
 · split
   · exact h
   · split
     · rename_i F hF
       unfold lineF at hF
       split at hF
       · rename_i G hG
         cases hF
         exact kept_plain hG d h
       · split at hF
         · exact kept_num hF d h
         · cases hF
     · exact h
 · exact h
theorem addr_of {w:World} {D:Dsk} (h:RdD w D) (hk:deskOk D.dat=true):AddrD D:=by
 have o:=(okD_iff _).1 hk
 have q: ∀(W H m:Int) (a:Option Addr) (xs:List Int),picOk W H xs m=true→Rd w a xs→ ∃b off,a=some ⟨b,off,none⟩:=by
   intro W H m a xs hp hr
   obtain ⟨b,off,e,_,_⟩:=hr.at (by have:=(pic_size hp).1;omega)
   exact ⟨b,off,e⟩
 refine ⟨q _ _ _ _ _ o.p h.pr,?_,fun k hkk=>?_⟩
 · have hm:=o.m
   unfold matOk at hm
   simp only [Bool.and_eq_true,decide_eq_true_eq] at hm
   have hz:=matSize_bd hm.1
   have hl:(D.M.ink.length:Int)=D.M.W*D.M.H:=hm.2.1
   have hz2:1≤D.M.W*D.M.H:=hz.2.2.2.2.2
   obtain ⟨b,off,e,_,_⟩:=h.mr.at (by omega)
   exact ⟨b,off,e⟩
 · have hp:=(o.s _ (pic_mem hkk)).1
   obtain ⟨b,off,_,_,_,_,_,hl,hrd⟩:=h.sr k hkk
   exact q _ _ _ _ _ hp hrd
theorem impl_RunLineA (D:Dsk) (s:ByteArray) (w:World) (hr:RdD w D) (hs:SmallD D) (ha:AddrD D) (hz:s.size≤1048576) (hL:LaidW w):
   Calls Tryz.prog 15 #[D.val, .string s] w (DeskAns w (runF D.dat s)):=impl_RunLine D s w hr hs ha hz hL bd_of
theorem replaceK_len: ∀(k:Nat) (s:List UInt8),(Lib.replaceK [10] [47] k s).length≤s.length+k
 | 0,s=>Nat.le_refl _
 | k +1,s=>by
   unfold Lib.replaceK
   split
   · omega
   · have ih:=replaceK_len k (s.drop ((Lib.index s [10]).toNat+1))
     simp only [List.length_append,List.length_take,List.length_drop,List.length_singleton] at ih⊢
     omega
theorem show_len {d:Dat} {q:Pic} (h:(textF q.W q.H q.ink).length≤1048576):(showT d q).2.length≤4194304:=by
 unfold showT Lib.replaceAll Lib.replace
 have h2:=trim_len (textF q.W q.H q.ink) [10]
 dsimp only
 split
 · omega
 · have h3:=replaceK_len (Lib.replaceNum (Lib.trimSuffix (textF q.W q.H q.ink) [10]) [10] (-1)) (Lib.trimSuffix (textF q.W q.H q.ink) [10])
   have h4:=Lib.count_le (Lib.trimSuffix (textF q.W q.H q.ink) [10]) [10]
   have h5:Lib.replaceNum (Lib.trimSuffix (textF q.W q.H q.ink) [10]) [10] (-1)=Lib.count (Lib.trimSuffix (textF q.W q.H q.ink) [10]) [10]:=by unfold Lib.replaceNum;rw [if_pos (.inl (by omega))]
   omega
theorem textI_len {xs:List Int} (h: ∀x,x ∈ xs→InI64 x):(textI xs).length≤22*xs.length:=by
 unfold textI
 have:=join_len [32] (by simp) (xs.map Lib.itoa) (fun x hx=>by
   obtain ⟨v,hv,rfl⟩:=List.mem_map.1 hx
   exact Lib.itoa_length_le v (h v hv).1 (h v hv).2)
 rwa [List.length_map] at this
theorem toldN {xs:List Int} (h:xs.length≤4096∧ ∀x,x ∈ xs→InI64 x):(textI xs).length≤4194304:=by
 have:=textI_len h.2
 omega
theorem told1 {x:Int} (h:InI64 x):(textI [x]).length≤4194304:=toldN ⟨by simp,fun y hy=>by rw [List.mem_singleton.1 hy];exact h⟩
theorem told2 {x y:Int} (h:InI64 x∧InI64 y):(textI [x,y]).length≤4194304:=toldN ⟨by simp,fun z hz=>by
 simp only [List.mem_cons,List.mem_nil_iff,or_false] at hz
 rcases hz with rfl | rfl
 · exact h.1
 · exact h.2⟩
def TL (F:Dat→Dat × List UInt8):Prop:= ∀d,OkD d→(F d).2.length≤4194304
theorem tl_pic (p:Pic):TL (actPic p):=fun d h=>by unfold actPic;split <;>simp [ansOk,ansNo]
theorem tl_mat (f:Pic→Pic):TL (actMat f):=fun d h=>by unfold actMat;split <;>simp [ansOk,ansNo]
theorem tl_level (i:Int):TL (actLevel i):=fun d h=>by
 unfold actLevel
 dsimp only
 split
 · simp [ansNo]
 · have:=levelOf_fits d.2.1.W d.2.1.H d.2.1.ink i
   exact told1 ⟨by omega,by omega⟩
theorem tl_plate (f:Dat→Pic × List UInt8) (hf: ∀d,OkD d→(f d).2.length≤4194304):TL (actPlate f):=fun d h=>by
 unfold actPlate
 split
 · simp [ansFull]
 · exact hf d h
theorem tl_last (F:Dat→Pic→Dat × List UInt8) (hF: ∀d q,OkD d→q ∈ d.2.2→(F d q).2.length≤4194304):TL (actLast F):=fun d h=>by
 unfold actLast
 split
 · simp [ansNone]
 · rename_i hl
   exact hF d _ h (by rw [List.getD_eq_getElem?_getD,List.getElem?_eq_getElem (by omega)];exact List.getElem_mem _)
theorem tl_plain {l:List UInt8} {F:Dat→Dat × List UInt8} (hF:plainF l=some F):TL F:=by
 unfold plainF at hF
 by_cases h:l=[101,114,114,111,114]
 · rw [if_pos h] at hF
   cases hF
   exact tl_last _ (fun d q h hq=>told1 ((bd_of ((okD_iff d).2 h)).err q hq))
 rw [if_neg h] at hF
 clear h
 by_cases h:l=[99,111,117,110,116,115]
 · rw [if_pos h] at hF
   cases hF
   exact tl_last _ (fun d q h hq=>toldN (bd_of ((okD_iff d).2 h)).counts)
 rw [if_neg h] at hF
 clear h
 by_cases h:l=[109,101,97,110]
 · rw [if_pos h] at hF
   cases hF
   exact tl_last _ (fun d q h hq=>told2 ((bd_of ((okD_iff d).2 h)).mean q hq))
 rw [if_neg h] at hF
 clear h
 by_cases h:l=[114,117,110,115]
 · rw [if_pos h] at hF
   cases hF
   exact tl_last _ (fun d q h hq=>toldN ((bd_of ((okD_iff d).2 h)).runs q hq))
 rw [if_neg h] at hF
 clear h
 by_cases h:l=[115,104,111,119]
 · rw [if_pos h] at hF
   cases hF
   exact tl_last _ (fun d q h hq=>show_len ((bd_of ((okD_iff d).2 h)).text q hq))
 rw [if_neg h] at hF
 clear h
 by_cases h:l=[100,114,111,112]
 · rw [if_pos h] at hF
   cases hF
   exact tl_last _ (fun d q h hq=>by simp [dropT,ansOk])
 rw [if_neg h] at hF
 clear h
 by_cases h:l=[109,105,114,114,111,114]
 · rw [if_pos h] at hF
   cases hF
   exact tl_last _ (fun d q h hq=>by simp [changeT,ansOk])
 rw [if_neg h] at hF
 clear h
 by_cases h:l=[115,104,114,105,110,107]
 · rw [if_pos h] at hF
   cases hF
   exact tl_last _ (fun d q h hq=>by simp [changeT,ansOk])
 rw [if_neg h] at hF
 clear h
 by_cases h:l=[103,114,111,119]
 · rw [if_pos h] at hF
   cases hF
   exact tl_last _ (fun d q h hq=>by simp [changeT,ansOk])
 rw [if_neg h] at hF
 clear h
 by_cases h:l=[100,105,102,102,117,115,101,32,112,108,97,105,110,32,98,111,116,104]
 · rw [if_pos h] at hF
   cases hF
   exact tl_plate _ (fun d h=>told1 ((bd_of ((okD_iff d).2 h)).plain _))
 rw [if_neg h] at hF
 clear h
 by_cases h:l=[100,105,102,102,117,115,101,32,112,108,97,105,110,32,108,101,102,116]
 · rw [if_pos h] at hF
   cases hF
   exact tl_plate _ (fun d h=>told1 ((bd_of ((okD_iff d).2 h)).plain _))
 rw [if_neg h] at hF
 clear h
 by_cases h:l=[100,105,102,102,117,115,101,32,115,116,101,105,110,32,98,111,116,104]
 · rw [if_pos h] at hF
   cases hF
   exact tl_plate _ (fun d h=>told1 ((bd_of ((okD_iff d).2 h)).stein _))
 rw [if_neg h] at hF
 clear h
 by_cases h:l=[100,105,102,102,117,115,101,32,115,116,101,105,110,32,108,101,102,116]
 · rw [if_pos h] at hF
   cases hF
   exact tl_plate _ (fun d h=>told1 ((bd_of ((okD_iff d).2 h)).stein _))
 rw [if_neg h] at hF
 clear h
 by_cases h:l=[115,99,114,101,101,110]
 · rw [if_pos h] at hF
   cases hF
   exact tl_plate _ (fun d h=>by simp [screenT,ansOk])
 rw [if_neg h] at hF
 clear h
 by_cases h:l=[114,101,118,101,114,115,101]
 · rw [if_pos h] at hF
   cases hF
   exact tl_mat _
 rw [if_neg h] at hF
 clear h
 cases hF
theorem tl_num {l:List UInt8} {xs:List Int} {F:Dat→Dat × List UInt8} (hF:numF l xs=some F):TL F:=by
 unfold numF at hF
 by_cases h:l=[102,108,97,116]∧xs.length=3
 · rw [if_pos h] at hF
   cases hF
   exact tl_pic _
 rw [if_neg h] at hF
 clear h
 by_cases h:l=[114,97,109,112]∧xs.length=2
 · rw [if_pos h] at hF
   cases hF
   exact tl_pic _
 rw [if_neg h] at hF
 clear h
 by_cases h:l=[98,97,121,101,114]∧xs.length=1
 · rw [if_pos h] at hF
   cases hF
   exact tl_mat _
 rw [if_neg h] at hF
 clear h
 by_cases h:l=[115,112,105,114,97,108]∧xs.length=1
 · rw [if_pos h] at hF
   cases hF
   exact tl_mat _
 rw [if_neg h] at hF
 clear h
 by_cases h:l=[115,112,111,116]∧xs.length=2
 · rw [if_pos h] at hF
   cases hF
   exact tl_mat _
 rw [if_neg h] at hF
 clear h
 by_cases h:l=[114,97,110,107]∧xs.length=3
 · rw [if_pos h] at hF
   cases hF
   exact tl_mat _
 rw [if_neg h] at hF
 clear h
 by_cases h:l=[115,104,105,102,116]∧xs.length=2
 · rw [if_pos h] at hF
   cases hF
   exact tl_mat _
 rw [if_neg h] at hF
 clear h
 by_cases h:l=[108,101,118,101,108]∧xs.length=1
 · rw [if_pos h] at hF
   cases hF
   exact tl_level _
 rw [if_neg h] at hF
 clear h
 cases hF
theorem runF_len {d:Dat} (s:ByteArray) (h:deskOk d=true):(runF d s).2.length≤4194304:=by
 have ho:=(okD_iff d).1 h
 unfold runF
 rw [if_pos h]
 split
 · simp
 · split
   · rename_i F hF
     unfold lineF at hF
     split at hF
     · rename_i G hG
       cases hF
       exact tl_plain hG d ho
     · split at hF
       · exact tl_num hF d ho
       · cases hF
   · simp [ansWhat]
end Go.Proofs.YtanccoopbgamdaaGreatDoor
