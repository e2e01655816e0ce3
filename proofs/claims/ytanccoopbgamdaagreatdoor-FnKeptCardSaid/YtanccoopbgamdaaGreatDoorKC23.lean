/-
  Contracts and plain facts on which the theorem of this claim rests, text 23.
-/
import Derived.Test.YtanccoopbgamdaaGreatDoorKC4
import Derived.Test.YtanccoopbgamdaaGreatDoorKC9
import Derived.Test.YtanccoopbgamdaaGreatDoorKC10
import Derived.Test.YtanccoopbgamdaaGreatDoorKC21
import Derived.Test.YtanccoopbgamdaaGreatDoorKC22
namespace Go.Proofs.YtanccoopbgamdaaGreatDoor
open Go.RowKit
set_option linter.unusedVariables false
set_option linter.unusedSimpArgs false
set_option maxHeartbeats 6400000 in
theorem impl_SpiralMatrix (ss:Int) (w:World):Calls Tryz.prog 94 #[.int .i64 ss] w (MatOut2 w (spiralF ss)):=by
 by_cases hs:1≤ss∧ss≤16
 case neg=>
   rw [spiralF_no hs]
   go_enter Tryz.func94,Tryz.ntmps94
   go_wp2_with fail
   all_goals first | (exfalso;exact hs ⟨by omega,by omega⟩) | skip
   all_goals (
     skip
     exact bodyPost_ret (v:= .tuple #[.agg #[.int .i64 0, .int .i64 0, .slice none 0 0], .bool false]) (by simp [results,Tryz.results94,go_sem]) rfl ⟨none,0,0,rfl,OwnA.none _ _,by omega,Joins.below_alloc1 _ _⟩
     )
 case pos=>
   obtain ⟨s,rfl⟩: ∃s:Nat,ss=(s:Int):=⟨ss.toNat,by omega⟩
   have s1:1≤s:=by omega
   have s2:s≤16:=by omega
   rw [spiralF_yes s1 s2]
   obtain ⟨n,hn⟩: ∃n:Nat,n=s*s:=⟨_,rfl⟩
   have HN:=Lib.hid hn
   have HQ:Hid ((n:Int)=(s:Int)*(s:Int)):=Lib.hid (by rw [hn];simp)
   have hn2:n≤256:=by rw [hn];exact Nat.mul_le_mul s2 s2
   have hn1:1≤n:=by rw [hn];exact Nat.mul_le_mul s1 s1
   have HF:=Lib.hid (sp_facts s s1 s2)
   have HS:Hid (matSize (s:Int) (s:Int)=true):=Lib.hid (by unfold matSize;simp;have:=HQ.out;omega)
   rw [←HN.out]
   clear hn
   go_enter Tryz.func94,Tryz.ntmps94
   go_wp2_with fail
   refine (impl_blankM s s n _ HS.out HQ.out).mono ?_
   rintro e w2 ⟨g,rfl,hg,ho,hb⟩
   have HB2:=Lib.hid ((Joins.below_alloc1 w (.cells #[.int .i64 0, .int .i64 0, .slice none 0 0] 31)).trans (hb.mono (by simp)))
   have KR2:=Lib.hid ((Blk.new w 31 #[.int .i64 0, .int .i64 0, .slice none 0 0]).below' hb)
   have HO:=Lib.hid ho
   have HG:Hid (w.heap.size+1≤g):=Lib.hid (by simpa using hg)
   clear hb hg ho
   go_wp2_with (refine wp_makeMap _ rfl rfl ?_)
   obtain ⟨q,hq⟩: ∃q,q=w2.heap.size:=⟨_,rfl⟩
   obtain ⟨w5,hw5⟩: ∃w5,w5=((((w2.alloc (.cells #[.int .i64 s, .int .i64 s, .slice (some ⟨g,0,none⟩) n n] 31)).alloc (.map #[] 0)).alloc (.cells #[.int .i64 0, .int .i64 0] 149)).alloc (.cells #[.int .i64 1, .int .i64 0] 149)):=⟨_,rfl⟩
   have hg2:=HO.out.lt
   have hr2:=KR2.out.lt
   have KT5:Hid (Blk w5 q 31 #[.int .i64 s, .int .i64 s, .slice (some ⟨g,0,none⟩) n n]):=Lib.hid (by rw [hw5,hq];exact (((Blk.new w2 _ _).alloc _).alloc _).alloc _)
   have HV5:Hid (VM w5 (q+1) 0 (fun _ _=>false)):=Lib.hid (by rw [hw5,hq];have h:=((vm_made (w2.alloc (.cells #[.int .i64 s, .int .i64 s, .slice (some ⟨g,0,none⟩) n n] 31))).alloc (.cells #[.int .i64 0, .int .i64 0] 149)).alloc (.cells #[.int .i64 1, .int .i64 0] 149);simpa using h)
   have KA5:Hid (Blk w5 (q+1+1) 149 #[.int .i64 0, .int .i64 0]):=Lib.hid (by rw [hw5,hq];exact (Blk.new' (w:=(w2.alloc _).alloc _) _ _ (by simp)).alloc _)
   have KS5:Hid (Blk w5 (q+1+1+1) 149 #[.int .i64 1, .int .i64 0]):=Lib.hid (by rw [hw5,hq];exact Blk.new' _ _ (by simp))
   have HO5:Hid (Own w5 g n n (cl (spState s 0).r)):=Lib.hid (by rw [hw5];simp only [spState,spInit];rw [←HN.out,cl_start];exact (((HO.out.alloc _).alloc _).alloc _).alloc _)
   have KR5:Hid (Blk w5 w.heap.size 31 #[.int .i64 0, .int .i64 0, .slice none 0 0]):=Lib.hid (by rw [hw5];exact (((KR2.out.alloc _).alloc _).alloc _).alloc _)
   have HB5:Hid (Below w.heap.size w w5):=Lib.hid (by rw [hw5];exact bAlloc (bAlloc (bAlloc (bAlloc HB2.out _) _) _) _)
   rw [←hw5,←hq]
   have HGQ:Hid (g<q):=Lib.hid (by omega)
   have HRQ:Hid (w.heap.size<g):=Lib.hid (by have:=HG.out;omega)
   clear hw5 hq hg2 hr2 HO KR2 HB2
   go_loopw [26] (fun i wr=> ∃(k:Nat) (t:Sp) (S:Int→Int→Bool),k≤n∧i= .int .i64 k∧Hid (t=spState s k)∧Hid (∀u v,0≤u∧u≤(s:Int) - 1→0≤v∧v≤(s:Int) - 1→S u v=decide (0≤t.r.getD (v*s+u).toNat 0))∧Own wr g n n (cl t.r)∧VM wr (q+1) k S∧Blk wr q 31 #[.int .i64 s, .int .i64 s, .slice (some ⟨g,0,none⟩) n n]∧
     Blk wr (q+1+1) 149 #[.int .i64 t.x, .int .i64 t.y]∧Blk wr (q+1+1+1) 149 #[.int .i64 t.dx, .int .i64 t.dy]∧Blk wr w.heap.size 31 #[.int .i64 0, .int .i64 0, .slice none 0 0]∧Below w.heap.size w wr) (fun i _=>n - (intOf i).toNat)
   case atStart=>exact ⟨0,spState s 0,fun _ _=>false,Nat.zero_le _,rfl,Lib.hid rfl,Lib.hid (fun u v hu hv=>sp_start hu hv),HO5.out,HV5.out,KT5.out,KA5.out,KS5.out,KR5.out,HB5.out⟩
   case round=>
     obtain ⟨k,t,S,hk,rfl,HT,HSS,ho,hv,kt,ka,ks,kr,hb⟩:=hrel
     have HO:=Lib.hid ho
     have HV:=Lib.hid hv
     have KT:=Lib.hid kt
     have KA:=Lib.hid ka
     have KS:=Lib.hid ks
     have KR:=Lib.hid kr
     have HB:=Lib.hid hb
     clear ho hv kt ka ks kr hb HO5 HV5 KT5 KA5 KS5 KR5 HB5
     obtain ⟨l0,o0,o1,o2⟩:=KT.out.c3
     by_cases hlt:k<n
     · obtain ⟨x0,x1,y0,y1,dx0,dx1,dy0,dy1,dne⟩:=spOk_bd (s:=s) (t:=t) (by rw [HT.out];exact HF.out.1 k (by have:=HN.out;omega))
       obtain ⟨i0,i1⟩:=row_bd x0 x1 y0 y1
       have i2:(t.y*(s:Int)+t.x).toNat<n:=by have:=HQ.out;omega
       have i3:t.y*(s:Int)+t.x<(n:Int):=by have:=HQ.out;omega
       have g2:=HO.out.cell i2
       have g3:=HO.out.frozen (t.y*(s:Int)+t.x).toNat
       have HDN:=Lib.hid dne
       clear dne i1
       have a0:=KA.out.cell 0
       have a1:=KA.out.cell 1
       have d0:=KS.out.cell 0
       have d1:=KS.out.cell 1
       simp only [List.getElem?_toArray,List.getElem?_cons_zero,List.getElem?_cons_succ] at a0 a1 d0 d1
       have N1:g≠q:=by have:=HGQ.out;omega
       have N2:g≠q+1+1:=by have:=HGQ.out;omega
       have N3:g≠q+1+1+1:=by have:=HGQ.out;omega
       go_wp2_with (at_mapUpdate;refine wp_vmPut _ rfl _ _ _ rfl (q+1) k S t.x t.y rfl (HV.out.same (Below.heap_setCell _ _ _ _ (by have:=HGQ.out;simp;omega))) (by unfold maxLen;omega) rfl rfl (in64_of (by omega) (by omega)) (in64_of (by omega) (by omega)) ?_;intro w6 hv6 hg6;have HV6:=Lib.hid hv6;have HO6:=Lib.hid ((HO.out.set (t.y*(s:Int)+t.x).toNat (k:Int)).grown hg6 (by intro e;have:=Option.some.inj e;have:=HGQ.out;omega));have KT6:=Lib.hid ((KT.out.other (a:=⟨g,(t.y*(s:Int)+t.x).toNat,none⟩) N1 (.int .i64 k)).grown hg6 (by intro e;have:=Option.some.inj e;omega));have KA6:=Lib.hid ((KA.out.other (a:=⟨g,(t.y*(s:Int)+t.x).toNat,none⟩) N2 (.int .i64 k)).grown hg6 (by intro e;have:=Option.some.inj e;omega));have KS6:=Lib.hid ((KS.out.other (a:=⟨g,(t.y*(s:Int)+t.x).toNat,none⟩) N3 (.int .i64 k)).grown hg6 (by intro e;have:=Option.some.inj e;omega));have KR6:=Lib.hid ((KR.out.other (a:=⟨g,(t.y*(s:Int)+t.x).toNat,none⟩) (by have:=HRQ.out;simp;omega) (.int .i64 k)).grown hg6 (by intro e;have:=Option.some.inj e;have:=HRQ.out;have:=HGQ.out;omega));have HB6:=Lib.hid ((HB.out.setCell (show w.heap.size≤(⟨g,(t.y*(s:Int)+t.x).toNat,none⟩:Addr).block by have:=HRQ.out;simp;omega) (.int .i64 k)).grown hg6 (by have:=HB.out.size;simp;omega) (fun b hb=>by cases hb;have:=HRQ.out;have:=HGQ.out;omega));clear hv6 hg6 a0 a1 d0 d1 g2 g3 o0 o1 o2 l0 N1 N2 N3 HO HV KT KA KS KR HB;have a0:=KA6.out.cell 0;have a1:=KA6.out.cell 1;have d0:=KS6.out.cell 0;have d1:=KS6.out.cell 1;obtain ⟨l0,o0,o1,o2⟩:=KT6.out.c3;simp only [List.getElem?_toArray,List.getElem?_cons_zero,List.getElem?_cons_succ] at a0 a1 d0 d1;have e1:IntKind.i64.wrap (t.x+t.dx)=t.x+t.dx:=IntWalk.i64_in _ (by omega);have e2:IntKind.i64.wrap (t.y+t.dy)=t.y+t.dy:=IntWalk.i64_in _ (by omega))
       refine (impl_plusW _ _ _ _ _ e1 e2).mono ?_
       rintro e w7 ⟨rfl,hq7⟩
       have HV8:=Lib.hid ((HV6.out.same (w':=w7) (hq7.block (q+1) HV6.out.lt)).alloc (.cells #[.int .i64 (t.x+t.dx), .int .i64 (t.y+t.dy)] 149))
       have KT8:=Lib.hid ((KT6.out.below' hq7).alloc (.cells #[.int .i64 (t.x+t.dx), .int .i64 (t.y+t.dy)] 149))
       have KA8:=Lib.hid ((KA6.out.below' hq7).alloc (.cells #[.int .i64 (t.x+t.dx), .int .i64 (t.y+t.dy)] 149))
       have KS8:=Lib.hid ((KS6.out.below' hq7).alloc (.cells #[.int .i64 (t.x+t.dx), .int .i64 (t.y+t.dy)] 149))
       have KR8:=Lib.hid ((KR6.out.below' hq7).alloc (.cells #[.int .i64 (t.x+t.dx), .int .i64 (t.y+t.dy)] 149))
       have HO8:=Lib.hid ((HO6.out.below hq7 HO6.out.lt).alloc (.cells #[.int .i64 (t.x+t.dx), .int .i64 (t.y+t.dy)] 149))
       have HB8:=Lib.hid (bAlloc (bTrans HB6.out hq7) (.cells #[.int .i64 (t.x+t.dx), .int .i64 (t.y+t.dy)] 149))
       have KN8:=Lib.hid (Blk.new w7 149 #[.int .i64 (t.x+t.dx), .int .i64 (t.y+t.dy)])
       have hlk:=HV8.out.look (x:=t.x+t.dx) (y:=t.y+t.dy) (in64_of (by omega) (by omega)) (in64_of (by omega) (by omega))
       unfold cellV at hlk
       clear hq7 a0 a1 d0 d1 l0 o0 o1 o2 HV6 KT6 KA6 KS6 KR6 HO6 HB6
       have HP8:=Lib.hid (putS_ok (k:=k) (S:=S) (r:=t.r) (x:=t.x) (y:=t.y) (by rw [HT.out];exact sp_len s k) x0 x1 y0 y1 HSS.out)
       have a0:=KA8.out.cell 0
       have a1:=KA8.out.cell 1
       have d0:=KS8.out.cell 0
       have d1:=KS8.out.cell 1
       have n0:=KN8.out.cell 0
       have n1:=KN8.out.cell 1
       obtain ⟨l0,o0,o1,o2⟩:=KT8.out.c3
       simp only [List.getElem?_toArray,List.getElem?_cons_zero,List.getElem?_cons_succ] at a0 a1 d0 d1 n0 n1
       obtain ⟨b,hb⟩: ∃b,putS S t.x t.y (t.x+t.dx) (t.y+t.dy)=b:=⟨_,rfl⟩
       rw [hb] at hlk
       have HBB:=Lib.hid hb
       clear hb
       cases b
       · by_cases hu:0≤t.x+t.dx∧t.x+t.dx≤(s:Int) - 1
         · by_cases hv:0≤t.y+t.dy∧t.y+t.dy≤(s:Int) - 1
           · have HTT:=Lib.hid (spTurn_on (HBB.out ▸ HP8.out (t.x+t.dx) (t.y+t.dy)) rfl hu hv)
             go_wp2_with fail
             refine (impl_partFits_yes _ _ _ _ (by omega) (by omega) (by omega) hu.1 hu.2).mono ?_
             rintro e v9 ⟨rfl,rfl⟩
             go_wp2_with fail
             refine (impl_partFits_yes _ _ _ _ (by omega) (by omega) (by omega) hv.1 hv.2).mono ?_
             rintro e v9 ⟨rfl,rfl⟩
             go_wp2_with fail
             refine (impl_plusW t.x t.y t.dx t.dy _ (IntWalk.i64_in _ (by omega)) (IntWalk.i64_in _ (by omega))).mono ?_
             rintro e w10 ⟨rfl,hq10⟩
             have HV10:=Lib.hid (HV8.out.same (w':=w10) (hq10.block (q+1) HV8.out.lt))
             have KT10:=Lib.hid (KT8.out.below' hq10)
             have KA10:=Lib.hid (KA8.out.below' hq10)
             have KS10:=Lib.hid (KS8.out.below' hq10)
             have KR10:=Lib.hid (KR8.out.below' hq10)
             have HO10:=Lib.hid (HO8.out.below hq10 HO8.out.lt)
             have HB10:=Lib.hid (bTrans HB8.out hq10)
             clear hq10 a0 a1 d0 d1 n0 n1 l0 o0 o1 o2 hlk HV8 KT8 KA8 KS8 KR8 HO8 HB8 KN8
             have f0:=KA10.out.frozen 0
             have f1:=KA10.out.frozen 1
             have a0:=KA10.out.cell 0
             have a1:=KA10.out.cell 1
             obtain ⟨l0,o0,o1,o2⟩:=KT10.out.c3
             simp only [List.getElem?_toArray,List.getElem?_cons_zero,List.getElem?_cons_succ] at a0 a1
             go_wp2_with fail
             go_roundw
             case rel=>
               have E:=spStep_on HTT.out
               refine ⟨k+1,spStep s k t,putS S t.x t.y,by omega,by go_num,Lib.hid (by rw [HT.out];rfl),?_,?_,(HV10.out.same ((Below.heap_setCell _ _ _ _ (by first | (simp;done) | (simp;omega))).trans (Below.heap_setCell _ _ _ _ (by first | (simp;done) | (simp;omega))))),(KT10.out.other (by simp;omega) _).other (by simp;omega) _,?_,?_,(KR10.out.other (by have:=HRQ.out;have:=HGQ.out;simp;omega) _).other (by have:=HRQ.out;have:=HGQ.out;simp;omega) _,(HB10.out.setCell (by have:=HRQ.out;have:=HGQ.out;simp;omega) _).setCell (by have:=HRQ.out;have:=HGQ.out;simp;omega) _⟩
               · rw [E];exact HP8
               · rw [E,cl_set];exact (HO10.out.other (by have:=HGQ.out;simp;omega) _).other (by have:=HGQ.out;simp;omega) _
               · rw [E];exact (KA10.out.set 0 _).set 1 _
               · rw [E];exact (KS10.out.other (by simp) _).other (by simp) _
             case measure=>simp [intOf];omega
           · have HTT:=Lib.hid (spTurn_v (s:=s) (r:=t.r.set (t.y*(s:Int)+t.x).toNat (k:Int)) (u:=t.x+t.dx) hv)
             go_wp2_with fail
             refine (impl_partFits_yes _ _ _ _ (by omega) (by omega) (by omega) hu.1 hu.2).mono ?_
             rintro e v9 ⟨rfl,rfl⟩
             go_wp2_with fail
             refine (impl_partFits_no _ _ _ _ (by omega) (by omega) (by omega) (fun h=>hv ⟨h.2.1,h.2.2⟩)).mono ?_
             rintro e v9 ⟨rfl,rfl⟩
             go_wp2_with fail
             refine (impl_turned t.dx t.dy _ (IntWalk.i64_in _ (by omega))).mono ?_
             rintro e w9 ⟨rfl,hq9⟩
             have HV9:=Lib.hid (HV8.out.same (w':=w9) (hq9.block (q+1) HV8.out.lt))
             have KT9:=Lib.hid (KT8.out.below' hq9)
             have KA9:=Lib.hid (KA8.out.below' hq9)
             have KS9:=Lib.hid (KS8.out.below' hq9)
             have KR9:=Lib.hid (KR8.out.below' hq9)
             have HO9:=Lib.hid (HO8.out.below hq9 HO8.out.lt)
             have HB9:=Lib.hid (bTrans HB8.out hq9)
             clear hq9 a0 a1 d0 d1 n0 n1 l0 o0 o1 o2 hlk HV8 KT8 KA8 KS8 KR8 HO8 HB8 KN8
             have a0:=KA9.out.cell 0
             have a1:=KA9.out.cell 1
             have d0:=KS9.out.cell 0
             have d1:=KS9.out.cell 1
             have f0:=KS9.out.frozen 0
             have f1:=KS9.out.frozen 1
             obtain ⟨l0,o0,o1,o2⟩:=KT9.out.c3
             simp only [List.getElem?_toArray,List.getElem?_cons_zero,List.getElem?_cons_succ] at a0 a1 d0 d1
             go_wp2_with fail
             refine (impl_plusW t.x t.y (-t.dy) t.dx _ (IntWalk.i64_in _ (by omega)) (IntWalk.i64_in _ (by omega))).mono ?_
             rintro e w10 ⟨rfl,hq10⟩
             have HV10:=Lib.hid (VM.same (w':=w10) HV9.out ((hq10.block (q+1) (by have:=HV9.out.lt;simpa using this)).trans ((Below.heap_setCell _ _ _ _ (by first | (simp;done) | (simp;omega))).trans (Below.heap_setCell _ _ _ _ (by first | (simp;done) | (simp;omega))))))
             have KT10:=Lib.hid (((KT9.out.other (a:=⟨q+1+1+1,0,none⟩) (by simp;omega) (.int .i64 (-t.dy))).other (a:=⟨q+1+1+1,1,none⟩) (by simp;omega) (.int .i64 t.dx)).below' hq10)
             have KA10:=Lib.hid (((KA9.out.other (a:=⟨q+1+1+1,0,none⟩) (by simp) (.int .i64 (-t.dy))).other (a:=⟨q+1+1+1,1,none⟩) (by simp) (.int .i64 t.dx)).below' hq10)
             have KR10:=Lib.hid (((KR9.out.other (a:=⟨q+1+1+1,0,none⟩) (by have:=HRQ.out;have:=HGQ.out;simp;omega) (.int .i64 (-t.dy))).other (a:=⟨q+1+1+1,1,none⟩) (by have:=HRQ.out;have:=HGQ.out;simp;omega) (.int .i64 t.dx)).below' hq10)
             have KS10:Hid (Blk w10 (q+1+1+1) 149 #[.int .i64 (-t.dy), .int .i64 t.dx]):=Lib.hid (by exact ((KS9.out.set 0 (.int .i64 (-t.dy))).set 1 (.int .i64 t.dx)).below' hq10)
             have HO10:=Lib.hid ((((HO9.out.other (a:=⟨q+1+1+1,0,none⟩) (by have:=HGQ.out;simp;omega) (.int .i64 (-t.dy))).other (a:=⟨q+1+1+1,1,none⟩) (by have:=HGQ.out;simp;omega) (.int .i64 t.dx))).of_block (w':=w10) (hq10.block g (by have:=HO9.out.lt;simpa using this)))
             have HB10:=Lib.hid (bTrans ((HB9.out.setCell (show w.heap.size≤(⟨q+1+1+1,0,none⟩:Addr).block by have:=HRQ.out;have:=HGQ.out;simp;omega) (.int .i64 (-t.dy))).setCell (show w.heap.size≤(⟨q+1+1+1,1,none⟩:Addr).block by have:=HRQ.out;have:=HGQ.out;simp;omega) (.int .i64 t.dx)) hq10)
             clear hq10 a0 a1 d0 d1 l0 o0 o1 o2 f0 f1 HV9 KT9 KA9 KS9 KR9 HO9 HB9
             have f0:=KA10.out.frozen 0
             have f1:=KA10.out.frozen 1
             have a0:=KA10.out.cell 0
             have a1:=KA10.out.cell 1
             obtain ⟨l0,o0,o1,o2⟩:=KT10.out.c3
             simp only [List.getElem?_toArray,List.getElem?_cons_zero,List.getElem?_cons_succ] at a0 a1
             go_wp2_with fail
             go_roundw
             case rel=>
               have E:=spStep_turn HTT.out
               refine ⟨k+1,spStep s k t,putS S t.x t.y,by omega,by go_num,Lib.hid (by rw [HT.out];rfl),?_,?_,(HV10.out.same ((Below.heap_setCell _ _ _ _ (by first | (simp;done) | (simp;omega))).trans (Below.heap_setCell _ _ _ _ (by first | (simp;done) | (simp;omega))))),(KT10.out.other (by simp;omega) _).other (by simp;omega) _,?_,?_,(KR10.out.other (by have:=HRQ.out;have:=HGQ.out;simp;omega) _).other (by have:=HRQ.out;have:=HGQ.out;simp;omega) _,(HB10.out.setCell (by have:=HRQ.out;have:=HGQ.out;simp;omega) _).setCell (by have:=HRQ.out;have:=HGQ.out;simp;omega) _⟩
               · rw [E];exact HP8
               · rw [E,cl_set];exact (HO10.out.other (by have:=HGQ.out;simp;omega) _).other (by have:=HGQ.out;simp;omega) _
               · rw [E];exact (KA10.out.set 0 _).set 1 _
               · rw [E];exact (KS10.out.other (by simp) _).other (by simp) _
             case measure=>simp [intOf];omega
         · have HTT:=Lib.hid (spTurn_u (s:=s) (r:=t.r.set (t.y*(s:Int)+t.x).toNat (k:Int)) (v:=t.y+t.dy) hu)
           go_wp2_with fail
           refine (impl_partFits_no _ _ _ _ (by omega) (by omega) (by omega) (fun h=>hu ⟨h.2.1,h.2.2⟩)).mono ?_
           rintro e v9 ⟨rfl,rfl⟩
           go_wp2_with fail
           refine (impl_turned t.dx t.dy _ (IntWalk.i64_in _ (by omega))).mono ?_
           rintro e w9 ⟨rfl,hq9⟩
           have HV9:=Lib.hid (HV8.out.same (w':=w9) (hq9.block (q+1) HV8.out.lt))
           have KT9:=Lib.hid (KT8.out.below' hq9)
           have KA9:=Lib.hid (KA8.out.below' hq9)
           have KS9:=Lib.hid (KS8.out.below' hq9)
           have KR9:=Lib.hid (KR8.out.below' hq9)
           have HO9:=Lib.hid (HO8.out.below hq9 HO8.out.lt)
           have HB9:=Lib.hid (bTrans HB8.out hq9)
           clear hq9 a0 a1 d0 d1 n0 n1 l0 o0 o1 o2 hlk HV8 KT8 KA8 KS8 KR8 HO8 HB8 KN8
           have a0:=KA9.out.cell 0
           have a1:=KA9.out.cell 1
           have d0:=KS9.out.cell 0
           have d1:=KS9.out.cell 1
           have f0:=KS9.out.frozen 0
           have f1:=KS9.out.frozen 1
           obtain ⟨l0,o0,o1,o2⟩:=KT9.out.c3
           simp only [List.getElem?_toArray,List.getElem?_cons_zero,List.getElem?_cons_succ] at a0 a1 d0 d1
           go_wp2_with fail
           refine (impl_plusW t.x t.y (-t.dy) t.dx _ (IntWalk.i64_in _ (by omega)) (IntWalk.i64_in _ (by omega))).mono ?_
           rintro e w10 ⟨rfl,hq10⟩
           have HV10:=Lib.hid (VM.same (w':=w10) HV9.out ((hq10.block (q+1) (by have:=HV9.out.lt;simpa using this)).trans ((Below.heap_setCell _ _ _ _ (by first | (simp;done) | (simp;omega))).trans (Below.heap_setCell _ _ _ _ (by first | (simp;done) | (simp;omega))))))
           have KT10:=Lib.hid (((KT9.out.other (a:=⟨q+1+1+1,0,none⟩) (by simp;omega) (.int .i64 (-t.dy))).other (a:=⟨q+1+1+1,1,none⟩) (by simp;omega) (.int .i64 t.dx)).below' hq10)
           have KA10:=Lib.hid (((KA9.out.other (a:=⟨q+1+1+1,0,none⟩) (by simp) (.int .i64 (-t.dy))).other (a:=⟨q+1+1+1,1,none⟩) (by simp) (.int .i64 t.dx)).below' hq10)
           have KR10:=Lib.hid (((KR9.out.other (a:=⟨q+1+1+1,0,none⟩) (by have:=HRQ.out;have:=HGQ.out;simp;omega) (.int .i64 (-t.dy))).other (a:=⟨q+1+1+1,1,none⟩) (by have:=HRQ.out;have:=HGQ.out;simp;omega) (.int .i64 t.dx)).below' hq10)
           have KS10:Hid (Blk w10 (q+1+1+1) 149 #[.int .i64 (-t.dy), .int .i64 t.dx]):=Lib.hid (by exact ((KS9.out.set 0 (.int .i64 (-t.dy))).set 1 (.int .i64 t.dx)).below' hq10)
           have HO10:=Lib.hid ((((HO9.out.other (a:=⟨q+1+1+1,0,none⟩) (by have:=HGQ.out;simp;omega) (.int .i64 (-t.dy))).other (a:=⟨q+1+1+1,1,none⟩) (by have:=HGQ.out;simp;omega) (.int .i64 t.dx))).of_block (w':=w10) (hq10.block g (by have:=HO9.out.lt;simpa using this)))
           have HB10:=Lib.hid (bTrans ((HB9.out.setCell (show w.heap.size≤(⟨q+1+1+1,0,none⟩:Addr).block by have:=HRQ.out;have:=HGQ.out;simp;omega) (.int .i64 (-t.dy))).setCell (show w.heap.size≤(⟨q+1+1+1,1,none⟩:Addr).block by have:=HRQ.out;have:=HGQ.out;simp;omega) (.int .i64 t.dx)) hq10)
           clear hq10 a0 a1 d0 d1 l0 o0 o1 o2 f0 f1 HV9 KT9 KA9 KS9 KR9 HO9 HB9
           have f0:=KA10.out.frozen 0
           have f1:=KA10.out.frozen 1
           have a0:=KA10.out.cell 0
           have a1:=KA10.out.cell 1
           obtain ⟨l0,o0,o1,o2⟩:=KT10.out.c3
           simp only [List.getElem?_toArray,List.getElem?_cons_zero,List.getElem?_cons_succ] at a0 a1
           go_wp2_with fail
           go_roundw
           case rel=>
             have E:=spStep_turn HTT.out
             refine ⟨k+1,spStep s k t,putS S t.x t.y,by omega,by go_num,Lib.hid (by rw [HT.out];rfl),?_,?_,(HV10.out.same ((Below.heap_setCell _ _ _ _ (by first | (simp;done) | (simp;omega))).trans (Below.heap_setCell _ _ _ _ (by first | (simp;done) | (simp;omega))))),(KT10.out.other (by simp;omega) _).other (by simp;omega) _,?_,?_,(KR10.out.other (by have:=HRQ.out;have:=HGQ.out;simp;omega) _).other (by have:=HRQ.out;have:=HGQ.out;simp;omega) _,(HB10.out.setCell (by have:=HRQ.out;have:=HGQ.out;simp;omega) _).setCell (by have:=HRQ.out;have:=HGQ.out;simp;omega) _⟩
             · rw [E];exact HP8
             · rw [E,cl_set];exact (HO10.out.other (by have:=HGQ.out;simp;omega) _).other (by have:=HGQ.out;simp;omega) _
             · rw [E];exact (KA10.out.set 0 _).set 1 _
             · rw [E];exact (KS10.out.other (by simp) _).other (by simp) _
           case measure=>simp [intOf];omega
       · have HTT:=Lib.hid (spTurn_b (HBB.out ▸ HP8.out (t.x+t.dx) (t.y+t.dy)) rfl)
         go_wp2_with fail
         refine (impl_turned t.dx t.dy _ (IntWalk.i64_in _ (by omega))).mono ?_
         rintro e w9 ⟨rfl,hq9⟩
         have HV9:=Lib.hid (HV8.out.same (w':=w9) (hq9.block (q+1) HV8.out.lt))
         have KT9:=Lib.hid (KT8.out.below' hq9)
         have KA9:=Lib.hid (KA8.out.below' hq9)
         have KS9:=Lib.hid (KS8.out.below' hq9)
         have KR9:=Lib.hid (KR8.out.below' hq9)
         have HO9:=Lib.hid (HO8.out.below hq9 HO8.out.lt)
         have HB9:=Lib.hid (bTrans HB8.out hq9)
         clear hq9 a0 a1 d0 d1 n0 n1 l0 o0 o1 o2 hlk HV8 KT8 KA8 KS8 KR8 HO8 HB8 KN8
         have a0:=KA9.out.cell 0
         have a1:=KA9.out.cell 1
         have d0:=KS9.out.cell 0
         have d1:=KS9.out.cell 1
         have f0:=KS9.out.frozen 0
         have f1:=KS9.out.frozen 1
         obtain ⟨l0,o0,o1,o2⟩:=KT9.out.c3
         simp only [List.getElem?_toArray,List.getElem?_cons_zero,List.getElem?_cons_succ] at a0 a1 d0 d1
         go_wp2_with fail
         refine (impl_plusW t.x t.y (-t.dy) t.dx _ (IntWalk.i64_in _ (by omega)) (IntWalk.i64_in _ (by omega))).mono ?_
         rintro e w10 ⟨rfl,hq10⟩
         have HV10:=Lib.hid (VM.same (w':=w10) HV9.out ((hq10.block (q+1) (by have:=HV9.out.lt;simpa using this)).trans ((Below.heap_setCell _ _ _ _ (by first | (simp;done) | (simp;omega))).trans (Below.heap_setCell _ _ _ _ (by first | (simp;done) | (simp;omega))))))
         have KT10:=Lib.hid (((KT9.out.other (a:=⟨q+1+1+1,0,none⟩) (by simp;omega) (.int .i64 (-t.dy))).other (a:=⟨q+1+1+1,1,none⟩) (by simp;omega) (.int .i64 t.dx)).below' hq10)
         have KA10:=Lib.hid (((KA9.out.other (a:=⟨q+1+1+1,0,none⟩) (by simp) (.int .i64 (-t.dy))).other (a:=⟨q+1+1+1,1,none⟩) (by simp) (.int .i64 t.dx)).below' hq10)
         have KR10:=Lib.hid (((KR9.out.other (a:=⟨q+1+1+1,0,none⟩) (by have:=HRQ.out;have:=HGQ.out;simp;omega) (.int .i64 (-t.dy))).other (a:=⟨q+1+1+1,1,none⟩) (by have:=HRQ.out;have:=HGQ.out;simp;omega) (.int .i64 t.dx)).below' hq10)
         have KS10:Hid (Blk w10 (q+1+1+1) 149 #[.int .i64 (-t.dy), .int .i64 t.dx]):=Lib.hid (by exact ((KS9.out.set 0 (.int .i64 (-t.dy))).set 1 (.int .i64 t.dx)).below' hq10)
         have HO10:=Lib.hid ((((HO9.out.other (a:=⟨q+1+1+1,0,none⟩) (by have:=HGQ.out;simp;omega) (.int .i64 (-t.dy))).other (a:=⟨q+1+1+1,1,none⟩) (by have:=HGQ.out;simp;omega) (.int .i64 t.dx))).of_block (w':=w10) (hq10.block g (by have:=HO9.out.lt;simpa using this)))
         have HB10:=Lib.hid (bTrans ((HB9.out.setCell (show w.heap.size≤(⟨q+1+1+1,0,none⟩:Addr).block by have:=HRQ.out;have:=HGQ.out;simp;omega) (.int .i64 (-t.dy))).setCell (show w.heap.size≤(⟨q+1+1+1,1,none⟩:Addr).block by have:=HRQ.out;have:=HGQ.out;simp;omega) (.int .i64 t.dx)) hq10)
         clear hq10 a0 a1 d0 d1 l0 o0 o1 o2 f0 f1 HV9 KT9 KA9 KS9 KR9 HO9 HB9
         have f0:=KA10.out.frozen 0
         have f1:=KA10.out.frozen 1
         have a0:=KA10.out.cell 0
         have a1:=KA10.out.cell 1
         obtain ⟨l0,o0,o1,o2⟩:=KT10.out.c3
         simp only [List.getElem?_toArray,List.getElem?_cons_zero,List.getElem?_cons_succ] at a0 a1
         go_wp2_with fail
         go_roundw
         case rel=>
           have E:=spStep_turn HTT.out
           refine ⟨k+1,spStep s k t,putS S t.x t.y,by omega,by go_num,Lib.hid (by rw [HT.out];rfl),?_,?_,(HV10.out.same ((Below.heap_setCell _ _ _ _ (by first | (simp;done) | (simp;omega))).trans (Below.heap_setCell _ _ _ _ (by first | (simp;done) | (simp;omega))))),(KT10.out.other (by simp;omega) _).other (by simp;omega) _,?_,?_,(KR10.out.other (by have:=HRQ.out;have:=HGQ.out;simp;omega) _).other (by have:=HRQ.out;have:=HGQ.out;simp;omega) _,(HB10.out.setCell (by have:=HRQ.out;have:=HGQ.out;simp;omega) _).setCell (by have:=HRQ.out;have:=HGQ.out;simp;omega) _⟩
           · rw [E];exact HP8
           · rw [E,cl_set];exact (HO10.out.other (by have:=HGQ.out;simp;omega) _).other (by have:=HGQ.out;simp;omega) _
           · rw [E];exact (KA10.out.set 0 _).set 1 _
           · rw [E];exact (KS10.out.other (by simp) _).other (by simp) _
         case measure=>simp [intOf];omega
     · obtain rfl:n=k:=by omega
       have HE:Hid (Own wr g n n (spState s n).r):=Lib.hid (by
         have h:=HF.out.2
         rw [←HN.out] at h
         have h2:=HO.out
         rw [HT.out,cl_end (fun v hv=>mat_pos h v hv)] at h2
         exact h2)
       obtain ⟨r0,r1,r2,r3⟩:=KR.out.c3
       obtain ⟨q0,q1,q2⟩:=KR.out.f3
       go_wp2_with fail
       exact bodyPost_ret (v:= .tuple #[.agg #[.int .i64 s, .int .i64 s, .slice (some ⟨g,0,none⟩) n n], .bool true]) (by simp [results,Tryz.results94,go_sem,r1,r2,r3]) rfl
         ⟨_,_,_,rfl,OwnA.mk (((HE.out.other (by have:=HRQ.out;simp;omega) _).other (by have:=HRQ.out;simp;omega) _).other (by have:=HRQ.out;simp;omega) _) (by have:=HRQ.out;omega),by omega,
           ((HB.out.setCell (by simp) _).setCell (by simp) _).setCell (by simp) _⟩
theorem impl_matrixOrNone (W H:Int) (a:Option Addr) (n c:Nat) (ok:Bool) (w:World):
   Calls Tryz.prog 93 #[.agg #[.int .i64 W, .int .i64 H, .slice a n c], .bool ok] w fun e w'=>e= .returned (.func (.func 118) #[] #[.pointer (some ⟨w.heap.size,0,none⟩)])∧w'=w.alloc (.cells #[.int .i64 W, .int .i64 H, .slice a n c] 31):=by
 go_enter Tryz.func93,Tryz.ntmps93
 go_wp2_with fail
 go_ret
 exact ⟨rfl,rfl⟩
def GivenOut (w:World) (m:Mat) (e:Ending) (w':World):Prop:=
 ∃ (mb:Nat) (a:Option Addr) (n c:Nat),e= .returned (.tuple #[.iface 106 (.func (.func 118) #[] #[.pointer (some ⟨mb,0,none⟩)]), .bool true])∧
   Blk w' mb 31 #[.int .i64 m.W, .int .i64 m.H, .slice a n c]∧OwnA w' w.heap.size a n c m.ranks∧n≤1048576∧Below w.heap.size w w'
set_option maxRecDepth 100000 in
set_option maxHeartbeats 1600000 in
theorem num_bayer (na:Option Addr) (nc:Nat) (x:Int) (w:World) (hr:Rd w na [x]):
   Calls Tryz.prog 67 #[.string ⟨#[98,97,121,101,114]⟩, .slice na 1 nc] w (GivenOut w (bayerF x).1):=by
 have HR:=Lib.hid hr
 have HB0:=Lib.hid (bAlloc (Below.refl w.heap.size w) (.cells #[.slice na 1 nc] 25))
 obtain ⟨b,off,hae,hbl,hbc⟩:=(hr.below HB0.out).at (by simp)
 subst hae
 have q0:=hbc 0 (by simp)
 rw [show [x].getD 0 0=x from rfl,Nat.add_zero] at q0
 clear hr hbc
 go_enter Tryz.func67,Tryz.ntmps67
 go_wp2_with fail
 refine (impl_BayerMatrix x _).mono ?_
 rintro e w1 ⟨a,n,c,rfl,ho,hn,hb⟩
 have HB1:=Lib.hid (bTrans HB0.out hb)
 have HO:=Lib.hid ho
 clear hb ho q0 hbl
 go_wp2_with fail
 refine (impl_matrixOrNone _ _ a n c _ _).mono ?_
 rintro e w2 ⟨rfl,rfl⟩
 go_wp2_with fail
 go_ret2
 exact ⟨w1.heap.size,a,n,c,rfl,Blk.new _ _ _,OwnA.mono (HO.out.alloc _) (by simp),hn,bAlloc HB1.out _⟩
set_option maxRecDepth 100000 in
set_option maxHeartbeats 1600000 in
theorem num_spiral (na:Option Addr) (nc:Nat) (x:Int) (w:World) (hr:Rd w na [x]):
   Calls Tryz.prog 67 #[.string ⟨#[115,112,105,114,97,108]⟩, .slice na 1 nc] w (GivenOut w (spiralF x).1):=by
 have HR:=Lib.hid hr
 have HB0:=Lib.hid (bAlloc (Below.refl w.heap.size w) (.cells #[.slice na 1 nc] 25))
 obtain ⟨b,off,hae,hbl,hbc⟩:=(hr.below HB0.out).at (by simp)
 subst hae
 have q0:=hbc 0 (by simp)
 rw [show [x].getD 0 0=x from rfl,Nat.add_zero] at q0
 clear hr hbc
 go_enter Tryz.func67,Tryz.ntmps67
 go_wp2_with fail
 refine (impl_SpiralMatrix x _).mono ?_
 rintro e w1 ⟨a,n,c,rfl,ho,hn,hb⟩
 have HB1:=Lib.hid (bTrans HB0.out hb)
 have HO:=Lib.hid ho
 clear hb ho q0 hbl
 go_wp2_with fail
 refine (impl_matrixOrNone _ _ a n c _ _).mono ?_
 rintro e w2 ⟨rfl,rfl⟩
 go_wp2_with fail
 go_ret2
 exact ⟨w1.heap.size,a,n,c,rfl,Blk.new _ _ _,OwnA.mono (HO.out.alloc _) (by simp),hn,bAlloc HB1.out _⟩
end Go.Proofs.YtanccoopbgamdaaGreatDoor
