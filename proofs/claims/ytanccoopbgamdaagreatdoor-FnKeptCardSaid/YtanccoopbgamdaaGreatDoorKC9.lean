/-
  Contracts and plain facts on which the theorem of this claim rests, text 9.
-/
import Derived.Maps.AppendAt
import Derived.Test.YtanccoopbgamdaaGreatDoorKC2
import Derived.Test.YtanccoopbgamdaaGreatDoorKC3
import Derived.Test.YtanccoopbgamdaaGreatDoorKC4
import Derived.Test.YtanccoopbgamdaaGreatDoorKC7
import Derived.Test.YtanccoopbgamdaaGreatDoorKC8
namespace Go.Proofs.YtanccoopbgamdaaGreatDoor
open Go.RowKit
set_option linter.unusedVariables false
set_option linter.unusedSimpArgs false
def bayerAll:Bool:=[0,1,2,3,4].all (fun j=>matOk (bayerM j).W (bayerM j).H (bayerM j).ranks && (decide ((bayerM j).ranks.length=4^j) && decide ((bayerM j).W=2^j∧(bayerM j).H=2^j)))
theorem bayerAll_ok:bayerAll=true:=by decide+kernel
theorem bayer_ok (j:Nat) (hj:j≤4):matOk (bayerM j).W (bayerM j).H (bayerM j).ranks=true∧(bayerM j).ranks.length=4^j∧(bayerM j).W=2^j∧(bayerM j).H=2^j:=by
 have h:=bayerAll_ok
 unfold bayerAll at h
 rw [List.all_eq_true] at h
 have h2:=h j (by simp;omega)
 simpa [Bool.and_eq_true,decide_eq_true_eq] using h2
theorem bayer_len (j:Nat) (hj:j≤3):4*(bayerM j).ranks.length≤256:=by
 rw [(bayer_ok j (by omega)).2.1]
 have:4^j≤4^3:=Nat.pow_le_pow_right (by omega) hj
 omega
theorem OwnA.otherS {w:World} {B n cap:Nat} {ad:Option Addr} {xs:List Int} (h:OwnA w B ad n cap xs) {a:Addr} (ha: ∀b,blockOf ad=some b→b≠a.block) (u:Value):OwnA (w.setCell a u) B ad n cap xs:=by
 rcases h with h | ⟨g,h1,h2,h⟩
 · exact .inl h
 · subst h1
   exact .inr ⟨g,rfl,h2,h.other (fun e=>ha g rfl e.symm) u⟩
theorem bayerF_no {k:Int} (h: ¬(0≤k∧k≤4)):bayerF k=(noMat,false):=by unfold bayerF;rw [if_neg h]
theorem bayerF_yes {k:Nat} (h:k≤4):bayerF (k:Int)=(bayerM k,true):=by unfold bayerF;rw [if_pos ⟨by omega,by omega⟩];rfl
set_option maxHeartbeats 800000 in
theorem impl_BayerMatrix (kk:Int) (w:World):Calls Tryz.prog 8 #[.int .i64 kk] w (MatOut2 w (bayerF kk)):=by
 by_cases hk:0≤kk∧kk≤4
 case neg=>
   rw [bayerF_no hk]
   go_enter Tryz.func8,Tryz.ntmps8
   go_wp2_with fail
   all_goals first | (exfalso;exact hk ⟨by omega,by omega⟩) | skip
   all_goals (
     skip
     exact bodyPost_ret (v:= .tuple #[.agg #[.int .i64 0, .int .i64 0, .slice none 0 0], .bool false]) (by simp [results,Tryz.results8,go_sem]) rfl ⟨none,0,0,rfl,OwnA.none _ _,by omega,Joins.below_alloc1 _ _⟩
     )
 case pos=>
   obtain ⟨k,rfl⟩: ∃k:Nat,kk=(k:Int):=⟨kk.toNat,by omega⟩
   have hk4:k≤4:=by omega
   rw [bayerF_yes hk4]
   clear hk
   go_enter Tryz.func8,Tryz.ntmps8
   go_wp2_with fail
   refine (impl_blankM 1 1 1 _ rfl rfl).mono ?_
   rintro e w2 ⟨g,rfl,hg,ho,hb⟩
   have HB2:=Lib.hid ((Joins.below_alloc1 _ _).trans (hb.mono (by simp)))
   have KR2:=Lib.hid ((Blk.new w 31 #[.int .i64 0, .int .i64 0, .slice none 0 0]).below' hb)
   have HO:=Lib.hid ho
   have HG:Hid (w.heap.size+1≤g):=Lib.hid (by simpa using hg)
   clear hb ho hg
   go_wp2_with fail
   have NG:=KR2.out.lt
   go_loopw [14] (fun i wr=> ∃(j:Nat) (ar:Option Addr) (nr cr:Nat),j≤k∧i= .int .i64 (j)∧OwnA wr (w.heap.size+1) ar nr cr (bayerM j).ranks∧Hid (∀b,blockOf ar=some b→b≠w2.heap.size)∧Blk wr (w2.heap.size) 31 #[.int .i64 (bayerM j).W, .int .i64 (bayerM j).H, .slice ar nr cr]∧Blk wr w.heap.size 31 #[.int .i64 0, .int .i64 0, .slice none 0 0]∧Below w.heap.size w wr) (fun i _=>k - (intOf i).toNat)
   case atStart=>exact ⟨0,_,_,_,Nat.zero_le _,rfl,(OwnA.mk (HO.out.alloc _) HG.out),Lib.hid (by intro b hb;simp [blockOf] at hb;subst hb;have:=HO.out.lt;omega),Blk.new _ _ _,KR2.out.alloc _,HB2.out.alloc HB2.out.size _⟩
   case round=>
     obtain ⟨j,ar,nr,cr,hj,rfl,ho,HNE,hb1,hb2,hw⟩:=hrel
     have HOr:=Lib.hid ho
     have KB:=Lib.hid hb1
     have KR:=Lib.hid hb2
     have HW:=Lib.hid hw
     obtain ⟨l0,o0,o1,o2⟩:=KB.out.c3
     obtain ⟨q0,q1,q2⟩:=KB.out.f3
     clear ho hb1 hb2 hw
     by_cases hlt:j<k
     · obtain ⟨m1,m2,m3,m4⟩:=matOk_bd HOr.out.len (bayer_ok j (by omega)).1
       obtain ⟨b1,b2,b3,b4,b5,b6⟩:=matSize_bd m1
       have h4:4*nr≤256:=by have:=bayer_len j (by omega);have:=HOr.out.len;omega
       have M2:=Lib.hid m2
       have M3:=Lib.hid m3
       clear m1 m2 m3 m4
       go_wp2_with fail
       refine (impl_doubled _ _ _ nr _ (bayerM j).ranks _ HOr.out.len (by exact HOr.out.rd) M2.out b1 b3 h4 M3.out).mono ?_
       rintro e w5 ⟨a5,n5,c5,rfl,ho5,hn5,hb5⟩
       have HO5:=Lib.hid ho5
       have KB5:=Lib.hid (KB.out.below' hb5)
       have KR5:=Lib.hid (KR.out.below' hb5)
       have HW5:=Lib.hid (bTrans HW.out hb5)
       have LB:=Lib.hid KB.out.lt
       have LW:=Lib.hid HW.out.size
       have LR:=Lib.hid KR.out.lt
       have NB:Hid (∀b,blockOf a5=some b→b≠w2.heap.size):=Lib.hid (fun b hb=>by have:=HO5.out.bd b hb;have:=LB.out;omega)
       clear ho5 hb5 o0 o1 o2 q0 q1 q2 l0
       obtain ⟨l0,o0,o1,o2⟩:=KB5.out.c3
       obtain ⟨q0,q1,q2⟩:=KB5.out.f3
       go_wp2_with fail
       go_roundw
       case rel=>
         exact ⟨j+1,a5,n5,c5,by omega,by go_num,(((HO5.out.otherS (a:=⟨w2.heap.size,0,none⟩) NB.out _).otherS (a:=⟨w2.heap.size,1,none⟩) NB.out _).otherS (a:=⟨w2.heap.size,2,none⟩) NB.out _).mono (by have:=LW.out;have:=LR.out;omega),NB,by exact ((KB5.out.set 0 _).set 1 _).set 2 _,((KR5.out.other (by simp;try omega) _).other (by simp;try omega) _).other (by simp;try omega) _,((HW5.out.setCell (by simp;try omega) _).setCell (by simp;try omega) _).setCell (by simp;try omega) _⟩
       case measure=>simp [intOf];omega
     · obtain rfl:k=j:=by omega
       obtain ⟨r0,r1,r2,r3⟩:=KR.out.c3
       obtain ⟨t0,t1,t2⟩:=KR.out.f3
       have hlen:Hid (nr≤1048576):=Lib.hid (by
         obtain ⟨m1,m2,_,_⟩:=matOk_bd HOr.out.len (bayer_ok k (by omega)).1
         obtain ⟨_,_,_,_,b5,_⟩:=matSize_bd m1
         omega)
       go_wp2_with fail
       exact bodyPost_ret (v:= .tuple #[.agg #[.int .i64 (bayerM k).W, .int .i64 (bayerM k).H, .slice ar nr cr], .bool true]) (by simp [results,Tryz.results8,go_sem,r1,r2,r3]) rfl
         ⟨_,_,_,rfl,(((HOr.out.other (by simp;try omega) _).other (by simp;try omega) _).other (by simp;try omega) _).mono (by omega),hlen.out,
           ((HW.out.setCell (by first | (simp;done) | (simp;omega)) _).setCell (by first | (simp;done) | (simp;omega)) _).setCell (by first | (simp;done) | (simp;omega)) _⟩
set_option maxHeartbeats 800000 in
theorem spec_BayerMatrix (kk:Int) (w:World):Calls Tryz.prog 70 #[.int .i64 kk] w (MatOut2 w (bayerF kk)):=by
 by_cases hk:0≤kk∧kk≤4
 case neg=>
   rw [bayerF_no hk]
   go_enter Tryz.func70,Tryz.ntmps70
   go_wp2_with fail
   refine (spec_l1In_no _ _ _ _ hk).mono ?_
   rintro e w2 ⟨rfl,rfl⟩
   go_wp2_with fail
   exact bodyPost_ret (v:= .tuple #[.agg #[.int .i64 0, .int .i64 0, .slice none 0 0], .bool false]) (by simp [results,Tryz.results70,go_sem]) rfl ⟨none,0,0,rfl,OwnA.none _ _,by omega,Joins.below_alloc1 _ _⟩
 case pos=>
   obtain ⟨k,rfl⟩: ∃k:Nat,kk=(k:Int):=⟨kk.toNat,by omega⟩
   have hk4:k≤4:=by omega
   rw [bayerF_yes hk4]
   go_enter Tryz.func70,Tryz.ntmps70
   go_wp2_with fail
   refine (spec_l1In_yes _ _ _ _ hk.1 hk.2).mono ?_
   rintro e w2 ⟨rfl,rfl⟩
   clear hk
   go_wp2_with fail
   have NG:w.heap.size<w.heap.size+2:=by omega
   go_loopw [0] (fun i wr=> ∃(j:Nat) (ar:Option Addr) (nr cr:Nat),j≤k∧i= .int .i64 ((k:Int) - j)∧OwnA wr (w.heap.size+1) ar nr cr (bayerM j).ranks∧Hid (∀b,blockOf ar=some b→b≠w.heap.size+2)∧Blk wr (w.heap.size+2) 31 #[.int .i64 (bayerM j).W, .int .i64 (bayerM j).H, .slice ar nr cr]∧Blk wr w.heap.size 31 #[.int .i64 0, .int .i64 0, .slice none 0 0]∧Below w.heap.size w wr) (fun i _=>(intOf i).toNat)
   case atStart=>
     have hr:RowM #[.int .i64 0] 1 [0]:=⟨rfl,by unfold maxLen;omega,rfl,rfl⟩
     exact ⟨0,some ⟨w.heap.size+1,0,none⟩,1,1,Nat.zero_le _,by go_num,OwnA.mk ((hr.own' _ (by simp)).alloc _) (Nat.le_refl _),Lib.hid (by intro b hb;simp [blockOf] at hb;omega),Blk.new' _ _ (by simp),((Blk.new w _ _).alloc _).alloc _,Joins.below_alloc3 _ _ _ _⟩
   case round=>
     obtain ⟨j,ar,nr,cr,hj,rfl,ho,HNE,hb1,hb2,hw⟩:=hrel
     have HOr:=Lib.hid ho
     have KB:=Lib.hid hb1
     have KR:=Lib.hid hb2
     have HW:=Lib.hid hw
     obtain ⟨l0,o0,o1,o2⟩:=KB.out.c3
     obtain ⟨q0,q1,q2⟩:=KB.out.f3
     clear ho hb1 hb2 hw
     by_cases hlt:j<k
     · obtain ⟨m1,m2,m3,m4⟩:=matOk_bd HOr.out.len (bayer_ok j (by omega)).1
       obtain ⟨b1,b2,b3,b4,b5,b6⟩:=matSize_bd m1
       have h4:4*nr≤256:=by have:=bayer_len j (by omega);have:=HOr.out.len;omega
       have M2:=Lib.hid m2
       have M3:=Lib.hid m3
       clear m1 m2 m3 m4
       go_wp2_with fail
       refine (spec_doubled _ _ _ nr _ (bayerM j).ranks _ HOr.out.len (by exact HOr.out.rd) M2.out b1 b3 h4 M3.out).mono ?_
       rintro e w5 ⟨a5,n5,c5,rfl,ho5,hn5,hb5⟩
       have HO5:=Lib.hid ho5
       have KB5:=Lib.hid (KB.out.below' hb5)
       have KR5:=Lib.hid (KR.out.below' hb5)
       have HW5:=Lib.hid (bTrans HW.out hb5)
       have LB:=Lib.hid KB.out.lt
       have LW:=Lib.hid HW.out.size
       have LR:=Lib.hid KR.out.lt
       have NB:Hid (∀b,blockOf a5=some b→b≠w.heap.size+2):=Lib.hid (fun b hb=>by have:=HO5.out.bd b hb;have:=LB.out;omega)
       clear ho5 hb5 o0 o1 o2 q0 q1 q2 l0
       obtain ⟨l0,o0,o1,o2⟩:=KB5.out.c3
       obtain ⟨q0,q1,q2⟩:=KB5.out.f3
       go_wp2_with fail
       go_roundw
       case rel=>
         exact ⟨j+1,a5,n5,c5,by omega,by go_num,(((HO5.out.otherS (a:=⟨w.heap.size+2,0,none⟩) NB.out _).otherS (a:=⟨w.heap.size+2,1,none⟩) NB.out _).otherS (a:=⟨w.heap.size+2,2,none⟩) NB.out _).mono (by have:=LW.out;have:=LR.out;omega),NB,by exact ((KB5.out.set 0 _).set 1 _).set 2 _,((KR5.out.other (by simp;try omega) _).other (by simp;try omega) _).other (by simp;try omega) _,((HW5.out.setCell (by simp;try omega) _).setCell (by simp;try omega) _).setCell (by simp;try omega) _⟩
       case measure=>simp [intOf];omega
     · obtain rfl:k=j:=by omega
       obtain ⟨r0,r1,r2,r3⟩:=KR.out.c3
       obtain ⟨t0,t1,t2⟩:=KR.out.f3
       have hlen:Hid (nr≤1048576):=Lib.hid (by
         obtain ⟨m1,m2,_,_⟩:=matOk_bd HOr.out.len (bayer_ok k (by omega)).1
         obtain ⟨_,_,_,_,b5,_⟩:=matSize_bd m1
         omega)
       go_wp2_with fail
       exact bodyPost_ret (v:= .tuple #[.agg #[.int .i64 (bayerM k).W, .int .i64 (bayerM k).H, .slice ar nr cr], .bool true]) (by simp [results,Tryz.results70,go_sem,r1,r2,r3]) rfl
         ⟨_,_,_,rfl,(((HOr.out.other (by simp;try omega) _).other (by simp;try omega) _).other (by simp;try omega) _).mono (by omega),hlen.out,
           ((HW.out.setCell (by first | (simp;done) | (simp;omega)) _).setCell (by first | (simp;done) | (simp;omega)) _).setCell (by first | (simp;done) | (simp;omega)) _⟩
def DeskOut (w:World) (d:Pic × Pic × List Pic) (e:Ending) (w':World):Prop:=
 ∃E:Dsk,e= .returned E.val∧OwnD w' w.heap.size E∧E.dat=d∧SmallD E∧Below w.heap.size w w'
theorem step_appV {P:Program} (w:World) {ops:Array Oper} {o:Oper} {a:Act} {K:Act→World→Prop} {Q:Exit→Act→World→Prop} {E:Prop}
   (hgd:o.guard=none) (t:Nat) (ht:P.underlying t=some (.slice 27)) (hi0:(P.info? 27).map (fun i=>(i.zero,i.size,i.bytes))=some (some (.agg #[.int .i64 0, .int .i64 0, .slice none 0 0]),3,40))
   (s x:Operand) (hop:o.op= .call {callee:= .builtin .append,args:=#[s,x],argTypes:=#[t,t]})
   (B n cap:Nat) (ad:Option Addr) (L:List PV) (hs:a.eval s= .slice ad n cap) (ho:RowVA w B ad n cap L) (g:Nat) (p:PV) (hx:a.eval x= .slice (some ⟨g,0,none⟩) 1 1)
   (h0:w.cell? ⟨g,0,none⟩=some (.int .i64 p.W)) (h1:w.cell? ⟨g,1,none⟩=some (.int .i64 p.H)) (h2:w.cell? ⟨g,2,none⟩=some (.slice p.a p.n p.c)) (hn:n≤1048576) (hB:B≤w.heap.size)
   (hK: ∀ad' cap' w',RowVA w' B ad' (n+1) cap' (L++ [p])→w.grownBy w' (blockOf ad)→(blockOf ad'=blockOf ad∨blockOf ad'=some w.heap.size)→K (a.put o.dst (.slice ad' (n+1) cap')) w'):
   if Region.wanted o (yielded ops a.tmps)=true then Oper.wp P o a w K Q else E:=by
 have hw:Region.wanted o (yielded ops a.tmps)=true:=by simp [Region.wanted,hgd]
 rw [if_pos hw]
 obtain ⟨i,hi,hz0,hz1,hz2⟩:=info_parts hi0
 have hf:flatV L++p.cells=flatV (L++ [p]):=by simp [flatV]
 obtain ⟨v',w',hr,q2,q3,_,q5⟩:=run_append_own_at (P:=P) w B t o.type 27 i (.agg #[.int .i64 0, .int .i64 0, .slice none 0 0]) 3 40 ht hi hz0 hz1 hz2 (by simp [Value.cells]) (by omega) _ n (flatV L) ho.toRow ⟨g,0,none⟩ 1 1 p.cells (by simp [PV.cells]) (fun j u hj=>by
     have hj3:j=0∨j=1∨j=2:=by
       have:=(List.getElem?_eq_some_iff.1 hj).1
       simp [PV.cells] at this
       omega
     rcases hj3 with rfl | rfl | rfl
     · simp [PV.cells] at hj;subst hj;simpa [Addr.add] using h0
     · simp [PV.cells] at hj;subst hj;simpa [Addr.add] using h1
     · simp [PV.cells] at hj;subst hj;simpa [Addr.add] using h2) (fun u hu=>by
     simp [PV.cells] at hu
     rcases hu with rfl | rfl | rfl <;>rfl) (by unfold maxLen;omega) (by omega) hB
 unfold Oper.wp execOp
 simp only [hop,resolve,invoke,builtin,Sem.run_bind,Sem.run_pure,Result.andThen_ok,List.map_toArray,List.map_cons,List.map_nil,hs,hx,hr]
 rw [hf] at q2
 obtain ⟨ad',cap',rfl,h5⟩:=RowVA.ofRow (by rw [List.length_append,ho.1];rfl) q2
 rw [blockOf_ownT] at q3
 rw [blockOf_ownT,blockOf_ownT] at q5
 exact hK ad' cap' w' h5 q3 q5
theorem OwnV.toRowVA {w:World} {B n cap:Nat} {ad:Option Addr} {L:List PV} (h:OwnV w B ad n cap L):RowVA w B ad n cap L:=by
 obtain ⟨h1,h2,_⟩:=h
 exact ⟨h1,h2⟩
theorem OwnV.lit {w:World} {B:Nat} {p:PV} (hB:B≤w.heap.size) (hp:OwnA w B p.a p.n p.c p.ink):
   OwnV (w.alloc (.cells #[.int .i64 p.W, .int .i64 p.H, .slice p.a p.n p.c] 27)) B (some ⟨w.heap.size,0,none⟩) 1 1 [p]:=by
 refine ⟨rfl, .inr ⟨_,rfl,hB,⟨_,heap_alloc_new w _,by simp,by unfold maxLen;omega,by simp,by simp [flatV,PV.cells]⟩⟩,fun k hk=>?_,fun k b hk hb=>?_,fun j k b h1 hk=>by omega⟩
 · obtain rfl:k=0:=by omega
   exact hp.alloc _
 · obtain rfl:k=0:=by omega
   have:=hp.bd b hb
   intro e
   simp only [blockOf,Option.some.injEq] at e
   omega
end Go.Proofs.YtanccoopbgamdaaGreatDoor
namespace Go.Proofs.YtanccoopbgamdaaGreatDoor
set_option linter.unusedVariables false
set_option linter.unusedSimpArgs false
def wayG (d a:Int):Int:=min (d % a) (a - d % a)
def farG (W H:Int) (i k:Nat):Int:=wayG ((i:Int) % W - (k:Int) % W) W*wayG ((i:Int) % W - (k:Int) % W) W+wayG ((i:Int)/W - (k:Int)/W) H*wayG ((i:Int)/W - (k:Int)/W) H
theorem wayG_bd {d a:Int} (ha:1≤a):0≤wayG d a∧wayG d a≤a:=by
 have h1:=Int.emod_nonneg d (show a≠0 by omega)
 have h2:=Int.emod_lt_of_pos d (show 0<a by omega)
 unfold wayG
 omega
theorem wayG_neg {d a:Int} (ha:1≤a):wayG (-d) a=wayG d a:=by
 have h1:=Int.emod_nonneg d (show a≠0 by omega)
 have h2:=Int.emod_lt_of_pos d (show 0<a by omega)
 have h3:=Int.emod_nonneg (-d) (show a≠0 by omega)
 have h4:=Int.emod_lt_of_pos (-d) (show 0<a by omega)
 have e:(d % a+(-d) % a) % a=0:=by
   rw [←Int.add_emod]
   simp [Int.add_right_neg]
 have h5:d % a+(-d) % a=0∨d % a+(-d) % a=a:=by
   by_cases h:d % a+(-d) % a<a
   · left
     rw [Int.emod_eq_of_lt (by omega) h] at e
     exact e
   · right
     have e2:(d % a+(-d) % a - a) % a=0:=by rw [Int.sub_emod_right];exact e
     rw [Int.emod_eq_of_lt (by omega) (by omega)] at e2
     omega
 unfold wayG
 omega
theorem farG_symm {W H:Int} (hW:1≤W) (hH:1≤H) (i k:Nat):farG W H i k=farG W H k i:=by
 unfold farG
 rw [show (i:Int) % W - (k:Int) % W=-((k:Int) % W - (i:Int) % W) by omega,wayG_neg hW,show (i:Int)/W - (k:Int)/W=-((k:Int)/W - (i:Int)/W) by omega,wayG_neg hH]
theorem sq_nn {x:Int} (h:0≤x):0≤x*x:=Int.mul_nonneg h h
def wtG (W H:Int) (i k:Nat):Int:=4096/(1+farG W H i k)
def crowdTo (W H:Int) (xs:List Int) (i:Nat):Nat→Int
 | 0=>0
 | k+1=>crowdTo W H xs i k+(if xs.getD k 0=1 then wtG W H i k else 0)
def crowdG (W H:Int) (xs:List Int) (i:Nat):Int:=crowdTo W H xs i xs.length
def fieldOk (W H:Int) (xs:List Int):Bool:=picOk W H xs 1 && decide (xs.length≤256)
def bestTo (xs:List Int) (v:Int) (c:Nat→Int):Nat→Int
 | 0=>-1
 | k+1=>if xs.getD k 0=v∧(bestTo xs v c k<0∨c k<c (bestTo xs v c k).toNat) then (k:Int) else bestTo xs v c k
def tightF (W H:Int) (xs:List Int):Int:=bestTo xs 1 (fun j=>-(1*crowdG W H xs j)) xs.length
def wideF (W H:Int) (xs:List Int):Int:=bestTo xs 0 (fun j=>-(-1*crowdG W H xs j)) xs.length
def flipT (W H:Int) (xs:List Int):List Int:=xs.set (tightF W H xs).toNat 0
def flipW (W H:Int) (xs:List Int):List Int:=xs.set (wideF W H xs).toNat 1
def swapG (W H:Int) (xs:List Int):List Int × Bool:=
 if tightF W H xs<0 then (xs,false) else (flipW W H (flipT W H xs),decide (wideF W H (flipT W H xs)≠tightF W H xs))
def evenG (W H:Int):Nat→List Int→List Int × Nat
 | 0,xs=>(xs,0)
 | m+1,xs=>if (swapG W H xs).2=true then ((evenG W H m (swapG W H xs).1).1,(evenG W H m (swapG W H xs).1).2+1) else (xs,0)
def downG (W H:Int) (xs:List Int) (d:Nat) (rs:List Int):Nat→List Int × List Int
 | 0=>(xs,rs)
 | k+1=>(flipT W H (downG W H xs d rs k).1,(downG W H xs d rs k).2.set (tightF W H (downG W H xs d rs k).1).toNat ((d:Int) - 1 - k))
def upG (W H:Int) (xs:List Int) (d:Nat) (rs:List Int):Nat→List Int × List Int
 | 0=>(xs,rs)
 | k+1=>(flipW W H (upG W H xs d rs k).1,(upG W H xs d rs k).2.set (wideF W H (upG W H xs d rs k).1).toNat ((d:Int)+k))
def ranksG (W H:Int) (xs:List Int):List Int:=
 (upG W H xs (icount 1 xs) (downG W H xs (icount 1 xs) (List.replicate xs.length 0) (icount 1 xs)).2 (xs.length - icount 1 xs)).2
def evenF (W H:Int) (xs:List Int) (m:Int):Pic × Int:=if fieldOk W H xs=true∧0≤m∧m≤64 then (⟨W,H,(evenG W H m.toNat xs).1⟩,((evenG W H m.toNat xs).2:Int)) else (⟨W,H,xs⟩,0)
def rankF (W H:Int) (xs:List Int):Mat × Bool:=if fieldOk W H xs=true then (⟨W,H,ranksG W H xs⟩,true) else (noMat,false)
def seedF (W H e:Int):Pic × Bool:=if sizeOk W H=true∧W*H≤256∧1≤e∧e≤100 then (⟨W,H,gen (W*H).toNat (fun i=>if (i:Int)*7 % e=0 then 1 else 0)⟩,true) else (noPic,false)
theorem field_bd {W H:Int} {xs:List Int} {n:Nat} (hn:xs.length=n) (h:fieldOk W H xs=true):1≤W∧W≤64∧1≤H∧H≤64∧(n:Int)=W*H∧n≤256∧1≤n∧within xs 1=true∧sizeOk W H=true:=by
 unfold fieldOk at h
 simp only [Bool.and_eq_true,decide_eq_true_eq] at h
 obtain ⟨h1,h2⟩:=h
 obtain ⟨hs,hq,hi⟩:=picOk_bd hn h1
 obtain ⟨b1,b2,b3,b4,b5,b6⟩:=sizeOk_bd hs
 exact ⟨b1,b2,b3,b4,hq,by omega,by omega,hi,hs⟩
theorem field_mk {W H:Int} {xs:List Int} {n:Nat} (hn:xs.length=n) (hs:sizeOk W H=true) (hq:(n:Int)=W*H) (hi:within xs 1=true) (h:n≤256):fieldOk W H xs=true:=by
 unfold fieldOk
 rw [picOk_in hn hs hq,hi]
 simp;omega
def Dots (xs:List Int):Prop:= ∀k,k<xs.length→xs.getD k 0=0∨xs.getD k 0=1
theorem dots_of {xs:List Int} (h:within xs 1=true):Dots xs:=fun k hk=>by
 have:=within_at h k hk
 simp only [List.getD_eq_getElem?_getD]
 omega
theorem within_of {xs:List Int} (h:Dots xs):within xs 1=true:=by
 unfold within
 rw [List.all_eq_true]
 intro v hv
 obtain ⟨k,hk,rfl⟩:=List.mem_iff_getElem.1 hv
 have:=h k hk
 simp only [List.getD,List.getElem?_eq_getElem hk,Option.getD_some] at this
 simp;omega
theorem getD_set_eq {xs:List Int} {i:Nat} (h:i<xs.length) (v:Int):(xs.set i v).getD i 0=v:=by
 simp [List.getD,List.getElem?_set,h]
theorem getD_set_neQ {xs:List Int} {i k:Nat} (h:i≠k) (v:Int):(xs.set i v).getD k 0=xs.getD k 0:=by
 simp [List.getD,List.getElem?_set,h]
theorem Dots.set {xs:List Int} (h:Dots xs) (i:Nat) {v:Int} (hv:v=0∨v=1):Dots (xs.set i v):=fun k hk=>by
 rw [List.length_set] at hk
 by_cases e:i=k
 · subst e;rw [getD_set_eq hk];exact hv
 · rw [getD_set_neQ e];exact h k hk
theorem field_set {W H:Int} {xs:List Int} (h:fieldOk W H xs=true) (i:Nat) {v:Int} (hv:v=0∨v=1):fieldOk W H (xs.set i v)=true:=by
 obtain ⟨_,_,_,_,b5,b6,_,b8,b9⟩:=field_bd rfl h
 exact field_mk (n:=xs.length) (by simp) b9 b5 (within_of ((dots_of b8).set i hv)) b6
theorem far_nn {W H:Int} (hW:1≤W) (hH:1≤H) (i k:Nat):0≤farG W H i k:=by
 unfold farG
 have:=sq_nn (wayG_bd (d:=(i:Int) % W - (k:Int) % W) hW).1
 have:=sq_nn (wayG_bd (d:=(i:Int)/W - (k:Int)/W) hH).1
 omega
theorem wt_bd {W H:Int} (hW:1≤W) (hH:1≤H) (i k:Nat):0≤wtG W H i k∧wtG W H i k≤4096:=by
 have h:=far_nn hW hH i k
 unfold wtG
 exact ⟨Int.ediv_nonneg (by omega) (by omega),Int.ediv_le_self _ (by omega)⟩
theorem wt_symm {W H:Int} (hW:1≤W) (hH:1≤H) (i k:Nat):wtG W H i k=wtG W H k i:=by unfold wtG;rw [farG_symm hW hH]
theorem crowdTo_bd {W H:Int} (hW:1≤W) (hH:1≤H) (xs:List Int) (i k:Nat):0≤crowdTo W H xs i k∧crowdTo W H xs i k≤4096*k:=by
 induction k with
 | zero=>simp [crowdTo]
 | succ k ih=>
   have:=wt_bd hW hH i k
   unfold crowdTo
   split <;>omega
theorem crowdG_bd {W H:Int} {xs:List Int} {n:Nat} (hn:xs.length=n) (h:fieldOk W H xs=true) (i:Nat):0≤crowdG W H xs i∧crowdG W H xs i≤1048576:=by
 obtain ⟨b1,_,b3,_,_,b6,_⟩:=field_bd hn h
 have:=crowdTo_bd b1 b3 xs i xs.length
 unfold crowdG
 omega
theorem crowdTo_set {W H:Int} {xs:List Int} {i:Nat} (v:Int) (j k:Nat) (h:k≤i):crowdTo W H (xs.set i v) j k=crowdTo W H xs j k:=by
 induction k with
 | zero=>rfl
 | succ k ih=>
   unfold crowdTo
   rw [ih (by omega),getD_set_neQ (by omega)]
theorem crowdTo_put {W H:Int} {xs:List Int} {i:Nat} (j k:Nat) (hi:i<xs.length) (h0:xs.getD i 0=0) (h:i<k):crowdTo W H (xs.set i 1) j k=crowdTo W H xs j k+wtG W H j i:=by
 induction k with
 | zero=>omega
 | succ k ih=>
   unfold crowdTo
   by_cases e:k=i
   · subst e
     rw [crowdTo_set _ _ _ (by omega),getD_set_eq hi,h0,if_pos rfl,if_neg (by decide)]
     omega
   · rw [ih (by omega),getD_set_neQ (by omega)]
     omega
theorem crowdTo_take {W H:Int} {xs:List Int} {i:Nat} (j k:Nat) (hi:i<xs.length) (h0:xs.getD i 0=1) (h:i<k):crowdTo W H (xs.set i 0) j k=crowdTo W H xs j k - wtG W H j i:=by
 induction k with
 | zero=>omega
 | succ k ih=>
   unfold crowdTo
   by_cases e:k=i
   · subst e
     rw [crowdTo_set _ _ _ (by omega),getD_set_eq hi,h0,if_pos rfl,if_neg (by decide)]
     omega
   · rw [ih (by omega),getD_set_neQ (by omega)]
     omega
theorem crowd_put {W H:Int} {xs:List Int} {i:Nat} (j:Nat) (hi:i<xs.length) (h0:xs.getD i 0=0):crowdG W H (xs.set i 1) j=crowdG W H xs j+wtG W H j i:=by
 unfold crowdG;rw [List.length_set];exact crowdTo_put j _ hi h0 hi
theorem crowd_take {W H:Int} {xs:List Int} {i:Nat} (j:Nat) (hi:i<xs.length) (h0:xs.getD i 0=1):crowdG W H (xs.set i 0) j=crowdG W H xs j - wtG W H j i:=by
 unfold crowdG;rw [List.length_set];exact crowdTo_take j _ hi h0 hi
def BestIs (n:Nat) (xs:List Int) (v:Int) (c:Nat→Int) (b:Int):Prop:=
 (b=-1∧ ∀j,j<n→xs.getD j 0≠v)∨ ∃i:Nat,b=(i:Int)∧i<n∧xs.getD i 0=v∧ ∀j,j<n→xs.getD j 0=v→c i≤c j∧(j<i→c i<c j)
theorem best_is (xs:List Int) (v:Int) (c:Nat→Int) (n:Nat):BestIs n xs v c (bestTo xs v c n):=by
 induction n with
 | zero=>exact Or.inl ⟨rfl,fun j h=>by omega⟩
 | succ k ih=>
   unfold bestTo
   rcases ih with ⟨h1,h2⟩ | ⟨i,h1,h2,h3,h4⟩
   · rw [h1]
     by_cases e:xs.getD k 0=v
     · rw [if_pos ⟨e,Or.inl (by omega)⟩]
       refine Or.inr ⟨k,rfl,by omega,e,fun j hj hv=>?_⟩
       by_cases hjk:j=k
       · subst hjk;exact ⟨Int.le_refl _,fun h=>by omega⟩
       · exact absurd hv (h2 j (by omega))
     · rw [if_neg (fun h=>e h.1)]
       refine Or.inl ⟨rfl,fun j hj=>?_⟩
       by_cases hjk:j=k
       · subst hjk;exact e
       · exact h2 j (by omega)
   · rw [h1]
     simp only [Int.toNat_natCast]
     by_cases e:xs.getD k 0=v∧((i:Int)<0∨c k<c i)
     · rw [if_pos e]
       have hc:c k<c i:=by rcases e.2 with h | h;omega;exact h
       refine Or.inr ⟨k,rfl,by omega,e.1,fun j hj hv=>?_⟩
       by_cases hjk:j=k
       · subst hjk;exact ⟨Int.le_refl _,fun h=>by omega⟩
       · have:=h4 j (by omega) hv
         exact ⟨by omega,fun _=>by omega⟩
     · rw [if_neg e]
       refine Or.inr ⟨i,rfl,by omega,h3,fun j hj hv=>?_⟩
       by_cases hjk:j=k
       · subst hjk
         have: ¬c j<c i:=fun h=>e ⟨hv,Or.inr h⟩
         exact ⟨by omega,fun h=>by omega⟩
       · exact h4 j (by omega) hv
theorem BestIs.one {n:Nat} {xs:List Int} {v:Int} {c:Nat→Int} {b b':Int} (h:BestIs n xs v c b) (h':BestIs n xs v c b'):b=b':=by
 rcases h with ⟨h1,h2⟩ | ⟨i,h1,h2,h3,h4⟩
 · rcases h' with ⟨g1,g2⟩ | ⟨k,g1,g2,g3,g4⟩
   · rw [h1,g1]
   · exact absurd g3 (h2 k g2)
 · rcases h' with ⟨g1,g2⟩ | ⟨k,g1,g2,g3,g4⟩
   · exact absurd h3 (g2 i h2)
   · have a1:=h4 k g2 g3
     have a2:=g4 i h2 h3
     have:i=k:=by
       rcases Nat.lt_trichotomy i k with h | h | h
       · have:=a2.2 h;omega
       · exact h
       · have:=a1.2 h;omega
     rw [h1,g1,this]
theorem BestIs.congr {n:Nat} {xs:List Int} {v:Int} {c c':Nat→Int} {b:Int} (h:BestIs n xs v c b) (e: ∀j,j<n→c j=c' j):BestIs n xs v c' b:=by
 rcases h with h | ⟨i,h1,h2,h3,h4⟩
 · exact Or.inl h
 · exact Or.inr ⟨i,h1,h2,h3,fun j hj hv=>by rw [←e i h2,←e j hj];exact h4 j hj hv⟩
theorem best_cases (xs:List Int) (v:Int) (c:Nat→Int) (n:Nat):(bestTo xs v c n=-1∧ ∀j,j<n→xs.getD j 0≠v)∨ ∃i:Nat,bestTo xs v c n=i∧i<n∧xs.getD i 0=v:=by
 rcases best_is xs v c n with h | ⟨i,h1,h2,h3,_⟩
 · exact Or.inl h
 · exact Or.inr ⟨i,h1,h2,h3⟩
theorem tight_cases (W H:Int) (xs:List Int):(tightF W H xs=-1∧ ∀j,j<xs.length→xs.getD j 0≠1)∨ ∃i:Nat,tightF W H xs=i∧i<xs.length∧xs.getD i 0=1:=best_cases _ _ _ _
theorem wide_cases (W H:Int) (xs:List Int):(wideF W H xs=-1∧ ∀j,j<xs.length→xs.getD j 0≠0)∨ ∃i:Nat,wideF W H xs=i∧i<xs.length∧xs.getD i 0=0:=best_cases _ _ _ _
theorem set_back {xs:List Int} {i:Nat} {v u:Int} (hi:i<xs.length) (h:xs.getD i 0=v):(xs.set i u).set i v=xs:=by
 rw [List.set_set]
 apply List.ext_getElem?
 intro k
 rw [List.getElem?_set]
 by_cases e:i=k
 · subst e
   rw [if_pos rfl,if_pos hi,List.getElem?_eq_getElem hi]
   simp only [List.getD,List.getElem?_eq_getElem hi,Option.getD_some] at h
   rw [h]
 · rw [if_neg e]
theorem wide_after {W H:Int} {xs:List Int} {i:Nat} (hi:i<xs.length): ∃k:Nat,wideF W H (xs.set i 0)=k∧k<xs.length∧(xs.set i 0).getD k 0=0:=by
 rcases wide_cases W H (xs.set i 0) with ⟨_,h⟩ | ⟨k,h1,h2,h3⟩
 · exact absurd (getD_set_eq hi 0) (h i (by simpa using hi))
 · exact ⟨k,h1,by simpa using h2,h3⟩
theorem swap_same {W H:Int} {xs:List Int} (h:(swapG W H xs).2=false):(swapG W H xs).1=xs:=by
 unfold swapG at h⊢
 rcases tight_cases W H xs with ⟨h1,h2⟩ | ⟨i,h1,h2,h3⟩
 · rw [if_pos (by omega)]
 · have e: ¬tightF W H xs<0:=by omega
   rw [if_neg e] at h⊢
   simp only [decide_eq_false_iff_not,Decidable.not_not,ne_eq] at h
   unfold flipW
   rw [h]
   unfold flipT
   rw [h1]
   simp only [Int.toNat_natCast]
   exact set_back h2 h3
theorem tight_len (W H:Int) (xs:List Int):(flipT W H xs).length=xs.length:=by simp [flipT]
theorem wide_len (W H:Int) (xs:List Int):(flipW W H xs).length=xs.length:=by simp [flipW]
theorem field_flipT {W H:Int} {xs:List Int} (h:fieldOk W H xs=true):fieldOk W H (flipT W H xs)=true:=field_set h _ (Or.inl rfl)
theorem field_flipW {W H:Int} {xs:List Int} (h:fieldOk W H xs=true):fieldOk W H (flipW W H xs)=true:=field_set h _ (Or.inr rfl)
theorem field_swap {W H:Int} {xs:List Int} (h:fieldOk W H xs=true):fieldOk W H (swapG W H xs).1=true:=by
 unfold swapG
 split
 · exact h
 · exact field_flipW (field_flipT h)
theorem swap_len (W H:Int) (xs:List Int):(swapG W H xs).1.length=xs.length:=by
 unfold swapG
 split
 · rfl
 · rw [wide_len,tight_len]
theorem even_no {W H:Int} {xs:List Int} (m:Nat) (h:(swapG W H xs).2=false):evenG W H m xs=(xs,0):=by
 cases m with
 | zero=>rfl
 | succ m=>unfold evenG;rw [if_neg (by rw [h];decide)]
theorem even_yes {W H:Int} {xs:List Int} {m:Nat} (h:(swapG W H xs).2=true):evenG W H (m+1) xs=((evenG W H m (swapG W H xs).1).1,(evenG W H m (swapG W H xs).1).2+1):=by
 rw [evenG,if_pos h]
theorem even_len (W H:Int) (m:Nat) (xs:List Int):(evenG W H m xs).1.length=xs.length:=by
 induction m generalizing xs with
 | zero=>rfl
 | succ m ih=>
   unfold evenG
   split
   · rw [ih,swap_len]
   · rfl
theorem icount_set {xs:List Int} {i:Nat} (hi:i<xs.length) (v u:Int):icount v (xs.set i u)+(if xs.getD i 0=v then 1 else 0)=icount v xs+(if u=v then 1 else 0):=by
 induction xs generalizing i with
 | nil=>simp at hi
 | cons a r ih=>
   cases i with
   | zero=>
     rw [List.set_cons_zero,icount_cons,icount_cons]
     simp only [List.getD_cons_zero]
     omega
   | succ i=>
     rw [List.set_cons_succ,icount_cons,icount_cons]
     have:=ih (i:=i) (by simpa using hi)
     simp only [List.getD_cons_succ]
     omega
theorem icount_zero {v:Int} {xs:List Int} (h: ∀j,j<xs.length→xs.getD j 0≠v):icount v xs=0:=by
 unfold icount
 rw [List.length_eq_zero_iff,List.filter_eq_nil_iff]
 intro a ha
 obtain ⟨k,hk,rfl⟩:=List.mem_iff_getElem.1 ha
 have:=h k hk
 simp only [List.getD,List.getElem?_eq_getElem hk,Option.getD_some] at this
 simpa using this
theorem dots_count {xs:List Int} (h:Dots xs):icount 0 xs+icount 1 xs=xs.length:=by
 induction xs with
 | nil=>rfl
 | cons a r ih=>
   rw [icount_cons,icount_cons]
   have h0:=h 0 (by simp)
   have hr:Dots r:=fun k hk=>by have:=h (k+1) (by simpa using hk);simpa using this
   have:=ih hr
   simp only [List.getD_cons_zero] at h0
   simp only [List.length_cons]
   rcases h0 with h0 | h0 <;>subst h0 <;>simp <;>omega
theorem flipT_count {W H:Int} {xs:List Int} {i:Nat} (h1:tightF W H xs=i) (h2:i<xs.length) (h3:xs.getD i 0=1):icount 1 (flipT W H xs)+1=icount 1 xs:=by
 unfold flipT
 rw [h1]
 have:=icount_set h2 1 0
 rw [h3] at this
 simpa using this
theorem flipW_count {W H:Int} {xs:List Int} {i:Nat} (h1:wideF W H xs=i) (h2:i<xs.length) (h3:xs.getD i 0=0):icount 1 (flipW W H xs)=icount 1 xs+1:=by
 unfold flipW
 rw [h1]
 have:=icount_set h2 1 1
 rw [h3] at this
 simpa using this
theorem tight_some {W H:Int} {xs:List Int} (h:0<icount 1 xs): ∃i:Nat,tightF W H xs=i∧i<xs.length∧xs.getD i 0=1:=by
 rcases tight_cases W H xs with ⟨_,h2⟩ | h2
 · have:=icount_zero h2;omega
 · exact h2
theorem wide_some {W H:Int} {xs:List Int} (hd:Dots xs) (h:icount 1 xs<xs.length): ∃i:Nat,wideF W H xs=i∧i<xs.length∧xs.getD i 0=0:=by
 rcases wide_cases W H xs with ⟨_,h2⟩ | h2
 · have:=icount_zero h2;have:=dots_count hd;omega
 · exact h2
theorem down_inv {W H:Int} {xs:List Int} (h:fieldOk W H xs=true) (rs:List Int) (k:Nat) (hk:k≤icount 1 xs):
   fieldOk W H (downG W H xs (icount 1 xs) rs k).1=true∧(downG W H xs (icount 1 xs) rs k).1.length=xs.length∧icount 1 (downG W H xs (icount 1 xs) rs k).1+k=icount 1 xs∧(downG W H xs (icount 1 xs) rs k).2.length=rs.length:=by
 induction k with
 | zero=>exact ⟨h,rfl,rfl,rfl⟩
 | succ k ih=>
   obtain ⟨h1,h2,h3,h4⟩:=ih (by omega)
   obtain ⟨i,i1,i2,i3⟩:=tight_some (W:=W) (H:=H) (xs:=(downG W H xs (icount 1 xs) rs k).1) (by omega)
   have:=flipT_count i1 i2 i3
   unfold downG
   exact ⟨field_flipT h1,by rw [tight_len];exact h2,by simp only [];omega,by simp only [List.length_set];exact h4⟩
theorem up_inv {W H:Int} {xs:List Int} (h:fieldOk W H xs=true) (d:Nat) (rs:List Int) (k:Nat) (hk:icount 1 xs+k≤xs.length):
   fieldOk W H (upG W H xs d rs k).1=true∧(upG W H xs d rs k).1.length=xs.length∧icount 1 (upG W H xs d rs k).1=icount 1 xs+k∧(upG W H xs d rs k).2.length=rs.length:=by
 induction k with
 | zero=>exact ⟨h,rfl,rfl,rfl⟩
 | succ k ih=>
   obtain ⟨h1,h2,h3,h4⟩:=ih (by omega)
   obtain ⟨i,i1,i2,i3⟩:=wide_some (W:=W) (H:=H) (xs:=(upG W H xs d rs k).1) (dots_of (field_bd rfl h1).2.2.2.2.2.2.2.1) (by omega)
   have:=flipW_count i1 i2 i3
   unfold upG
   exact ⟨field_flipW h1,by rw [wide_len];exact h2,by simp only [];omega,by simp only [List.length_set];exact h4⟩
theorem icount_le (v:Int) (xs:List Int):icount v xs≤xs.length:=List.length_filter_le _ _
theorem isum_dots {xs:List Int} (h:Dots xs):isum xs=(icount 1 xs:Int):=by
 induction xs with
 | nil=>rfl
 | cons a r ih=>
   rw [icount_cons]
   have h0:=h 0 (by simp)
   have hr:Dots r:=fun k hk=>by have:=h (k+1) (by simpa using hk);simpa using this
   have:=ih hr
   simp only [List.getD_cons_zero] at h0
   unfold isum
   rcases h0 with h0 | h0 <;>subst h0 <;>simp <;>omega
end Go.Proofs.YtanccoopbgamdaaGreatDoor
