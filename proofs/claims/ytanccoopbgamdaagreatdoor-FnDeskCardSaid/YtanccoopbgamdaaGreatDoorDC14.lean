/-
  Contracts and plain facts on which the theorem of this claim rests, text 14.
-/
import Derived.Test.YtanccoopbgamdaaGreatDoorDC10
import Derived.Test.YtanccoopbgamdaaGreatDoorDC11
import Derived.Test.YtanccoopbgamdaaGreatDoorDC12
import Derived.Test.YtanccoopbgamdaaGreatDoorDC13
namespace Go.Proofs.YtanccoopbgamdaaGreatDoor
open Go.RowKit
set_option linter.unusedVariables false
set_option linter.unusedSimpArgs false
theorem marks_get {ps:List PV} {N i:Nat} (hi:i<N):(marksL ps N).getD i 0=markG (picsV ps) i:=by
 unfold marksL
 rw [gen_get _ _ _ hi]
def cntL (ps:List PV) (M i:Nat):List Int:=gen M (fun r=>cntI (markG (picsV ps)) r i)
theorem cntL_start (ps:List PV) (M:Nat):List.replicate M 0=cntL ps M 0:=by
 unfold cntL
 refine gen_ext M _ _ (by simp) (fun i hi=>?_)
 simp [cntI,List.getD,hi]
theorem cntL_step {ps:List PV} {M i m:Nat} (hm:markG (picsV ps) i=(m:Int)) (hM:m<M) {V:Int} (hV:cntI (markG (picsV ps)) m i=V):(cntL ps M i).set m (V+1)=cntL ps M (i+1):=by
 unfold cntL
 refine gen_setW hM ?_ (fun r hr hne=>?_)
 · show cntI (markG (picsV ps)) m i+(if markG (picsV ps) i=m then 1 else 0)=V+1
   rw [hm,if_pos rfl,hV]
 · show cntI (markG (picsV ps)) r i+(if markG (picsV ps) i=r then 1 else 0)=_
   rw [hm,if_neg (by omega),Int.add_zero]
theorem cntL_get {ps:List PV} {M i m:Nat} (hM:m<M):(cntL ps M i).getD m 0=cntI (markG (picsV ps)) m i:=by
 unfold cntL
 rw [gen_get _ _ _ hM]
theorem counts_yes {ps:List PV} {n N:Nat} {W H:Int} (T:Stk ps n N W H):markCountsF (picsV ps)=cntL ps (2^n) N:=by
 unfold markCountsF cntL
 rw [if_pos T.ok,picsV_len,T.len,T.inkLen]
theorem counts_no {L:List Pic} (h:stackOk L=false):markCountsF L=[]:=by unfold markCountsF;rw [h];rfl
theorem mark_lt {ps:List PV} {n N:Nat} {W H:Int} (T:Stk ps n N W H) {i:Nat} (hi:i<N): ∃m:Nat,markG (picsV ps) i=m∧m<2^n:=by
 obtain ⟨h1,h2⟩:=T.bits hi (Nat.le_refl n)
 rw [←T.mark] at h1 h2
 have e:(2:Int)^n=((2^n:Nat):Int):=by push_cast;rfl
 rw [e] at h2
 exact ⟨(markG (picsV ps) i).toNat,by omega,by omega⟩
theorem pow_nat {n:Nat} (h:n≤4):1≤2^n∧2^n≤16:=by
 have:=pow_small h
 have e:(2:Int)^n=((2^n:Nat):Int):=by push_cast;rfl
 omega
def CountsOut (w:World) (xs:List Int) (e:Ending) (w':World):Prop:= ∃a n c,e= .returned (.slice a n c)∧OwnA w' w.heap.size a n c xs∧n≤1048576∧Below w.heap.size w w'
set_option maxHeartbeats 3200000 in
theorem impl_MarkCounts (ad:Option Addr) (n cap:Nat) (ps:List PV) (w:World) (hn:ps.length=n) (ha:RdV w ad ps) (hl:n≤1048576) (h4: ∀k,k<ps.length→(pv ps k).n≤1048576):
   Calls Tryz.prog 110 #[.slice ad n cap] w (CountsOut w (markCountsF (picsV ps))):=by
 have HA:=Lib.hid ha
 have CS:=Lib.hid (impl_IsStack ad n cap ps w hn ha hl h4)
 by_cases hs:stackOk (picsV ps)=true
 case neg=>
   have hs2:stackOk (picsV ps)=false:=by simpa using hs
   rw [counts_no hs2]
   rw [hs2] at CS
   clear hs hs2 hn ha h4
   go_enter Tryz.func110,Tryz.ntmps110
   go_wp2_with fail
   refine CS.out.mono ?_
   rintro e w1 ⟨rfl,hb⟩
   have HB1:=Lib.hid hb
   clear hb
   go_wp2_with fail
   go_ret
   exact ⟨none,0,0,rfl,OwnA.none _ _,by omega,HB1.out⟩
 case pos=>
   obtain ⟨N,W,H,T⟩:=stk_of hn hs
   rw [counts_yes T]
   rw [hs] at CS
   have HT:=Lib.hid T
   have hn1:=T.n1
   have hn4:=T.n4
   have hN1:=T.N1
   have hN2:=T.N2
   obtain ⟨m1,m2⟩:=pow_nat hn4
   have CL:=Lib.hid (fun v:World=>impl_markLimit ad n cap v hn4)
   obtain ⟨M,hM⟩: ∃M,2^n=M:=⟨_,rfl⟩
   have hMl: ∀i:Nat,i<N→ ∃m:Nat,markG (picsV ps) i=m∧m<M:=fun i hi=>by rw [←hM];exact mark_lt T hi
   have HML:=Lib.hid hMl
   rw [hM] at m1 m2 CL⊢
   clear hs hn ha h4 T hM hMl
   go_enter Tryz.func110,Tryz.ntmps110
   go_wp2_with fail
   refine CS.out.mono ?_
   rintro e w1 ⟨rfl,hb⟩
   have HB1:=Lib.hid hb
   have HA1:=Lib.hid (HA.out.below hb)
   clear hb
   go_wp2_with fail
   refine (CL.out _).mono ?_
   rintro e w9 ⟨rfl,rfl⟩
   go_wp2_with (at_make;refine wp_make _ rfl _ _ rfl .i64 .i64 _ _ M rfl rfl rfl rfl (by omega) ?_;intro MM hMM)
   have HO0:=Lib.hid (hMM.own w1)
   have HB2:=Lib.hid (bAlloc HB1.out (.cells MM 3))
   have HA2:=Lib.hid (HA1.out.alloc (.cells MM 3))
   clear hMM
   refine (impl_marksOf HT.out ad cap _ (by exact HA2.out)).mono ?_
   rintro e w3 ⟨g,rfl,hg,ho,hb⟩
   have HO3:=Lib.hid (HO0.out.below hb HO0.out.lt)
   have HB3:=Lib.hid (bTrans HB2.out hb)
   have HG:Hid (w1.heap.size<g):=Lib.hid (by simp at hg;omega)
   have HR3:=Lib.hid ho
   have GL:Hid (w.heap.size≤w1.heap.size):=Lib.hid HB1.out.size
   clear hb ho hg
   go_wp2_with fail
   go_loopw [15] (fun i wr=> ∃k:Nat,k≤N∧i= .int .i64 k∧Hid (Own wr w1.heap.size M M (cntL ps M k))∧Hid (w3.grownBy wr (some w1.heap.size))) (fun i _=>N - (intOf i).toNat)
   case atStart=>exact ⟨0,Nat.zero_le _,rfl,Lib.hid (by rw [←cntL_start];exact HO3.out),Lib.hid (grown_refl _ _)⟩
   case round=>
     obtain ⟨k,hk,rfl,HO,HGR⟩:=hrel
     by_cases hlt:k<N
     · have HRr:=Lib.hid (HR3.out.grown HGR.out (by have:=HG.out;intro e;have:=Option.some.inj e;omega))
       have m4:=HRr.out.cell hlt
       rw [marks_get hlt] at m4
       obtain ⟨m,hm,hmM⟩:=HML.out k hlt
       rw [hm] at m4
       have hcb:=cntI_bd (markG (picsV ps)) m k
       obtain ⟨V,hV⟩: ∃V,cntI (markG (picsV ps)) m k=V:=⟨_,rfl⟩
       have hgm:=cntL_get (ps:=ps) (i:=k) hmM
       have HSE:=Lib.hid (cntL_step hm hmM hV)
       rw [hV] at hcb hgm
       obtain ⟨V0,V1⟩:=hcb
       have mm0:(m:Int)<(M:Int):=by omega
       have g2:=HO.out.cell hmM
       have g3:=HO.out.frozen m
       rw [hgm] at g2
       have HS:=Lib.hid (HO.out.set m (V+1))
       clear hm hV hgm
       go_wp2_with fail
       go_roundw
       case rel=>exact ⟨k+1,by omega,by go_num,Lib.hid (by rw [←HSE.out];exact HS.out),Lib.hid (grown_set HGR.out _)⟩
       case measure=>simp [intOf];omega
     · obtain rfl:k=N:=by omega
       have HBr:=Lib.hid (HB3.out.grown HGR.out HB3.out.size (by intro q hq;cases hq;exact GL.out))
       go_wp2_with fail
       go_ret
       exact ⟨_,_,_,rfl,OwnA.mk HO.out GL.out,by omega,HBr.out⟩
theorem PerfIn.last {w:World} {B g k r:Nat} {D:Dsk} (h:PerfIn w B g D) (hk:D.n=k+1) (hr:D.a=some ⟨r,0,none⟩):
   w.cell? ⟨r,k*3,none⟩=some (.int .i64 (pv D.ps k).W)∧w.cell? ⟨r,k*3+1,none⟩=some (.int .i64 (pv D.ps k).H)∧w.cell? ⟨r,k*3+2,none⟩=some (.slice (pv D.ps k).a (pv D.ps k).n (pv D.ps k).c)∧
   (pv D.ps k).ink.length=(pv D.ps k).n∧Rd w (pv D.ps k).a (pv D.ps k).ink∧(pv D.ps k).n≤1048576∧(pv D.ps k).n≤(pv D.ps k).c:=by
 have hl:k<D.ps.length:=by rw [h.own.s.len,hk];omega
 have rv:=h.own.s.rd
 rw [hr] at rv
 obtain ⟨_,c0,c1,c2⟩:=rv.cells hl
 simp only [Nat.zero_add] at c0 c1 c2
 refine ⟨c0,c1,c2,rv.len hl,rv.rd hl,h.small.s k hl,?_⟩
 rcases h.own.s.ink k (by omega) with ⟨_,h1,h2,_⟩ | ⟨_,_,_,h1⟩
 · omega
 · exact h1.2.choose_spec.2.1
def InI64 (v:Int):Prop:=-9223372036854775808≤v∧v≤9223372036854775807
def meanT (d:Dat) (q:Pic):Dat × List UInt8:=(d,textI [(meanF q.W q.H q.ink).1,(meanF q.W q.H q.ink).2])
def runsT (d:Dat) (q:Pic):Dat × List UInt8:=(d,textI (runsF q.W q.H q.ink))
def countsT (d:Dat) (q:Pic):Dat × List UInt8:=(d,textI (markCountsF d.2.2))
def errorT (d:Dat) (q:Pic):Dat × List UInt8:=(d,textI [errF d.1.W d.1.H d.1.ink q.W q.H q.ink])
theorem rd_lit2 (w:World) (a b:Int) (T:Nat):Rd (w.alloc (.cells #[.int .i64 a, .int .i64 b] T)) (some ⟨w.heap.size,0,none⟩) [a,b]:=by
 intro k hk
 refine ⟨w.heap.size,0,rfl,by simp,?_⟩
 rw [(Blk.new w T #[.int .i64 a, .int .i64 b]).cell]
 have hk2:k<2:=by simpa using hk
 rcases (show k=0∨k=1 by omega) with rfl | rfl <;>rfl
theorem rd_lit1 (w:World) (a:Int) (T:Nat):Rd (w.alloc (.cells #[.int .i64 a] T)) (some ⟨w.heap.size,0,none⟩) [a]:=by
 intro k hk
 obtain rfl:k=0:=by simpa using hk
 exact ⟨w.heap.size,0,rfl,by simp,by rw [(Blk.new w T #[.int .i64 a]).cell];rfl⟩
set_option maxRecDepth 100000 in
set_option maxHeartbeats 1600000 in
theorem told_mean (k r:Nat) (w:World) (B g:Nat) (D:Dsk) (hin:PerfIn w B g D) (hk:D.n=k+1) (hr:D.a=some ⟨r,0,none⟩) (hi:InI64 (meanF (pv D.ps k).W (pv D.ps k).H (pv D.ps k).ink).1∧InI64 (meanF (pv D.ps k).W (pv D.ps k).H (pv D.ps k).ink).2):
   Calls Tryz.prog 87 #[.pointer (some ⟨g,0,none⟩), .pointer (some ⟨r,k*3,none⟩)] w (PerfOut B g D (fun d=>meanT d (pv D.ps k).pic) w):=by
 have HIN:=Lib.hid hin
 obtain ⟨c0,c1,c2,ln,rd,sm,_⟩:=hin.last hk hr
 obtain ⟨q,hq⟩: ∃q,pv D.ps k=q:=⟨_,rfl⟩
 rw [hq] at c0 c1 c2 ln rd sm hi⊢
 have RD:=Lib.hid rd
 have LN:=Lib.hid ln
 have HI:=Lib.hid hi
 clear hin hk hr rd ln hi hq
 go_enter Tryz.func87,Tryz.ntmps87
 go_wp2_with fail
 refine (impl_MeanOf q.W q.H q.a q.n q.c q.ink _ LN.out (by exact RD.out) (by omega)).mono ?_
 rintro e w1 ⟨rfl,hb⟩
 obtain ⟨X,hX⟩: ∃X,(meanF q.W q.H q.ink).1=X:=⟨_,rfl⟩
 obtain ⟨Y,hY⟩: ∃Y,(meanF q.W q.H q.ink).2=Y:=⟨_,rfl⟩
 have E:Hid (meanT D.dat q.pic=(D.dat,textI [X,Y])):=Lib.hid (by unfold meanT;rw [show q.pic.W=q.W from rfl,show q.pic.H=q.H from rfl,show q.pic.ink=q.ink from rfl,hX,hY])
 rw [hX,hY] at HI⊢
 have HB1:=Lib.hid (bAlloc hb (.cells #[.int .i64 X, .int .i64 Y] 3))
 have HLw:=Lib.hid ((HIN.out.laid.below hb).below (Joins.below_alloc1 w1 (.cells #[.int .i64 X, .int .i64 Y] 3)))
 clear hb c0 c1 c2 hX hY
 go_wp2_with fail
 refine (impl_textOf (some ⟨w1.heap.size,0,none⟩) 2 2 [X,Y] _ rfl (by exact rd_lit2 _ _ _ _) (by omega) (fun x hx=>by simp at hx;rcases hx with rfl | rfl;exact HI.out.1;exact HI.out.2) (by exact HLw.out)).mono ?_
 rintro e w2 ⟨rfl,hb⟩
 have HB2:=Lib.hid (bTrans HB1.out hb)
 go_wp2_with fail
 go_ret
 exact HIN.out.stay HB2.out (by rw [E.out]) (by rw [E.out])
set_option maxRecDepth 100000 in
set_option maxHeartbeats 1600000 in
theorem told_runs (k r:Nat) (w:World) (B g:Nat) (D:Dsk) (hin:PerfIn w B g D) (hk:D.n=k+1) (hr:D.a=some ⟨r,0,none⟩) (hi:(runsF (pv D.ps k).W (pv D.ps k).H (pv D.ps k).ink).length≤4096∧ ∀x,x ∈ runsF (pv D.ps k).W (pv D.ps k).H (pv D.ps k).ink→InI64 x):
   Calls Tryz.prog 86 #[.pointer (some ⟨g,0,none⟩), .pointer (some ⟨r,k*3,none⟩)] w (PerfOut B g D (fun d=>runsT d (pv D.ps k).pic) w):=by
 have HIN:=Lib.hid hin
 obtain ⟨c0,c1,c2,ln,rd,sm,_⟩:=hin.last hk hr
 obtain ⟨q,hq⟩: ∃q,pv D.ps k=q:=⟨_,rfl⟩
 rw [hq] at c0 c1 c2 ln rd sm hi⊢
 have RD:=Lib.hid rd
 have LN:=Lib.hid ln
 have HI:=Lib.hid hi
 clear hin hk hr rd ln hi hq
 go_enter Tryz.func86,Tryz.ntmps86
 go_wp2_with fail
 refine (impl_RunsOf q.W q.H q.a q.n q.c q.ink _ LN.out (by exact RD.out) (by omega)).mono ?_
 obtain ⟨X,hX⟩: ∃X,runsF q.W q.H q.ink=X:=⟨_,rfl⟩
 have E:Hid (runsT D.dat q.pic=(D.dat,textI X)):=Lib.hid (by unfold runsT;rw [show q.pic.W=q.W from rfl,show q.pic.H=q.H from rfl,show q.pic.ink=q.ink from rfl,hX])
 rw [hX] at HI⊢
 rintro e w1 ⟨a1,n1,k1,rfl,ho,hn1,hb⟩
 have HB1:=Lib.hid hb
 have HO:=Lib.hid ho
 have HLw:=Lib.hid (HIN.out.laid.below hb)
 have ll:=HI.out.1
 rw [ho.len] at ll
 clear hb c0 c1 c2 hX ho
 go_wp2_with fail
 refine (impl_textOf a1 n1 k1 X _ HO.out.len (by exact HO.out.rd) ll (fun x hx=>HI.out.2 x hx) (by exact HLw.out)).mono ?_
 rintro e w2 ⟨rfl,hb⟩
 have HB2:=Lib.hid (bTrans HB1.out hb)
 go_wp2_with fail
 go_ret
 exact HIN.out.stay HB2.out (by rw [E.out]) (by rw [E.out])
set_option maxRecDepth 100000 in
set_option maxHeartbeats 1600000 in
theorem told_counts (k r:Nat) (w:World) (B g:Nat) (D:Dsk) (hin:PerfIn w B g D) (hk:D.n=k+1) (hr:D.a=some ⟨r,0,none⟩) (hi:(markCountsF (picsV D.ps)).length≤4096∧ ∀x,x ∈ markCountsF (picsV D.ps)→InI64 x):
   Calls Tryz.prog 88 #[.pointer (some ⟨g,0,none⟩), .pointer (some ⟨r,k*3,none⟩)] w (PerfOut B g D (fun d=>countsT d (pv D.ps k).pic) w):=by
 have HIN:=Lib.hid hin
 have KG:Blk w g 43 #[.int .i64 D.P.W, .int .i64 D.P.H, .slice D.P.a D.P.n D.P.c, .int .i64 D.M.W, .int .i64 D.M.H, .slice D.M.a D.M.n D.M.c, .slice D.a D.n D.c]:=hin.box
 obtain ⟨m0,d0,d1,d2,d3,d4,d5,d6⟩:=KG.c7
 have HI:=Lib.hid hi
 clear hin hk hr hi KG d0 d1 d2 d3 d4 d5
 go_enter Tryz.func88,Tryz.ntmps88
 go_wp2_with fail
 refine (impl_MarkCounts D.a D.n D.c D.ps _ HIN.out.own.s.len (by exact HIN.out.own.s.rd) (by have:=HIN.out.small.n;omega) (by exact HIN.out.small.s)).mono ?_
 obtain ⟨X,hX⟩: ∃X,markCountsF (picsV D.ps)=X:=⟨_,rfl⟩
 have E:Hid (countsT D.dat (pv D.ps k).pic=(D.dat,textI X)):=Lib.hid (by unfold countsT;rw [show D.dat.2.2=picsV D.ps from rfl,hX])
 rw [hX] at HI⊢
 rintro e w1 ⟨a1,n1,k1,rfl,ho,hn1,hb⟩
 have HB1:=Lib.hid hb
 have HO:=Lib.hid ho
 have HLw:=Lib.hid (HIN.out.laid.below hb)
 have ll:=HI.out.1
 rw [ho.len] at ll
 clear hb m0 d6 hX ho
 go_wp2_with fail
 refine (impl_textOf a1 n1 k1 X _ HO.out.len (by exact HO.out.rd) ll (fun x hx=>HI.out.2 x hx) (by exact HLw.out)).mono ?_
 rintro e w2 ⟨rfl,hb⟩
 have HB2:=Lib.hid (bTrans HB1.out hb)
 go_wp2_with fail
 go_ret
 exact HIN.out.stay HB2.out (by rw [E.out]) (by rw [E.out])
def IntsOut (w:World) (xs:List Int) (e:Ending) (w':World):Prop:=
 ∃a n c,e= .returned (.slice a n c)∧OwnA w' w.heap.size a n c xs∧n≤1048576∧Below w.heap.size w w'
set_option maxHeartbeats 800000 in
theorem impl_LevelsFor (W H:Int) (ad:Option Addr) (n cap:Nat) (xs:List Int) (W' H':Int) (ad':Option Addr) (n' cap':Nat) (ys:List Int) (w:World)
   (hn:xs.length=n) (ha:Rd w ad xs) (hl:n≤9223372036854775807) (hn':ys.length=n') (ha':Rd w ad' ys) (hl':n'≤9223372036854775807):
   Calls Tryz.prog 26 #[.agg #[.int .i64 W, .int .i64 H, .slice ad n cap], .agg #[.int .i64 W', .int .i64 H', .slice ad' n' cap']] w (IntsOut w (levelsF W H xs W' H' ys)):=by
 have HN:=Lib.hid hn
 have HA:=Lib.hid ha
 have HN':=Lib.hid hn'
 have HA':=Lib.hid ha'
 clear hn ha hn' ha'
 by_cases hp:matOk W H xs=true
 case neg=>
   have hp2:matOk W H xs=false:=by simpa using hp
   rw [levelsF_no (fun h=>hp h.1)]
   clear hp
   go_enter Tryz.func26,Tryz.ntmps26
   go_wp2_with fail
   refine (impl_IsMatrix _ _ _ _ _ xs _ HN.out (by exact (HA.out.alloc _).alloc _) hl).mono ?_
   rintro e w1 ⟨rfl,hb⟩
   have HB1:=Lib.hid (bTrans (bAlloc (bAlloc (Below.refl _ _) _) _) hb)
   have KP1:=Lib.hid (((Blk.new' (g:=w.heap.size) 31 #[.int .i64 W, .int .i64 H, .slice ad n cap] (by first | rfl | simp)).alloc _).below' hb)
   have KQ1:Hid (Blk w1 (w.heap.size+1) 27 #[.int .i64 W', .int .i64 H', .slice ad' n' cap']):=Lib.hid ((Blk.new' (g:=w.heap.size+1) 27 #[.int .i64 W', .int .i64 H', .slice ad' n' cap'] (by simp)).below' hb)
   obtain ⟨l1,c0,c1,c2⟩:=KP1.out.c3
   obtain ⟨m1,d0,d1,d2⟩:=KQ1.out.c3
   clear hb
   rw [hp2]
   go_wp2_with fail
   go_ret
   exact ⟨_,_,_,rfl,OwnA.none _ _,by omega,HB1.out⟩
 case pos=>
   by_cases hp':picOk W' H' ys 255=true
   case neg=>
     have hp2:picOk W' H' ys 255=false:=by simpa using hp'
     rw [levelsF_no (fun h=>hp' h.2)]
     clear hp'
     go_enter Tryz.func26,Tryz.ntmps26
     go_wp2_with fail
     refine (impl_IsMatrix _ _ _ _ _ xs _ HN.out (by exact (HA.out.alloc _).alloc _) hl).mono ?_
     rintro e w1 ⟨rfl,hb⟩
     have HB1:=Lib.hid (bTrans (bAlloc (bAlloc (Below.refl _ _) _) _) hb)
     have KP1:=Lib.hid (((Blk.new' (g:=w.heap.size) 31 #[.int .i64 W, .int .i64 H, .slice ad n cap] (by first | rfl | simp)).alloc _).below' hb)
     have KQ1:Hid (Blk w1 (w.heap.size+1) 27 #[.int .i64 W', .int .i64 H', .slice ad' n' cap']):=Lib.hid ((Blk.new' (g:=w.heap.size+1) 27 #[.int .i64 W', .int .i64 H', .slice ad' n' cap'] (by simp)).below' hb)
     obtain ⟨l1,c0,c1,c2⟩:=KP1.out.c3
     obtain ⟨m1,d0,d1,d2⟩:=KQ1.out.c3
     clear hb
     rw [hp]
     go_wp2_with fail
     refine (impl_IsPicture _ _ _ _ _ ys _ HN'.out (by exact HA'.out.below HB1.out) hl').mono ?_
     rintro e w2 ⟨rfl,hb⟩
     have HB2:=Lib.hid (bTrans HB1.out hb)
     have KP2:=Lib.hid (KP1.out.below' hb)
     have KQ2:=Lib.hid (KQ1.out.below' hb)
     clear c0 c1 c2 d0 d1 d2 hb
     obtain ⟨l2,c0,c1,c2⟩:=KP2.out.c3
     obtain ⟨m2,d0,d1,d2⟩:=KQ2.out.c3
     rw [hp2]
     go_wp2_with fail
     go_ret
     exact ⟨_,_,_,rfl,OwnA.none _ _,by omega,HB2.out⟩
   case pos=>
     rw [levelsF_yes HN.out hp hp']
     obtain ⟨hs,hq,hi,hd⟩:=matOk_bd HN.out hp
     obtain ⟨b1,b2,b3,b4,b5,b6⟩:=matSize_bd hs
     have HQ:=Lib.hid hq
     have HI:=Lib.hid hi
     have HD:=Lib.hid hd
     have HS:=Lib.hid hs
     have hn1:1≤n:=by omega
     have hn2:n≤256:=by omega
     clear hq hi hs hd
     obtain ⟨hs,hq,hi⟩:=picOk_bd HN'.out hp'
     obtain ⟨b1',b2',b3',b4',b5',b6'⟩:=sizeOk_bd hs
     have HQ':=Lib.hid hq
     have HI':=Lib.hid hi
     have HS':=Lib.hid hs
     have hn1':1≤n':=by omega
     have hn2':n'≤1024:=by omega
     clear hq hi hs
     go_enter Tryz.func26,Tryz.ntmps26
     go_wp2_with fail
     refine (impl_IsMatrix _ _ _ _ _ xs _ HN.out (by exact (HA.out.alloc _).alloc _) hl).mono ?_
     rintro e w1 ⟨rfl,hb⟩
     have HB1:=Lib.hid (bTrans (bAlloc (bAlloc (Below.refl _ _) _) _) hb)
     have KP1:=Lib.hid (((Blk.new' (g:=w.heap.size) 31 #[.int .i64 W, .int .i64 H, .slice ad n cap] (by first | rfl | simp)).alloc _).below' hb)
     have KQ1:Hid (Blk w1 (w.heap.size+1) 27 #[.int .i64 W', .int .i64 H', .slice ad' n' cap']):=Lib.hid ((Blk.new' (g:=w.heap.size+1) 27 #[.int .i64 W', .int .i64 H', .slice ad' n' cap'] (by simp)).below' hb)
     obtain ⟨l1,c0,c1,c2⟩:=KP1.out.c3
     obtain ⟨m1,d0,d1,d2⟩:=KQ1.out.c3
     clear hb
     rw [hp]
     go_wp2_with fail
     refine (impl_IsPicture _ _ _ _ _ ys _ HN'.out (by exact HA'.out.below HB1.out) hl').mono ?_
     rintro e w2 ⟨rfl,hb⟩
     have HB2:=Lib.hid (bTrans HB1.out hb)
     have KP2:=Lib.hid (KP1.out.below' hb)
     have KQ2:=Lib.hid (KQ1.out.below' hb)
     clear c0 c1 c2 d0 d1 d2 hb
     obtain ⟨l2,c0,c1,c2⟩:=KP2.out.c3
     obtain ⟨m2,d0,d1,d2⟩:=KQ2.out.c3
     rw [hp']
     go_wp2_with (at_make;refine wp_make _ rfl _ _ rfl .i64 .i64 n' n' n' rfl rfl rfl rfl (by omega) ?_;intro M hM)
     have HM:=Lib.hid hM
     clear hM
     go_loopw [23] (fun i wr=> ∃k:Nat,k≤n'∧i= .int .i64 k∧Own wr w2.heap.size n' n' (filled (ys.map (levelG n)) (List.replicate n' 0) k)∧Below w2.heap.size w2 wr) (fun i _=>n' - (intOf i).toNat)
     case atStart=>exact ⟨0,Nat.zero_le _,rfl,by rw [filled_zero];exact HM.out.own _,Joins.below_alloc1 _ _⟩
     case round=>
       obtain ⟨k,hk,rfl,ho,hnx⟩:=hrel
       have HBr:=Lib.hid (bTrans HB2.out hnx)
       have KP:=Lib.hid (KP2.out.below' hnx)
       have KQ:=Lib.hid (KQ2.out.below' hnx)
       obtain ⟨l9,p0,p1,p2⟩:=KP.out.c3
       obtain ⟨m9,q0,q1,q2⟩:=KQ.out.c3
       by_cases hlt:k<n'
       · obtain ⟨ba,oa,hae,hal,hac⟩:=(HA'.out.below HBr.out).at (by have:=HN'.out;omega)
         have h1:=hac k (by have:=HN'.out;omega)
         subst hae
         clear hac
         obtain ⟨v1,v2⟩:=within_at HI'.out k (by have:=HN'.out;omega)
         have g2:wr.cell? ⟨w2.heap.size,k,none⟩=some (.int .i64 ((filled (ys.map (levelG n)) (List.replicate n' 0) k).getD k 0)):=ho.cell hlt
         have g3:wr.frozen? ⟨w2.heap.size,k,none⟩=false:=ho.frozen k
         have hs:=ho.set k (levelG n (ys[k]?.getD 0))
         rw [filled_succ (ys.map (levelG n)) _ k _ (by have:=HN'.out;simp;omega) (by simp;omega) (map_get _ _ _ (by have:=HN'.out;omega))] at hs
         have HSt:=Lib.hid hs
         clear hs ho
         go_wp2_with fail
         refine (impl_nearest n _ _ v1 v2 hn2).mono ?_
         rintro e w3 ⟨rfl,rfl⟩
         go_wp2_with fail
         go_roundw
         case rel=>exact ⟨k+1,by omega,by go_num,by simpa using HSt.out,hnx.setCell (Nat.le_refl _) _⟩
         case measure=>simp [intOf];omega
       · go_wp2_with fail
         go_ret
         obtain rfl:n'=k:=by omega
         rw [filled_at (ys.map (levelG n)) _ n' (by have:=HN'.out;simp;omega) (by simp)] at ho
         exact ⟨_,_,_,rfl,OwnA.mk ho (by have:=HB2.out.size;omega),by omega,HBr.out⟩
theorem tm_facts (k:Nat) (tw:Int) (h:1≤tw) (hk:k≤1024): ∃X Y:Int,0≤X∧X<tw∧0≤Y∧Y≤(k:Int)∧(k:Int).tmod tw=X∧(k:Int).tdiv tw=Y∧IntKind.i64.wrap Y=Y∧Hid (X=(k:Int) % tw∧Y=(k:Int)/tw):=by
 have e1:0≤(k:Int) % tw:=Int.emod_nonneg _ (by omega)
 have e2:(k:Int) % tw<tw:=Int.emod_lt_of_pos _ (by omega)
 have e3:0≤(k:Int)/tw:=Int.ediv_nonneg (by omega) (by omega)
 have e4:(k:Int)/tw≤k:=Int.ediv_le_self _ (by omega)
 exact ⟨(k:Int) % tw,(k:Int)/tw,e1,e2,e3,e4,Int.tmod_eq_emod_of_nonneg (by omega),Int.tdiv_eq_ediv_of_nonneg (by omega),IntWalk.i64_in _ (by omega),Lib.hid ⟨rfl,rfl⟩⟩
set_option maxRecDepth 100000 in
set_option maxHeartbeats 1600000 in
theorem impl_screened (W H:Int) (ad:Option Addr) (n cap:Nat) (xs:List Int) (al:Option Addr) (m c:Nat) (ls:List Int) (tw th:Int) (w:World)
   (hn:xs.length=n) (ha:Rd w ad xs) (mk:matOk W H xs=true) (hm:ls.length=m) (hal:Rd w al ls) (hs:sizeOk tw th=true) (hq:(m:Int)=tw*th):
   Calls Tryz.prog 25 #[.agg #[.int .i64 W, .int .i64 H, .slice ad n cap], .slice al m c, .int .i64 tw] w (PicOut w ⟨tw,th,gen m (dotG W H xs ls tw)⟩):=by
 have HN:=Lib.hid hn
 have HA:=Lib.hid ha
 clear hn ha
 obtain ⟨ks,kq,ki,kd⟩:=matOk_bd HN.out mk
 obtain ⟨b1,b2,b3,b4,b5,b6⟩:=matSize_bd ks
 have HQ:=Lib.hid kq
 have hn2:n≤256:=by omega
 clear ks kq ki kd mk
 obtain ⟨t1,t2,t3,t4,t5,t6⟩:=sizeOk_bd hs
 have HD:Hid ((m:Int)/tw=th):=Lib.hid (by rw [hq];exact Int.mul_ediv_cancel_left _ (by omega))
 obtain ⟨d0,d1⟩:0≤(m:Int)/tw∧(m:Int)/tw≤64:=by rw [HD.out];omega
 have HM:=Lib.hid hq
 have HS:=Lib.hid hs
 have HL:=Lib.hid hm
 have HAL:=Lib.hid hal
 have hm1:1≤m:=by omega
 have hm2:m≤1024:=by omega
 clear hq hs hm hal t5 t6
 go_enter Tryz.func25,Tryz.ntmps25
 go_wp2_with fail
 have hD:=HD.out
 rw [hD]
 clear hD d0 d1
 refine (impl_blank tw th m _ HS.out HM.out).mono ?_
 rintro e w2 ⟨g,rfl,hg,ho,hb⟩
 have HB2:=Lib.hid ((Joins.below_alloc2 _ _ _).trans (hb.mono (by simp;omega)))
 have KP2:=Lib.hid (((Blk.new w 31 #[.int .i64 W, .int .i64 H, .slice ad n cap]).alloc _).below' hb)
 have KR2:Hid (Blk w2 (w.heap.size+1) 27 #[.int .i64 0, .int .i64 0, .slice none 0 0]):=by
   have h:=(Blk.new (w.alloc (.cells #[.int .i64 W, .int .i64 H, .slice ad n cap] 31)) 27 #[.int .i64 0, .int .i64 0, .slice none 0 0]).below' hb
   exact Lib.hid (by simpa using h)
 have HO:=Lib.hid ho
 have HG:Hid (w.heap.size+1+1≤g):=Lib.hid (by simpa using hg)
 clear hb ho hg
 go_wp2_with fail
 go_loopw [18] (fun i wr=> ∃k:Nat,k≤m∧i= .int .i64 k∧Own wr g m m (filled (gen m (dotG W H xs ls tw)) (List.replicate m 0) k)∧(w2.alloc (.cells #[.int .i64 tw, .int .i64 th, .slice (some ⟨g,0,none⟩) m m] 27)).grownBy wr (some g)) (fun i _=>m - (intOf i).toNat)
 case atStart=>exact ⟨0,Nat.zero_le _,rfl,by rw [filled_zero];exact HO.out.alloc _,grown_refl _ _⟩
 case round=>
   obtain ⟨k,hk,rfl,ho,hg⟩:=hrel
   have HBr:=Lib.hid ((HB2.out.alloc HB2.out.size _).grown hg (by have:=HB2.out.size;simp;omega) (by intro k hk;cases hk;have:=HG.out;omega))
   have KO:=Lib.hid ((Blk.new w2 27 #[.int .i64 tw, .int .i64 th, .slice (some ⟨g,0,none⟩) m m]).grown hg (by have:=HO.out.lt;simp;omega))
   obtain ⟨l0,o0,o1,o2⟩:=KO.out.c3
   have KP:=Lib.hid ((KP2.out.alloc _).grown hg (by have:=HG.out;simp;omega))
   obtain ⟨l9,p0,p1,p2⟩:=KP.out.c3
   by_cases hlt:k<m
   · obtain ⟨ba,oa,hae,hal,hac⟩:=(HAL.out.below HBr.out).at (by have:=HL.out;omega)
     have h1:=hac k (by have:=HL.out;omega)
     subst hae
     clear hac
     have g2:wr.cell? ⟨g,k,none⟩=some (.int .i64 ((filled (gen m (dotG W H xs (ls) tw)) (List.replicate m 0) k).getD k 0)):=ho.cell hlt
     have g3:wr.frozen? ⟨g,k,none⟩=false:=ho.frozen k
     have gl:=ho.lt
     have HO4:=Lib.hid ho
     clear ho
     have hW0:(tw==0)=false:=by simp;omega
     have hW1: ¬tw=0:=by omega
     obtain ⟨X,Y,x0,x1,y0,y1,tX,tY,wY,HXY⟩:=tm_facts k tw t1 (by omega)
     have HV:Hid ((gen m (dotG W H xs (ls) tw)).getD k 0=if rankOf W H xs X Y<ls[k]?.getD 0 then 1 else 0):=Lib.hid (by rw [gen_get _ _ _ hlt,HXY.out.1,HXY.out.2];rfl)
     by_cases hb:rankOf W H xs X Y<ls[k]?.getD 0
     · go_wp2_with fail
       go_region_held3 (fun v=>v.cell? ⟨w.heap.size,0,none⟩=some (.int .i64 W)∧v.cell? ⟨w.heap.size,1,none⟩=some (.int .i64 H)∧v.cell? ⟨w.heap.size,2,none⟩=some (.slice ad n cap))
         (first | exact ⟨p0,p1,p2⟩ | exact ⟨(hq1.cell l9).trans p0,(hq1.cell l9).trans p1,(hq1.cell l9).trans p2⟩)
         (first
           | (go_at_call 44;((with_reducible refine (impl_wrappedRank W H ad n cap xs X Y _ HN.out (by exact (HA.out.below HBr.out).of_heap rfl) HQ.out b1 b3 hn2 b2 b4).mono ?_);rintro e v1 ⟨rfl,hq1⟩;have y3:=(hq1.cell l0).trans o2;have t2':=(hq1.cell gl).trans g2;have t3':=(hq1.frozen gl).trans g3)))
       have hv:(gen m (dotG W H xs (ls) tw)).getD k 0=1:=by rw [HV.out,if_pos hb]
       have hs:=((HO4.out.drewN 1).below hq1 gl).set k 1
       rw [filled_succ (gen m (dotG W H xs (ls) tw)) _ k _ (by rw [gen_len];exact hlt) (by simp;omega) hv] at hs
       have HSt:=Lib.hid hs
       have HG5:=Lib.hid (grown_trans hg (grown_of_below (row:=some g) (below_undrew hq1)))
       clear hs hv hg
       go_wp2_with fail
       go_roundw
       case rel=>exact ⟨k+1,by omega,by go_num,HSt.out,grown_set HG5.out _⟩
       case measure=>simp [intOf];omega
     · go_wp2_with fail
       go_region_held3 (fun v=>v.cell? ⟨w.heap.size,0,none⟩=some (.int .i64 W)∧v.cell? ⟨w.heap.size,1,none⟩=some (.int .i64 H)∧v.cell? ⟨w.heap.size,2,none⟩=some (.slice ad n cap))
         (first | exact ⟨p0,p1,p2⟩ | exact ⟨(hq1.cell l9).trans p0,(hq1.cell l9).trans p1,(hq1.cell l9).trans p2⟩)
         (first
           | (go_at_call 44;((with_reducible refine (impl_wrappedRank W H ad n cap xs X Y _ HN.out (by exact (HA.out.below HBr.out).of_heap rfl) HQ.out b1 b3 hn2 b2 b4).mono ?_);rintro e v1 ⟨rfl,hq1⟩;have y3:=(hq1.cell l0).trans o2;have t2':=(hq1.cell gl).trans g2;have t3':=(hq1.frozen gl).trans g3)))
       have hs:=filled_skip (gen m (dotG W H xs (ls) tw)) (List.replicate m 0) k (by rw [gen_len];exact hlt) (by simp;omega) (by rw [HV.out,if_neg (by omega)];simp [List.getD,hlt])
       have HSt:Hid (Own v1 g m m (filled (gen m (dotG W H xs (ls) tw)) (List.replicate m 0) (k+1))):=Lib.hid (by rw [←hs];exact (HO4.out.drewN 1).below hq1 gl)
       have HG5:=Lib.hid (grown_trans hg (grown_of_below (row:=some g) (below_undrew hq1)))
       clear hs hg
       go_wp2_with fail
       go_roundw
       case rel=>exact ⟨k+1,by omega,by go_num,HSt.out,HG5.out⟩
       case measure=>simp [intOf];omega
   · obtain rfl:m=k:=by omega
     have KR:=Lib.hid ((KR2.out.alloc _).grown hg (by have:=HG.out;have:=KR2.out.lt;simp;omega))
     obtain ⟨r0,r1,r2,r3⟩:=KR.out.c3
     obtain ⟨q0,q1,q2⟩:=KR.out.f3
     rw [filled_at (gen m (dotG W H xs ls tw)) _ m (by rw [gen_len]) (by simp)] at ho
     have HO3:=Lib.hid ho
     clear ho
     go_wp2_with fail
     exact bodyPost_ret (v:= .agg #[.int .i64 tw, .int .i64 th, .slice (some ⟨g,0,none⟩) m m]) (by simp [results,Tryz.results25,go_sem,r1,r2,r3]) rfl
       ⟨_,_,_,rfl,OwnA.mk (((HO3.out.other (by have:=HG.out;simp;omega) _).other (by have:=HG.out;simp;omega) _).other (by have:=HG.out;simp;omega) _) (by have:=HG.out;omega),by omega,
         ((HBr.out.setCell (by first | (simp;done) | (simp;omega)) _).setCell (by first | (simp;done) | (simp;omega)) _).setCell (by first | (simp;done) | (simp;omega)) _⟩
end Go.Proofs.YtanccoopbgamdaaGreatDoor
