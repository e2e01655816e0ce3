/-
  Contracts and plain facts on which the theorem of this claim rests, text 13.
-/
import Derived.Shelf.Abstract
import Derived.Test.YtanccoopbgamdaaGreatDoorKC3
import Derived.Test.YtanccoopbgamdaaGreatDoorKC4
import Derived.Test.YtanccoopbgamdaaGreatDoorKC5
import Derived.Test.YtanccoopbgamdaaGreatDoorKC10
import Derived.Test.YtanccoopbgamdaaGreatDoorKC12
namespace Go.Proofs.YtanccoopbgamdaaGreatDoor
open Go.RowKit
set_option linter.unusedVariables false
set_option linter.unusedSimpArgs false
abbrev Dat:=Pic × Pic × List Pic
def ansOk:List UInt8:=[111,107]
def ansNo:List UInt8:=[110,111]
def ansFull:List UInt8:=[102,117,108,108]
def ansNone:List UInt8:=[110,111,110,101]
def ansBad:List UInt8:=[98,97,100]
def ansWhat:List UInt8:=[119,104,97,116]
def actPic (p:Pic) (d:Dat):Dat × List UInt8:=if picOk p.W p.H p.ink 255=true then ((p,d.2.1,[]),ansOk) else (d,ansNo)
def actMat (f:Pic→Pic) (d:Dat):Dat × List UInt8:=if matOk (f d.2.1).W (f d.2.1).H (f d.2.1).ink=true then ((d.1,f d.2.1,d.2.2),ansOk) else (d,ansNo)
def actLevel (i:Int) (d:Dat):Dat × List UInt8:=(d,if levelOfF d.2.1.W d.2.1.H d.2.1.ink i<0 then ansNo else textI [levelOfF d.2.1.W d.2.1.H d.2.1.ink i])
structure PerfIn (w:World) (B g:Nat) (D:Dsk):Prop where
 box:Blk w g 43 D.cells
 own:OwnD w B D
 off: ∀b,D.blocks b→b≠g
 small:SmallD D
 ok:deskOk D.dat=true
 base:B≤g
 laid:LaidW w
 six:6≤B
def PerfOut (B g:Nat) (D:Dsk) (F:Dat→Dat × List UInt8) (w:World) (e:Ending) (w':World):Prop:=
 ∃E:Dsk,e= .returned (.string ⟨(F D.dat).2.toArray⟩)∧Blk w' g 43 E.cells∧OwnD w' B E∧(∀b,E.blocks b→b≠g)∧E.dat=(F D.dat).1∧SmallD E∧Below B w w'
theorem PerfIn.size {w:World} {B g:Nat} {D:Dsk} (h:PerfIn w B g D):B≤w.heap.size:=Nat.le_of_lt (Nat.lt_of_le_of_lt h.base h.box.lt)
theorem PerfIn.below {w w':World} {B g:Nat} {D:Dsk} (h:PerfIn w B g D) (hb:Below w.heap.size w w'):PerfIn w' B g D:=
 ⟨h.box.below' hb,h.own.below hb,h.off,h.small,h.ok,h.base,h.laid.below hb,h.six⟩
theorem PerfIn.stay {w w':World} {B g:Nat} {D:Dsk} {F:Dat→Dat × List UInt8} {s:ByteArray} (h:PerfIn w B g D) (hb:Below w.heap.size w w') (hd:(F D.dat).1=D.dat) (ha:(⟨(F D.dat).2.toArray⟩:ByteArray)=s):
   PerfOut B g D F w (.returned (.string s)) w':=
 ⟨D,by rw [ha],h.box.below' hb,h.own.below hb,h.off,hd.symm,h.small,hb.mono h.size⟩
set_option maxRecDepth 100000 in
set_option maxHeartbeats 1600000 in
theorem perf_pic (q:PV) (w:World) (B g:Nat) (D:Dsk) (hin:PerfIn w B g D) (hq:OwnA w B q.a q.n q.c q.ink) (hg: ∀b,blockOf q.a=some b→b≠g) (hm: ∀b,blockOf q.a=some b→blockOf D.M.a≠some b) (hn:q.n≤1048576):
   Calls Tryz.prog 246 #[q.val, .pointer (some ⟨g,0,none⟩)] w (PerfOut B g D (actPic q.pic) w):=by
 obtain ⟨W,H,a,n,c,xs⟩:=q
 dsimp only [PV.pic] at*
 have HIN:=Lib.hid hin
 have HQ:=Lib.hid hq
 have HG:=Lib.hid hg
 have HM:=Lib.hid hm
 have HB0:=Lib.hid (Joins.below_alloc1 w (.cells #[.int .i64 W, .int .i64 H, .slice a n c] 122))
 clear hin hq hg hm
 show Calls Tryz.prog 246 #[.agg #[.int .i64 W, .int .i64 H, .slice a n c], .pointer (some ⟨g,0,none⟩)] w _
 go_enter Tryz.func246,Tryz.ntmps246
 go_wp2_with fail
 refine (impl_IsPicture W H a n c xs _ HQ.out.len (by exact HQ.out.rd.below HB0.out) (by omega)).mono ?_
 rintro e w1 ⟨rfl,hb⟩
 have HB1:=Lib.hid (bTrans HB0.out hb)
 have KT1:=Lib.hid ((Blk.new w 122 #[.int .i64 W, .int .i64 H, .slice a n c]).below' hb)
 clear hb
 by_cases hp:picOk W H xs 255=true
 case neg=>
   have hp2:picOk W H xs 255=false:=by simpa using hp
   have E:Hid (∀d,actPic ⟨W,H,xs⟩ d=(d,ansNo)):=Lib.hid (fun d=>by unfold actPic;rw [if_neg hp])
   rw [hp2]
   go_wp2_with fail
   go_ret
   exact HIN.out.stay HB1.out (by rw [E.out]) (by rw [E.out];rfl)
 have E:Hid (∀d,actPic ⟨W,H,xs⟩ d=((⟨W,H,xs⟩,d.2.1,[]),ansOk)):=Lib.hid (fun d=>by unfold actPic;rw [if_pos hp])
 rw [hp]
 have KG:=HIN.out.box.below' HB1.out
 obtain ⟨m0,d0,d1,d2,d3,d4,d5,d6⟩:=(show Blk w1 g 43 #[.int .i64 D.P.W, .int .i64 D.P.H, .slice D.P.a D.P.n D.P.c, .int .i64 D.M.W, .int .i64 D.M.H, .slice D.M.a D.M.n D.M.c, .slice D.a D.n D.c] from KG).c7
 obtain ⟨f0,f1,f2,f3,f4,f5,f6⟩:=KG.f7
 obtain ⟨l0,c0,c1,c2⟩:=KT1.out.c3
 have hbase:=HIN.out.base
 have hne: ¬w.heap.size=g:=by have:=HIN.out.box.lt;omega
 go_wp2_with fail
 go_ret
 have HQ1:=HQ.out.below' HB1.out
 have HM1:=HIN.out.own.m.below' HB1.out
 have q1: ∀ {u:World} {ad:Option Addr} {m k:Nat} {zs:List Int} (j:Nat) (x:Value),(∀b,blockOf ad=some b→b≠g)→OwnA u B ad m k zs→OwnA (u.setCell ⟨g,j,none⟩ x) B ad m k zs:=fun j x hx h=>h.otherT (fun e=>hx _ e rfl) x
 have gM: ∀b,blockOf D.M.a=some b→b≠g:=fun b hb=>HIN.out.off b (.inr (.inl hb))
 refine ⟨⟨⟨W,H,a,n,c,xs⟩,D.M,none,0,0,[]⟩,?_,?_,⟨?_,?_,OwnV.nil _ _,fun b hb=>HM.out b hb,fun b hb e=>?_,fun b hb e=>?_⟩,fun b hb=>?_,?_,⟨hn,HIN.out.small.m,by show 0≤1048576;omega,fun k hk=>by simp at hk⟩,?_⟩
 · rw [E.out];rfl
 · exact (((show Blk w1 g 43 #[.int .i64 D.P.W, .int .i64 D.P.H, .slice D.P.a D.P.n D.P.c, .int .i64 D.M.W, .int .i64 D.M.H, .slice D.M.a D.M.n D.M.c, .slice D.a D.n D.c] from KG).putP _ _ _).putS _)
 · exact q1 6 _ HG.out (q1 2 _ HG.out (q1 1 _ HG.out (q1 0 _ HG.out HQ1)))
 · exact q1 6 _ gM (q1 2 _ gM (q1 1 _ gM (q1 0 _ gM HM1)))
 · rcases hb with hb | ⟨k,hk,_⟩
   · cases hb
   · simp at hk
 · rcases hb with hb | ⟨k,hk,_⟩
   · cases hb
   · simp at hk
 · rcases hb with hb | hb | hb | ⟨k,hk,_⟩
   · exact HG.out b hb
   · exact gM b hb
   · cases hb
   · simp at hk
 · rw [E.out];rfl
 · exact (((((HB1.out.mono HIN.out.size).setCell hbase _).setCell hbase _).setCell hbase _).setCell hbase _)
set_option maxRecDepth 100000 in
set_option maxHeartbeats 1600000 in
theorem perf_level (i:Int) (w:World) (B g:Nat) (D:Dsk) (hin:PerfIn w B g D) (h0: ∀W H xs,-1≤levelOfF W H xs i∧levelOfF W H xs i≤9223372036854775807):
   Calls Tryz.prog 247 #[.int .i64 i, .pointer (some ⟨g,0,none⟩)] w (PerfOut B g D (actLevel i) w):=by
 have HIN:=Lib.hid hin
 have H0:=Lib.hid h0
 have KG:Blk w g 43 #[.int .i64 D.P.W, .int .i64 D.P.H, .slice D.P.a D.P.n D.P.c, .int .i64 D.M.W, .int .i64 D.M.H, .slice D.M.a D.M.n D.M.c, .slice D.a D.n D.c]:=hin.box
 clear hin h0
 obtain ⟨m0,d0,d1,d2,d3,d4,d5,d6⟩:=KG.c7
 go_enter Tryz.func247,Tryz.ntmps247
 go_wp2_with fail
 refine (impl_LevelOf D.M.W D.M.H D.M.a D.M.n D.M.c D.M.ink i _ HIN.out.own.m.len (by exact HIN.out.own.m.rd) (by have:=HIN.out.small.m;omega)).mono ?_
 rintro e w1 ⟨rfl,hb⟩
 have HB1:=Lib.hid hb
 obtain ⟨l0,l1⟩:=H0.out D.M.W D.M.H D.M.ink
 obtain ⟨V,hV⟩: ∃V,levelOfF D.M.W D.M.H D.M.ink i=V:=⟨_,rfl⟩
 rw [hV] at l0 l1⊢
 have E:Hid (∀c,c=ansNo∨c=textI [V]→(if V<0 then ansNo else textI [V])=c→(actLevel i D.dat)=(D.dat,c)):=Lib.hid (fun c _ hc=>by
   unfold actLevel
   rw [show D.dat.2.1.W=D.M.W from rfl,show D.dat.2.1.H=D.M.H from rfl,show D.dat.2.1.ink=D.M.ink from rfl,hV,hc])
 clear hb hV m0 d0 d1 d2 d3 d4 d5 d6 KG
 by_cases hlt:V<0
 · have E2:=Lib.hid (E.out ansNo (.inl rfl) (if_pos hlt))
   go_wp2_with fail
   go_ret
   exact HIN.out.stay HB1.out (by rw [E2.out]) (by rw [E2.out];rfl)
 · have E2:=Lib.hid (E.out (textI [V]) (.inr rfl) (if_neg hlt))
   have HLw:=Lib.hid ((HIN.out.laid.below HB1.out).below (Joins.below_alloc1 w1 (.cells #[.int .i64 V] 3)))
   have HB2:=Lib.hid (bAlloc HB1.out (.cells #[.int .i64 V] 3))
   have HR:Hid (Rd (w1.alloc (.cells #[.int .i64 V] 3)) (some ⟨w1.heap.size,0,none⟩) [V]):=Lib.hid (fun k hk=>by
     obtain rfl:k=0:=by simpa using hk
     exact ⟨w1.heap.size,0,rfl,by simp,by rw [(Blk.new w1 3 #[.int .i64 V]).cell];rfl⟩)
   go_wp2_with fail
   refine (impl_textOf (some ⟨w1.heap.size,0,none⟩) 1 1 [V] _ rfl (by exact HR.out) (by omega) (fun x hx=>by simp at hx;omega) (by exact HLw.out)).mono ?_
   rintro e w2 ⟨rfl,hb⟩
   have HB3:=Lib.hid (bTrans HB2.out hb)
   go_wp2_with fail
   go_ret
   exact HIN.out.stay HB3.out (by rw [E2.out]) (by rw [E2.out])
def MatRes (w:World) (B g:Nat) (D:Dsk) (p:Pic) (e:Ending) (w':World):Prop:=
 ∃m:PV,e= .returned m.val∧m.pic=p∧OwnA w' B m.a m.n m.c m.ink∧(∀b,blockOf m.a=some b→b≠g∧ ¬D.blocks b)∧m.n≤1048576∧Below w.heap.size w w'
set_option maxRecDepth 100000 in
set_option maxHeartbeats 1600000 in
theorem perf_mat (h:Nat) (lb:Array Value) (f:Pic→Pic) (w:World) (B g:Nat) (D:Dsk) (hin:PerfIn w B g D) (eh: ∀args w,(callFunc h args).run Tryz.prog w= .ok (.enter h args) w)
   (hc: ∀v,BelowL w v→Calls Tryz.prog h (#[.agg #[.int .i64 D.M.W, .int .i64 D.M.H, .slice D.M.a D.M.n D.M.c]]++lb) v (MatRes v B g D (f D.M.pic))):
   Calls Tryz.prog 243 #[.func (.func h) #[] lb, .pointer (some ⟨g,0,none⟩)] w (PerfOut B g D (actMat f) w):=by
 have HIN:=Lib.hid hin
 have HC:=Lib.hid hc
 have KG:Blk w g 43 #[.int .i64 D.P.W, .int .i64 D.P.H, .slice D.P.a D.P.n D.P.c, .int .i64 D.M.W, .int .i64 D.M.H, .slice D.M.a D.M.n D.M.c, .slice D.a D.n D.c]:=hin.box
 clear hin hc
 obtain ⟨m0,d0,d1,d2,d3,d4,d5,d6⟩:=KG.c7
 go_enter Tryz.func243,Tryz.ntmps243
 go_wp2_with (go_at_fn h;refine (HC.out _ (BelowL.mk (Below.refl _ _))).mono ?_;rintro e w1 ⟨⟨qW,qH,qa,qn,qc,qi⟩,rfl,hqp,hqo,hqb,hqn,hb⟩;dsimp only [PV.val])
 have HB1:=Lib.hid (bAlloc hb (.cells #[.int .i64 qW, .int .i64 qH, .slice qa qn qc] 31))
 have HQ1:=Lib.hid (hqo.alloc (.cells #[.int .i64 qW, .int .i64 qH, .slice qa qn qc] 31))
 have KT1:=Lib.hid (Blk.new w1 31 #[.int .i64 qW, .int .i64 qH, .slice qa qn qc])
 have HQB:=Lib.hid hqb
 have HQP:=Lib.hid hqp
 have HZ1:=Lib.hid hb.size
 clear hb hqo hqb hqp m0 d0 d1 d2 d3 d4 d5 d6
 obtain ⟨l0,c0,c1,c2⟩:=KT1.out.c3
 refine (impl_IsMatrix qW qH qa qn qc qi _ HQ1.out.len (by exact HQ1.out.rd) (by have h9:qn≤1048576:=hqn;omega)).mono ?_
 rintro e w2 ⟨rfl,hb⟩
 have HB2:=Lib.hid (bTrans HB1.out hb)
 have HQ2:=Lib.hid (HQ1.out.below' hb)
 have KT2:=Lib.hid (KT1.out.below' hb)
 clear hb l0 c0 c1 c2 HB1 HQ1 KT1
 have E0:f D.dat.2.1=⟨qW,qH,qi⟩:=HQP.out.symm
 by_cases hp:matOk qW qH qi=true
 case neg=>
   have hp2:matOk qW qH qi=false:=by simpa using hp
   have E:Hid (actMat f D.dat=(D.dat,ansNo)):=Lib.hid (by unfold actMat;rw [E0,if_neg hp])
   rw [hp2]
   go_wp2_with fail
   go_ret
   exact HIN.out.stay HB2.out (by rw [E.out]) (by rw [E.out];rfl)
 have E:Hid (actMat f D.dat=((D.P.pic,⟨qW,qH,qi⟩,picsV D.ps),ansOk)):=Lib.hid (by unfold actMat;rw [E0,if_pos hp];rfl)
 rw [hp]
 have KG2:Blk w2 g 43 #[.int .i64 D.P.W, .int .i64 D.P.H, .slice D.P.a D.P.n D.P.c, .int .i64 D.M.W, .int .i64 D.M.H, .slice D.M.a D.M.n D.M.c, .slice D.a D.n D.c]:=KG.below' HB2.out
 clear KG
 obtain ⟨m0,d0,d1,d2,d3,d4,d5,d6⟩:=KG2.c7
 obtain ⟨f0,f1,f2,f3,f4,f5,f6⟩:=KG2.f7
 obtain ⟨l0,c0,c1,c2⟩:=KT2.out.c3
 have hbase:=HIN.out.base
 have hne: ¬w1.heap.size=g:=by have:=HIN.out.box.lt;have:=HZ1.out;omega
 go_wp2_with fail
 go_ret
 have q1: ∀ {u:World} {ad:Option Addr} {m k:Nat} {zs:List Int} (j:Nat) (x:Value),(∀b,blockOf ad=some b→b≠g)→OwnA u B ad m k zs→OwnA (u.setCell ⟨g,j,none⟩ x) B ad m k zs:=fun j x hx h=>h.otherT (fun e=>hx _ e rfl) x
 have gP: ∀b,blockOf D.P.a=some b→b≠g:=fun b hb=>HIN.out.off b (.inl hb)
 have gQ: ∀b,blockOf qa=some b→b≠g:=fun b hb=>(HQB.out b hb).1
 have hs:OwnV (((w2.setCell ⟨g,3,none⟩ (.int .i64 qW)).setCell ⟨g,4,none⟩ (.int .i64 qH)).setCell ⟨g,5,none⟩ (.slice qa qn qc)) B D.a D.n D.c D.ps:=by
   have hk:KeepT (fun i=>i=g) w2 (((w2.setCell ⟨g,3,none⟩ (.int .i64 qW)).setCell ⟨g,4,none⟩ (.int .i64 qH)).setCell ⟨g,5,none⟩ (.slice qa qn qc)):=
     KeepT.set (S:=fun i=>i=g) (KeepT.set (S:=fun i=>i=g) (KeepT.set (S:=fun i=>i=g) (KeepT.refl _ w2) rfl _) rfl _) rfl _
   exact hk.ownV (HIN.out.own.s.below HB2.out) (fun i hi e=>HIN.out.off i (.inr (.inr hi)) e)
 refine ⟨⟨D.P,⟨qW,qH,qa,qn,qc,qi⟩,D.a,D.n,D.c,D.ps⟩,?_,KG2.putM _ _ _,⟨?_,?_,hs,fun b hb e=>?_,HIN.out.own.ps,fun b hb e=>?_⟩,fun b hb=>?_,?_,⟨HIN.out.small.p,hqn,HIN.out.small.n,HIN.out.small.s⟩,?_⟩
 · rw [E.out];rfl
 · exact q1 5 _ gP (q1 4 _ gP (q1 3 _ gP (HIN.out.own.p.below' HB2.out)))
 · exact q1 5 _ gQ (q1 4 _ gQ (q1 3 _ gQ HQ2.out))
 · exact (HQB.out b e).2 (.inl hb)
 · exact (HQB.out b e).2 (.inr (.inr hb))
 · rcases hb with hb | hb | hb
   · exact gP b hb
   · exact gQ b hb
   · exact HIN.out.off b (.inr (.inr hb))
 · rw [E.out];rfl
 · exact (((HB2.out.mono HIN.out.size).setCell hbase _).setCell hbase _).setCell hbase _
def actPlate (f:Dat→Pic × List UInt8) (d:Dat):Dat × List UInt8:=if d.2.2.length=4 then (d,ansFull) else ((d.1,d.2.1,d.2.2++ [(f d).1]),(f d).2)
def PlateRes (w:World) (r:Pic × List UInt8) (e:Ending) (w':World):Prop:=
 ∃(W H:Int) (a:Option Addr) (n c:Nat) (xs:List Int),e= .returned (.tuple #[.agg #[.int .i64 W, .int .i64 H, .slice a n c], .string ⟨r.2.toArray⟩])∧(⟨W,H,xs⟩:Pic)=r.1∧OwnA w' w.heap.size a n c xs∧n≤1048576∧Below w.heap.size w w'
set_option maxRecDepth 100000 in
set_option maxHeartbeats 3200000 in
theorem perf_plate (h:Nat) (lb:Array Value) (f:Dat→Pic × List UInt8) (w:World) (B g:Nat) (D:Dsk) (hin:PerfIn w B g D) (eh: ∀args w,(callFunc h args).run Tryz.prog w= .ok (.enter h args) w) (hn4:D.n≤4)
   (hc: ∀v,BelowL w v→Calls Tryz.prog h (#[.agg #[.int .i64 D.P.W, .int .i64 D.P.H, .slice D.P.a D.P.n D.P.c, .int .i64 D.M.W, .int .i64 D.M.H, .slice D.M.a D.M.n D.M.c, .slice D.a D.n D.c]]++lb) v (PlateRes v (f D.dat))):
   Calls Tryz.prog 244 #[.func (.func h) #[] lb, .pointer (some ⟨g,0,none⟩)] w (PerfOut B g D (actPlate f) w):=by
 have HIN:=Lib.hid hin
 have HC:=Lib.hid hc
 have KG:Blk w g 43 #[.int .i64 D.P.W, .int .i64 D.P.H, .slice D.P.a D.P.n D.P.c, .int .i64 D.M.W, .int .i64 D.M.H, .slice D.M.a D.M.n D.M.c, .slice D.a D.n D.c]:=hin.box
 have hpl:(picsV D.ps).length=D.n:=by rw [picsV_len];exact hin.own.s.len
 clear hin hc
 obtain ⟨m0,d0,d1,d2,d3,d4,d5,d6⟩:=KG.c7
 by_cases h4:D.n=4
 · have E:Hid (actPlate f D.dat=(D.dat,ansFull)):=Lib.hid (by unfold actPlate;rw [if_pos (by show (picsV D.ps).length=4;rw [hpl,h4])])
   have h4b:((D.n:Int)==4)=true:=by rw [h4];rfl
   go_enter Tryz.func244,Tryz.ntmps244
   go_wp2_with fail
   go_ret
   exact HIN.out.stay (Below.refl _ _) (by rw [E.out]) (by rw [E.out];rfl)
 have E:Hid (actPlate f D.dat=((D.P.pic,D.M.pic,picsV D.ps++ [(f D.dat).1]),(f D.dat).2)):=Lib.hid (by unfold actPlate;rw [if_neg (by show ¬(picsV D.ps).length=4;rw [hpl];exact h4)];rfl)
 have h4b:((D.n:Int)==4)=false:=by simp;omega
 go_enter Tryz.func244,Tryz.ntmps244
 go_wp2_with (go_at_fn h;refine (HC.out _ (BelowL.mk (Below.refl _ _))).mono ?_;rintro e w1 ⟨qW,qH,qa,qn,qc,qi,rfl,hqp,hqo,hqn,hb⟩)
 obtain ⟨w2,hw2⟩: ∃x,x=w1.alloc (.cells #[.int .i64 qW, .int .i64 qH, .slice qa qn qc] 27):=⟨_,rfl⟩
 have KT2:Hid (Blk w2 w1.heap.size 27 #[.int .i64 qW, .int .i64 qH, .slice qa qn qc]):=Lib.hid (by rw [hw2];exact Blk.new _ _ _)
 have HB2:Hid (Below w.heap.size w w2):=Lib.hid (by rw [hw2];exact bAlloc hb _)
 have HQ2:Hid (OwnA w2 w.heap.size qa qn qc qi):=Lib.hid (by rw [hw2];exact hqo.alloc _)
 have HQP:=Lib.hid hqp
 have HZ1:=Lib.hid hb.size
 rw [←hw2]
 clear hw2 hb hqo hqp m0 d0 d1 d2 d3 d4 d5 d6
 have IN2:=Lib.hid (HIN.out.below HB2.out)
 have HBS:=Lib.hid HB2.out.size
 have KG2:Blk w2 g 43 #[.int .i64 D.P.W, .int .i64 D.P.H, .slice D.P.a D.P.n D.P.c, .int .i64 D.M.W, .int .i64 D.M.H, .slice D.M.a D.M.n D.M.c, .slice D.a D.n D.c]:=KG.below' HB2.out
 clear KG
 obtain ⟨m0,d0,d1,d2,d3,d4,d5,d6⟩:=KG2.c7
 obtain ⟨l0,c0,c1,c2⟩:=KT2.out.c3
 have MK:Hid (∀v,BelowL w2 v→v.cell? ⟨g,6,none⟩=some (.slice D.a D.n D.c)∧v.cell? ⟨w1.heap.size,0,none⟩=some (.int .i64 qW)∧v.cell? ⟨w1.heap.size,1,none⟩=some (.int .i64 qH)∧v.cell? ⟨w1.heap.size,2,none⟩=some (.slice qa qn qc)):=Lib.hid (fun v h=>⟨(h.out.cell m0).trans d6,(h.out.cell l0).trans c0,(h.out.cell l0).trans c1,(h.out.cell l0).trans c2⟩)
 clear m0 d0 d1 d2 d3 d4 d5 d6 l0 c0 c1 c2
 refine wp_region_T 8 (fun v=>v.cell? ⟨g,6,none⟩=some (.slice D.a D.n D.c)∧v.cell? ⟨w1.heap.size,0,none⟩=some (.int .i64 qW)∧v.cell? ⟨w1.heap.size,1,none⟩=some (.int .i64 qH)∧v.cell? ⟨w1.heap.size,2,none⟩=some (.slice qa qn qc)) (by kernel_rfl) (MK.out _ (BelowL.start _)) ?_
 intro hHeld
 refine tTake 0 ?_
 refine tTake 1 ?_
 refine tTake 2 ?_
 refine tTake 3 ?_
 refine tTake 4 ?_
 refine tTake 5 ?_
 refine tOne 6 (fun K hK=>?_)
 go_simp
 have hb3:BelowL w2 (w2.alloc (.cells #[.int .i64 qW, .int .i64 qH, .slice qa qn qc] 27)).drew:=BelowL.mk (bAlloc (Below.refl _ _) _).drew
 refine hK.out _ _ (fun _=>by (try dsimp only);exact MK.out _ hb3) (fun hH2=>?_)
 clear hK K hHeld
 refine tOne 7 (fun K hK=>?_)
 have IN3:=Lib.hid (IN2.out.below hb3.out)
 have HQ3:=Lib.hid (HQ2.out.below' hb3.out)
 refine step_appV _ (by rfl) 41 Tryz.underlying41 infoPicZ (.tmp 25) (.tmp 27) (by rfl) B D.n D.c D.a D.ps (by rfl) IN3.out.own.s.toRowVA w2.heap.size ⟨qW,qH,qa,qn,qc,qi⟩ (by rfl) (by first | go_simp | simp) (by first | go_simp | simp) (by first | go_simp | simp) (by omega) IN3.out.size ?_
 intro ad2 cap2 w6 ho5 hg5 hx5
 have hbase:=HIN.out.base
 have hsz:=HIN.out.size
 have hbs:=HBS.out
 have hgl:=HIN.out.box.lt
 have hrow: ∀b,blockOf D.a=some b→b≠g∧B≤b∧b<w.heap.size:=fun b hb=>⟨HIN.out.off b (.inr (.inr (.inl hb))),HIN.out.own.s.bd b (.inl hb)⟩
 have hdb: ∀b,D.blocks b→b<w.heap.size:=fun b hb=>(HIN.out.own.bd b hb).2
 have hq2: ∀b,blockOf qa=some b→w.heap.size≤b∧b<w2.heap.size:=fun b hb=>HQ2.out.bd b hb
 have hV6:OwnV w6 B ad2 (D.n+1) cap2 (D.ps++ [⟨qW,qH,qa,qn,qc,qi⟩]):=OwnV.snoc IN3.out.own.s ho5 hg5
   (fun b hb=>by
     rcases hx5 with e | e
     · rw [e] at hb;exact .inl hb
     · rw [e] at hb;injection hb with hb;exact .inr (by omega))
   ((HQ3.out.mono (B':=B) (by omega)).grownS hg5 (fun b hb hb2=>by have:=(hrow b hb).2.2;have:=(hq2 b hb2).1;omega))
   (fun b hb=>by
     have h2:=hq2 b hb
     refine ⟨by simp;omega,fun hbl=>?_⟩
     have h1:=hdb b (.inr (.inr hbl))
     omega)
 have hA2: ∀b,OwnV.blocks ad2 (D.ps++ [⟨qW,qH,qa,qn,qc,qi⟩]) b→OwnV.blocks D.a D.ps b∨w.heap.size≤b:=fun b hb=>by
   rcases hb with hb | ⟨k,hk,hb⟩
   · rcases hx5 with e | e
     · rw [e] at hb;exact .inl (.inl hb)
     · rw [e] at hb;injection hb with hb;simp at hb;exact .inr (by omega)
   · by_cases e:k<D.ps.length
     · rw [pv_snoc_lt e] at hb;exact .inl (.inr ⟨k,e,hb⟩)
     · obtain rfl:k=D.ps.length:=by simp at hk;omega
       rw [pv_snoc] at hb
       exact .inr (hq2 b hb).1
 have HV6:=Lib.hid hV6
 have HA2:=Lib.hid hA2
 have HP6:=Lib.hid (IN3.out.own.p.grownS hg5 (fun b hb hb2=>IN3.out.own.ps b (.inl hb) hb2))
 have HM6:=Lib.hid (IN3.out.own.m.grownS hg5 (fun b hb hb2=>IN3.out.own.ms b (.inl hb) hb2))
 have KG6:Hid (Blk w6 g 43 #[.int .i64 D.P.W, .int .i64 D.P.H, .slice D.P.a D.P.n D.P.c, .int .i64 D.M.W, .int .i64 D.M.H, .slice D.M.a D.M.n D.M.c, .slice D.a D.n D.c]):=Lib.hid ((KG2.below' hb3.out).grown hg5 (fun e=>(hrow g e.symm).1 rfl))
 have KT6:=Lib.hid ((KT2.out.below' hb3.out).grown hg5 (fun e=>by have:=(hrow _ e.symm).2.2;have:=HZ1.out;omega))
 have HB6:=Lib.hid ((bTrans HB2.out hb3.out).mono hsz |>.grown hg5 (by have:=(bTrans HB2.out hb3.out).size;omega) (fun b hb=>(hrow b hb).2.1))
 clear ho5 hg5 hx5 hb3 KG2 hV6 hA2
 obtain ⟨m0,d0,d1,d2,d3,d4,d5,d6⟩:=KG6.out.c7
 obtain ⟨f0,f1,f2,f3,f4,f5,f6⟩:=KG6.out.f7
 obtain ⟨l0,c0,c1,c2⟩:=KT6.out.c3
 refine hK.out _ _ (fun _=>by (try dsimp only);exact ⟨d6,c0,c1,c2⟩) (fun hH2=>?_)
 clear hK K hH2
 refine tOne 8 (fun K hK=>?_)
 go_simp
 refine hK.out _ _ (fun h=>absurd h (by decide)) (fun hH2=>?_)
 clear hK K hH2
 refine tOne 9 (fun K hK=>?_)
 go_simp
 refine hK.out _ _ (fun h=>absurd h (by decide)) (fun hH2=>?_)
 clear hK K hH2
 refine tOne 10 (fun K hK=>?_)
 go_simp
 refine hK.out _ _ (fun h=>absurd h (by decide)) (fun hH2=>?_)
 clear hK K hH2
 refine wpAnyT_done (by kernel_rfl) ?_ _
 (try go_simp)
 go_wp2_with fail
 go_ret
 have gP: ∀b,blockOf D.P.a=some b→b≠g:=fun b hb=>HIN.out.off b (.inl hb)
 have gM: ∀b,blockOf D.M.a=some b→b≠g:=fun b hb=>HIN.out.off b (.inr (.inl hb))
 have gA: ∀b,OwnV.blocks ad2 (D.ps++ [⟨qW,qH,qa,qn,qc,qi⟩]) b→b≠g:=fun b hb=>by
   rcases HA2.out b hb with hb | hb
   · exact HIN.out.off b (.inr (.inr hb))
   · omega
 refine ⟨⟨D.P,D.M,ad2,D.n+1,cap2,D.ps++ [⟨qW,qH,qa,qn,qc,qi⟩]⟩,?_,KG6.out.putS _,⟨?_,?_,?_,HIN.out.own.pm,fun b hb e=>?_,fun b hb e=>?_⟩,fun b hb=>?_,?_,⟨HIN.out.small.p,HIN.out.small.m,by show D.n+1≤1048576;omega,fun k hk=>?_⟩,?_⟩
 · rw [E.out];rfl
 · exact HP6.out.otherT (fun e=>gP _ e rfl) _
 · exact HM6.out.otherT (fun e=>gM _ e rfl) _
 · have hk:KeepT (fun i=>i=g) w6 (w6.setCell ⟨g,6,none⟩ (.slice ad2 (D.n+1) cap2)):=KeepT.set (S:=fun i=>i=g) (KeepT.refl _ w6) rfl _
   exact hk.ownV HV6.out (fun i hi e=>gA i hi e)
 · rcases HA2.out b hb with hb | hb
   · exact HIN.out.own.ps b hb e
   · have:=hdb b (.inl e);omega
 · rcases HA2.out b hb with hb | hb
   · exact HIN.out.own.ms b hb e
   · have:=hdb b (.inr (.inl e));omega
 · rcases hb with hb | hb | hb
   · exact gP b hb
   · exact gM b hb
   · exact gA b hb
 · rw [E.out,←HQP.out]
   show (D.P.pic,D.M.pic,picsV (D.ps++ [⟨qW,qH,qa,qn,qc,qi⟩]))=_
   simp [picsV,PV.pic]
 · by_cases e:k<D.ps.length
   · show (pv (D.ps++ [⟨qW,qH,qa,qn,qc,qi⟩]) k).n≤1048576
     rw [pv_snoc_lt e];exact HIN.out.small.s k e
   · obtain rfl:k=D.ps.length:=by simp at hk;omega
     show (pv (D.ps++ [⟨qW,qH,qa,qn,qc,qi⟩]) D.ps.length).n≤1048576
     rw [pv_snoc];exact hqn
 · exact HB6.out.setCell hbase _
def actLast (F:Dat→Pic→Dat × List UInt8) (d:Dat):Dat × List UInt8:=if d.2.2.length=0 then (d,ansNone) else F d (d.2.2.getD (d.2.2.length - 1) noPic)
theorem PerfOut.congr {B g:Nat} {D:Dsk} {F G:Dat→Dat × List UInt8} {w:World} {e:Ending} {w':World} (h:PerfOut B g D F w e w') (hf:F D.dat=G D.dat):PerfOut B g D G w e w':=by
 unfold PerfOut at h⊢
 rw [←hf]
 exact h
theorem PerfOut.trans {B g:Nat} {D:Dsk} {F:Dat→Dat × List UInt8} {w v:World} {e:Ending} {w':World} (h:PerfOut B g D F v e w') (hb:Below B w v):PerfOut B g D F w e w':=by
 obtain ⟨E,h1,h2,h3,h4,h5,h6,h7⟩:=h
 exact ⟨E,h1,h2,h3,h4,h5,h6,⟨h7.os.trans hb.os,h7.tape.trans hb.tape,h7.output.trans hb.output,Nat.le_trans hb.size h7.size,fun i hi=>(h7.block i hi).trans (hb.block i hi)⟩⟩
set_option maxRecDepth 100000 in
set_option maxHeartbeats 3200000 in
theorem perf_last (h:Nat) (lb:Array Value) (F:Dat→Pic→Dat × List UInt8) (w:World) (B g:Nat) (D:Dsk) (hin:PerfIn w B g D) (eh: ∀args w,(callFunc h args).run Tryz.prog w= .ok (.enter h args) w)
   (hc: ∀(k r:Nat),D.n=k+1→D.a=some ⟨r,0,none⟩→ ∀v,BelowL w v→Calls Tryz.prog h (#[.pointer (some ⟨g,0,none⟩), .pointer (some ⟨r,k*3,none⟩)]++lb) v (PerfOut B g D (fun d=>F d (pv D.ps k).pic) v)):
   Calls Tryz.prog 245 #[.func (.func h) #[] lb, .pointer (some ⟨g,0,none⟩)] w (PerfOut B g D (actLast F) w):=by
 have HIN:=Lib.hid hin
 have KG:Blk w g 43 #[.int .i64 D.P.W, .int .i64 D.P.H, .slice D.P.a D.P.n D.P.c, .int .i64 D.M.W, .int .i64 D.M.H, .slice D.M.a D.M.n D.M.c, .slice D.a D.n D.c]:=hin.box
 have hpl:(picsV D.ps).length=D.n:=by rw [picsV_len];exact hin.own.s.len
 have hnn:=hin.small.n
 obtain ⟨m0,d0,d1,d2,d3,d4,d5,d6⟩:=KG.c7
 by_cases hz:D.n=0
 · have E:Hid (actLast F D.dat=(D.dat,ansNone)):=Lib.hid (by unfold actLast;rw [if_pos (by show (picsV D.ps).length=0;rw [hpl,hz])])
   have hzb:((D.n:Int)==0)=true:=by rw [hz];rfl
   clear hin hc
   go_enter Tryz.func245,Tryz.ntmps245
   go_wp2_with fail
   go_ret
   exact HIN.out.stay (Below.refl _ _) (by rw [E.out]) (by rw [E.out];rfl)
 obtain ⟨k,hk⟩: ∃k,D.n=k+1:=⟨D.n - 1,by omega⟩
 obtain ⟨r,hr⟩: ∃r,D.a=some ⟨r,0,none⟩:=by
   rcases hin.own.s.row with ⟨_,h0,_⟩ | ⟨r,h1,_⟩
   · omega
   · exact ⟨r,h1⟩
 have HC:=Lib.hid (hc k r hk hr)
 have E:Hid (actLast F D.dat=F D.dat (pv D.ps k).pic):=Lib.hid (by
   unfold actLast
   rw [if_neg (by show ¬(picsV D.ps).length=0;rw [hpl];exact hz)]
   show F D.dat ((picsV D.ps).getD ((picsV D.ps).length - 1) noPic)=_
   rw [hpl,hk,Nat.add_sub_cancel,picsV_at D.ps k (by rw [hin.own.s.len,hk];omega)])
 rw [hk,hr] at d6
 have hzb:(((k+1:Nat):Int)==0)=false:=by simp;omega
 have hk0:(0:Int)≤(k:Int):=by omega
 have hk1:(k:Int)<((k+1:Nat):Int):=by omega
 have hk2:IntKind.i64.wrap (((k+1:Nat):Int) - 1)=(k:Int):=by rw [IntWalk.i64_in _ (by omega)];omega
 have hk3:IntKind.i64.wrap (k:Int)=(k:Int):=IntWalk.i64_in _ (by omega)
 have hk4:(k:Int)<(k:Int)+1:=by omega
 have KD:=Lib.hid hk
 clear hin hc hpl hz KG d0 d1 d2 d3 d4 d5 hk hr
 go_enter Tryz.func245,Tryz.ntmps245
 go_upto_region 3 with fail
 have MK:Hid (∀v,BelowL w v→v.cell? ⟨g,6,none⟩=some (.slice (some ⟨r,0,none⟩) (k+1) D.c)∧BelowL w v):=Lib.hid (fun v h=>⟨(h.out.cell m0).trans d6,h⟩)
 clear m0 d6
 refine wp_region_T 13 (fun v=>v.cell? ⟨g,6,none⟩=some (.slice (some ⟨r,0,none⟩) (k+1) D.c)∧BelowL w v) (by kernel_rfl) (MK.out _ (BelowL.start _)) ?_
 intro hHeld
 have hb0:=limb2 hHeld
 refine tTake 0 ?_
 refine tTake 1 ?_
 refine tTake 2 ?_
 refine tTake 3 ?_
 refine tTake 4 ?_
 refine tTake 5 ?_
 refine tTake 6 ?_
 refine tTake 7 ?_
 refine tTake 8 ?_
 refine tTake 9 ?_
 refine tTake 10 ?_
 refine tTake 11 ?_
 refine tTake 12 ?_
 refine tOne 13 (fun K hK=>?_)
 go_simp
 go_at_fn h
 refine (HC.out _ hb0).mono ?_
 rintro e v1 hq
 obtain ⟨D2,rfl,hq2⟩:=hq
 have HQ:Hid (PerfOut B g D (fun d=>F d (pv D.ps k).pic) w (.returned (.string ⟨(F D.dat (pv D.ps k).pic).2.toArray⟩)) v1):=Lib.hid (PerfOut.trans ⟨D2,rfl,hq2⟩ (hb0.out.mono HIN.out.size))
 go_wp2_with fail
 refine hK.out _ _ (fun h=>absurd h (by decide)) (fun hH2=>?_)
 clear hK K hHeld hH2
 refine tOne 14 (fun K hK=>?_)
 go_simp
 refine hK.out _ _ (fun h=>absurd h (by decide)) (fun hH2=>?_)
 clear hK K hH2
 refine wpAnyT_done (by kernel_rfl) ?_ _
 (try go_simp)
 go_wp2_with fail
 go_ret
 exact HQ.out.congr E.out.symm
set_option maxHeartbeats 400000 in
theorem impl_SumInk (W H:Int) (ad:Option Addr) (n cap:Nat) (xs:List Int) (w:World) (hn:xs.length=n) (ha:Rd w ad xs) (hl:n≤9223372036854775807):
   Calls Tryz.prog 27 #[.agg #[.int .i64 W, .int .i64 H, .slice ad n cap]] w fun e w'=>e= .returned (.int .i64 (sumF W H xs))∧Below w.heap.size w w':=by
 have HN:=Lib.hid hn
 have HA:=Lib.hid ha
 clear hn ha
 by_cases hp:picOk W H xs 255=true
 case neg=>
   have hp2:picOk W H xs 255=false:=by simpa using hp
   have e0:sumF W H xs=0:=by unfold sumF;rw [if_neg hp]
   rw [e0]
   clear hp e0
   go_enter Tryz.func27,Tryz.ntmps27
   go_wp2_with fail
   refine (impl_IsPicture _ _ _ _ _ xs _ HN.out (by exact HA.out.alloc _) hl).mono ?_
   rintro e w1 ⟨rfl,hb⟩
   have HB1:=Lib.hid ((Joins.below_alloc1 _ _).trans (hb.mono (by simp)))
   have KP1:=Lib.hid ((Blk.new w 27 #[.int .i64 W, .int .i64 H, .slice ad n cap]).below' hb)
   obtain ⟨l1,c0,c1,c2⟩:=KP1.out.c3
   clear hb
   rw [hp2]
   go_wp2_with fail
   go_ret
   exact ⟨rfl,HB1.out⟩
 case pos=>
   have e0:sumF W H xs=isum xs:=by unfold sumF;rw [if_pos hp]
   rw [e0]
   clear e0
   obtain ⟨hs,hq,hi⟩:=picOk_bd HN.out hp
   obtain ⟨b1,b2,b3,b4,b5,b6⟩:=sizeOk_bd hs
   have HQ:=Lib.hid hq
   have HI:=Lib.hid hi
   have HS:=Lib.hid hs
   have hn1:1≤n:=by omega
   have hn2:n≤1024:=by omega
   clear hq hi hs
   go_enter Tryz.func27,Tryz.ntmps27
   go_wp2_with fail
   refine (impl_IsPicture _ _ _ _ _ xs _ HN.out (by exact HA.out.alloc _) hl).mono ?_
   rintro e w1 ⟨rfl,hb⟩
   have HB1:=Lib.hid ((Joins.below_alloc1 _ _).trans (hb.mono (by simp)))
   have KP1:=Lib.hid ((Blk.new w 27 #[.int .i64 W, .int .i64 H, .slice ad n cap]).below' hb)
   obtain ⟨l1,c0,c1,c2⟩:=KP1.out.c3
   clear hb
   rw [hp]
   go_wp2_with fail
   go_loop [3,12] (fun s i=> ∃k:Nat,k≤n∧i= .int .i64 k∧s= .int .i64 (isum (xs.take k))) (fun _ i=>n - (intOf i).toNat)
   case atStart=>exact ⟨0,Nat.zero_le _,rfl,rfl⟩
   case round=>
     obtain ⟨k,hk,rfl,rfl⟩:=hrel
     by_cases hlt:k<n
     · obtain ⟨ba,oa,hae,hal,hac⟩:=(HA.out.below HB1.out).at (by have:=HN.out;omega)
       have h1:=hac k (by have:=HN.out;omega)
       obtain ⟨v1,v2⟩:=within_at HI.out k (by have:=HN.out;omega)
       obtain ⟨t1,t2⟩:=isum_take_bd (xs:=xs) HI.out k
       subst hae
       clear hac
       go_wp2_with fail
       go_round
       case rel=>exact ⟨k+1,by omega,by go_num,by rw [isum_snoc _ _ (by have:=HN.out;omega)]⟩
       case measure=>simp [intOf];omega
     · go_wp2_with fail
       go_ret
       obtain rfl:k=n:=by omega
       exact ⟨ret_int (by rw [List.take_of_length_le (by have:=HN.out;omega)]),HB1.out⟩
end Go.Proofs.YtanccoopbgamdaaGreatDoor
