/-
  Contracts and plain facts on which the theorem of this claim rests, text 43.
-/
import Derived.Test.YtanccoopbgamdaaGreatDoorKC3
import Derived.Test.YtanccoopbgamdaaGreatDoorKC4
import Derived.Test.YtanccoopbgamdaaGreatDoorKC5
import Derived.Test.YtanccoopbgamdaaGreatDoorKC7
import Derived.Test.YtanccoopbgamdaaGreatDoorKC10
import Derived.Test.YtanccoopbgamdaaGreatDoorKC12
import Derived.Test.YtanccoopbgamdaaGreatDoorKC15
import Derived.Test.YtanccoopbgamdaaGreatDoorKC42
namespace Go.Proofs.YtanccoopbgamdaaGreatDoor
open Go.RowKit
set_option linter.unusedVariables false
set_option linter.unusedSimpArgs false
theorem cap_of {w:World} {B g k:Nat} {D:Dsk} (hin:PerfIn w B g D) (hk:D.n=k+1):k+1≤D.c:=by
 rcases hin.own.s.row with ⟨_,h,_⟩ | ⟨g,_,_,cur,_,h,_⟩
 · omega
 · rw [hin.own.s.len] at h;omega
theorem cmd_plain {x:Boxes} {w0 w:World} (hx:BoxesIn x w) (l:List UInt8):(x.S l=none∧plainF l=none)∨ ∃v F,x.S l=some v∧plainF l=some F∧CmdV v F w0 w:=by
 unfold Boxes.S plainS plainF
 simp only [putV]
 by_cases h:l=[101,114,114,111,114]
 · rw [if_pos h,if_pos h]
   exact .inr ⟨_,_,rfl,rfl,cmd_told (F:=errorT) (enters5 _ _ _ Tryz.func89 (by kernel_rfl) rfl) (fun k r v B g D hin hb hk hr hm=>told_error k r v B g D hin hk hr (hb.err _ hm))⟩
 rw [if_neg h,if_neg h]
 clear h
 by_cases h:l=[99,111,117,110,116,115]
 · rw [if_pos h,if_pos h]
   exact .inr ⟨_,_,rfl,rfl,cmd_told (F:=countsT) (enters5 _ _ _ Tryz.func88 (by kernel_rfl) rfl) (fun k r v B g D hin hb hk hr hm=>told_counts k r v B g D hin hk hr hb.counts)⟩
 rw [if_neg h,if_neg h]
 clear h
 by_cases h:l=[109,101,97,110]
 · rw [if_pos h,if_pos h]
   exact .inr ⟨_,_,rfl,rfl,cmd_told (F:=meanT) (enters5 _ _ _ Tryz.func87 (by kernel_rfl) rfl) (fun k r v B g D hin hb hk hr hm=>told_mean k r v B g D hin hk hr (hb.mean _ hm))⟩
 rw [if_neg h,if_neg h]
 clear h
 by_cases h:l=[114,117,110,115]
 · rw [if_pos h,if_pos h]
   exact .inr ⟨_,_,rfl,rfl,cmd_told (F:=runsT) (enters5 _ _ _ Tryz.func86 (by kernel_rfl) rfl) (fun k r v B g D hin hb hk hr hm=>told_runs k r v B g D hin hk hr (hb.runs _ hm))⟩
 rw [if_neg h,if_neg h]
 clear h
 by_cases h:l=[115,104,111,119]
 · rw [if_pos h,if_pos h]
   exact .inr ⟨_,_,rfl,rfl,cmd_told (F:=showT) (enters5 _ _ _ Tryz.func85 (by kernel_rfl) rfl) (fun k r v B g D hin hb hk hr hm=>told_show k r v B g D hin hk hr (hb.text _ hm))⟩
 rw [if_neg h,if_neg h]
 clear h
 by_cases h:l=[100,114,111,112]
 · rw [if_pos h,if_pos h]
   exact .inr ⟨_,_,rfl,rfl,cmd_told (F:=dropT) (enters5 _ _ _ Tryz.func84 (by kernel_rfl) rfl) (fun k r v B g D hin hb hk hr hm=>told_drop k r v B g D hin hk hr (cap_of hin hk))⟩
 rw [if_neg h,if_neg h]
 clear h
 by_cases h:l=[109,105,114,114,111,114]
 · rw [if_pos h,if_pos h]
   exact .inr ⟨_,_,rfl,rfl,cmd_change (F:=mirT2) hx.c3 (enters5 _ _ _ Tryz.func83 (by kernel_rfl) rfl) (fun q v ln rd sm cp=>impl_MirrorPicture q.W q.H q.a q.n q.c q.ink v ln rd (by omega))⟩
 rw [if_neg h,if_neg h]
 clear h
 by_cases h:l=[115,104,114,105,110,107]
 · rw [if_pos h,if_pos h]
   exact .inr ⟨_,_,rfl,rfl,cmd_change (F:=growT 5) hx.c2 (enters5 _ _ _ Tryz.func82 (by kernel_rfl) rfl) (fun q v ln rd sm cp=>impl_ShrinkPlate q.W q.H q.a q.n q.c q.ink v ln rd (by omega) cp)⟩
 rw [if_neg h,if_neg h]
 clear h
 by_cases h:l=[103,114,111,119]
 · rw [if_pos h,if_pos h]
   exact .inr ⟨_,_,rfl,rfl,cmd_change (F:=growT 1) hx.c1 (enters5 _ _ _ Tryz.func81 (by kernel_rfl) rfl) (fun q v ln rd sm cp=>impl_GrowPlate q.W q.H q.a q.n q.c q.ink v ln rd (by omega) cp)⟩
 rw [if_neg h,if_neg h]
 clear h
 by_cases h:l=[100,105,102,102,117,115,101,32,112,108,97,105,110,32,98,111,116,104]
 · rw [if_pos h,if_pos h]
   exact .inr ⟨_,_,rfl,rfl,cmd_diffuse hx.d4 rfl (by omega) (fun D hb=>hb.plain true)⟩
 rw [if_neg h,if_neg h]
 clear h
 by_cases h:l=[100,105,102,102,117,115,101,32,112,108,97,105,110,32,108,101,102,116]
 · rw [if_pos h,if_pos h]
   exact .inr ⟨_,_,rfl,rfl,cmd_diffuse hx.d3 rfl (by omega) (fun D hb=>hb.plain false)⟩
 rw [if_neg h,if_neg h]
 clear h
 by_cases h:l=[100,105,102,102,117,115,101,32,115,116,101,105,110,32,98,111,116,104]
 · rw [if_pos h,if_pos h]
   exact .inr ⟨_,_,rfl,rfl,cmd_diffuse hx.d2 rfl (by omega) (fun D hb=>hb.stein true)⟩
 rw [if_neg h,if_neg h]
 clear h
 by_cases h:l=[100,105,102,102,117,115,101,32,115,116,101,105,110,32,108,101,102,116]
 · rw [if_pos h,if_pos h]
   exact .inr ⟨_,_,rfl,rfl,cmd_diffuse hx.d1 rfl (by omega) (fun D hb=>hb.stein false)⟩
 rw [if_neg h,if_neg h]
 clear h
 by_cases h:l=[115,99,114,101,101,110]
 · rw [if_pos h,if_pos h]
   exact .inr ⟨_,_,rfl,rfl,⟨_,244,_,by simp [performs],rfl,fun B g D hin _ _ _ hbd=>perf_plate _ _ screenT w B g D hin (enters5 _ _ _ Tryz.func76 (by kernel_rfl) rfl) (by have:=hbd.n4;rw [show D.dat.2.2.length=D.n by rw [show D.dat.2.2=picsV D.ps from rfl,picsV_len];exact hin.own.s.len] at this;exact this) (fun v hv=>plate_screen D v (hin.below hv.out).own.rd hin.small)⟩⟩
 rw [if_neg h,if_neg h]
 clear h
 by_cases h:l=[114,101,118,101,114,115,101]
 · rw [if_pos h,if_pos h]
   exact .inr ⟨_,_,rfl,rfl,⟨_,243,_,by simp [performs],rfl,fun B g D hin _ _ _ hbd=>perf_mat _ _ revT w B g D hin (enters5 _ _ _ Tryz.func75 (by kernel_rfl) rfl) (fun v hv=>mat_reverse D B g v (hin.below hv.out))⟩⟩
 rw [if_neg h,if_neg h]
 clear h
 exact .inl ⟨rfl,rfl⟩
def mp (m:Mat):Pic:=⟨m.W,m.H,m.ranks⟩
def shT (x y:Int) (p:Pic):Pic:=⟨(shiftF p.W p.H p.ink x y).W,(shiftF p.W p.H p.ink x y).H,(shiftF p.W p.H p.ink x y).ranks⟩
open Classical in
noncomputable def numF (l:List UInt8) (xs:List Int):Option (Dat→Dat × List UInt8):=
 if l=[102,108,97,116]∧xs.length=3 then some (actPic (flatF (xs.getD 0 0) (xs.getD 1 0) (xs.getD 2 0)).1) else
 if l=[114,97,109,112]∧xs.length=2 then some (actPic (rampF (xs.getD 0 0) (xs.getD 1 0)).1) else
 if l=[98,97,121,101,114]∧xs.length=1 then some (actMat (fun _=>mp (bayerF (xs.getD 0 0)).1)) else
 if l=[115,112,105,114,97,108]∧xs.length=1 then some (actMat (fun _=>mp (spiralF (xs.getD 0 0)).1)) else
 if l=[115,112,111,116]∧xs.length=2 then some (actMat (fun _=>mp (spotF (xs.getD 0 0) (xs.getD 1 0)).1)) else
 if l=[114,97,110,107]∧xs.length=3 then some (actMat (fun _=>mp (rankedF (xs.getD 0 0) (xs.getD 1 0) (xs.getD 2 0)).1)) else
 if l=[115,104,105,102,116]∧xs.length=2 then some (actMat (shT (xs.getD 0 0) (xs.getD 1 0))) else
 if l=[108,101,118,101,108]∧xs.length=1 then some (actLevel (xs.getD 0 0)) else
 none
theorem cmd_pic {w0 w1 w':World} {p:Pic} {v:Value} {bo:Bool} (hb:Below w0.heap.size w0 w1) (h:PicCmd w1 p (.returned (.tuple #[v, .bool bo])) w'):bo=true∧CmdV v (actPic p) w0 w':=by
 obtain ⟨a,n,c,he,ho,hn,hbb⟩:=h
 simp only [Ending.returned.injEq,Value.tuple.injEq,Array.mk.injEq,List.cons.injEq,Value.bool.injEq,and_true] at he
 obtain ⟨rfl,rfl⟩:=he
 refine ⟨rfl,_,246,_,by simp [performs],rfl,fun B g D hin hB hg hD hbd=>?_⟩
 have hsz:=hb.size
 exact perf_pic ⟨p.W,p.H,a,n,c,p.ink⟩ w' B g D hin (ho.mono (by omega)) (fun b h e=>by have:=ho.bd b h;omega) (fun b h e=>by have:=ho.bd b h;have:=hD b (.inr (.inl e));omega) hn
theorem cmd_given {w0 w1 w':World} {m:Mat} {v:Value} {bo:Bool} (hb:Below w0.heap.size w0 w1) (h:GivenOut w1 m (.returned (.tuple #[v, .bool bo])) w'):bo=true∧CmdV v (actMat (fun _=>mp m)) w0 w':=by
 obtain ⟨mb,a,n,c,he,hk,ho,hn,hbb⟩:=h
 simp only [Ending.returned.injEq,Value.tuple.injEq,Array.mk.injEq,List.cons.injEq,Value.bool.injEq,and_true] at he
 obtain ⟨rfl,rfl⟩:=he
 refine ⟨rfl,_,243,_,by simp [performs],rfl,fun B g D hin hB hg hD hbd=>?_⟩
 have hsz:=hb.size
 exact perf_mat _ _ (fun _=>mp m) w' B g D hin (enters5 _ _ _ Tryz.func118 (by kernel_rfl) rfl) (fun u hu=>
   mat_given mb ⟨m.W,m.H,a,n,c,m.ranks⟩ D B g u (hin.below hu.out) (hk.below' hu.out) ((ho.mono (by omega)).below' hu.out) (fun b h=>⟨fun e=>by have:=ho.bd b h;omega,fun e=>by have:=ho.bd b h;have:=hD b e;omega⟩) hn)
theorem cmd_shift {w0 w1:World} {na:Option Addr} {nc:Nat} {x y:Int} (hr:Rd w1 na [x,y]):CmdV (.iface 106 (.func (.func 97) #[] #[.pointer (some ⟨w1.heap.size,0,none⟩)])) (actMat (shT x y)) w0 (w1.alloc (.cells #[.slice na 2 nc] 25)):=by
 refine ⟨_,243,_,by simp [performs],rfl,fun B g D hin hB hg hD hbd=>?_⟩
 have kb:=Blk.new w1 25 #[.slice na 2 nc]
 exact perf_mat _ _ (shT x y) _ B g D hin (enters5 _ _ _ Tryz.func97 (by kernel_rfl) rfl) (fun u hu=>
   mat_shift w1.heap.size na nc x y D B g u (hin.below hu.out) ((kb.below' hu.out).cell 0) (kb.below' hu.out).lt ((hr.alloc _).below hu.out))
theorem cmd_level {w0 w':World} {i:Int} (h0: ∀W H xs,-1≤levelOfF W H xs i∧levelOfF W H xs i≤9223372036854775807):CmdV (.iface 129 (.int .i64 i)) (actLevel i) w0 w':=
 ⟨_,247,_,by simp [performs],rfl,fun B g D hin hB hg hD hbd=>perf_level i w' B g D hin h0⟩
theorem levelOf_fits (W H:Int) (xs:List Int) (v:Int):-1≤levelOfF W H xs v∧levelOfF W H xs v≤9223372036854775807:=by
 by_cases h:matOk W H xs=true∧0≤v∧v≤255
 · rw [levelOfF_yes rfl h.1 h.2.1 h.2.2]
   have hm:=h.1
   unfold matOk at hm
   simp only [Bool.and_eq_true,decide_eq_true_eq] at hm
   have hz:=matSize_bd hm.1
   have hl:xs.length≤256:=by omega
   have:=levelG_bd h.2.1 h.2.2 hl
   omega
 · rw [levelOfF_no h];omega
theorem cmd_num {w0 w1 w':World} {l:List UInt8} {xs:List Int} {v:Value} {bo:Bool} (hb:Below w0.heap.size w0 w1) (h:NumCmd w1 l xs (.returned (.tuple #[v, .bool bo])) w'):
   (bo=true∧ ∃F,numF l xs=some F∧CmdV v F w0 w')∨(bo=false∧numF l xs=none):=by
 cases h with
 | flat h=>obtain ⟨e,h⟩:=cmd_pic hb h;exact .inl ⟨e,_,by simp [numF],h⟩
 | ramp h=>obtain ⟨e,h⟩:=cmd_pic hb h;exact .inl ⟨e,_,by simp [numF],h⟩
 | bayer h=>obtain ⟨e,h⟩:=cmd_given hb h;exact .inl ⟨e,_,by simp [numF],h⟩
 | spiral h=>obtain ⟨e,h⟩:=cmd_given hb h;exact .inl ⟨e,_,by simp [numF],h⟩
 | spot h=>obtain ⟨e,h⟩:=cmd_given hb h;exact .inl ⟨e,_,by simp [numF],h⟩
 | rank h=>obtain ⟨e,h⟩:=cmd_given hb h;exact .inl ⟨e,_,by simp [numF],h⟩
 | shift h=>exact .inl ⟨rfl,_,by simp [numF],cmd_shift h⟩
 | level=>exact .inl ⟨rfl,_,by simp [numF],cmd_level (fun W H xs=>levelOf_fits W H xs _)⟩
 | none h=>
   refine .inr ⟨rfl,?_⟩
   unfold numF
   rw [if_neg (fun e=>h.flat e.1 e.2),if_neg (fun e=>h.ramp e.1 e.2),if_neg (fun e=>h.bayer e.1 e.2),if_neg (fun e=>h.spiral e.1 e.2),if_neg (fun e=>h.spot e.1 e.2),if_neg (fun e=>h.rank e.1 e.2),if_neg (fun e=>h.shift e.1 e.2),if_neg (fun e=>h.level e.1 e.2)]
theorem plain_no {x:Boxes} {l:List UInt8} (hS:x.S l=none):plainF l=none:=by
 unfold Boxes.S plainS at hS
 simp only [putV] at hS
 unfold plainF
 by_cases h:l=[101,114,114,111,114]
 · rw [if_pos h] at hS;cases hS
 rw [if_neg h] at hS⊢
 clear h
 by_cases h:l=[99,111,117,110,116,115]
 · rw [if_pos h] at hS;cases hS
 rw [if_neg h] at hS⊢
 clear h
 by_cases h:l=[109,101,97,110]
 · rw [if_pos h] at hS;cases hS
 rw [if_neg h] at hS⊢
 clear h
 by_cases h:l=[114,117,110,115]
 · rw [if_pos h] at hS;cases hS
 rw [if_neg h] at hS⊢
 clear h
 by_cases h:l=[115,104,111,119]
 · rw [if_pos h] at hS;cases hS
 rw [if_neg h] at hS⊢
 clear h
 by_cases h:l=[100,114,111,112]
 · rw [if_pos h] at hS;cases hS
 rw [if_neg h] at hS⊢
 clear h
 by_cases h:l=[109,105,114,114,111,114]
 · rw [if_pos h] at hS;cases hS
 rw [if_neg h] at hS⊢
 clear h
 by_cases h:l=[115,104,114,105,110,107]
 · rw [if_pos h] at hS;cases hS
 rw [if_neg h] at hS⊢
 clear h
 by_cases h:l=[103,114,111,119]
 · rw [if_pos h] at hS;cases hS
 rw [if_neg h] at hS⊢
 clear h
 by_cases h:l=[100,105,102,102,117,115,101,32,112,108,97,105,110,32,98,111,116,104]
 · rw [if_pos h] at hS;cases hS
 rw [if_neg h] at hS⊢
 clear h
 by_cases h:l=[100,105,102,102,117,115,101,32,112,108,97,105,110,32,108,101,102,116]
 · rw [if_pos h] at hS;cases hS
 rw [if_neg h] at hS⊢
 clear h
 by_cases h:l=[100,105,102,102,117,115,101,32,115,116,101,105,110,32,98,111,116,104]
 · rw [if_pos h] at hS;cases hS
 rw [if_neg h] at hS⊢
 clear h
 by_cases h:l=[100,105,102,102,117,115,101,32,115,116,101,105,110,32,108,101,102,116]
 · rw [if_pos h] at hS;cases hS
 rw [if_neg h] at hS⊢
 clear h
 by_cases h:l=[115,99,114,101,101,110]
 · rw [if_pos h] at hS;cases hS
 rw [if_neg h] at hS⊢
 clear h
 by_cases h:l=[114,101,118,101,114,115,101]
 · rw [if_pos h] at hS;cases hS
 rw [if_neg h] at hS⊢
noncomputable def lineF (s:ByteArray):Option (Dat→Dat × List UInt8):=
 match plainF s.data.toList with
 | some F=>some F
 | none=>match numsW (wordsL (wordsF s).tail) with
   | some xs=>numF ((wordsF s).getD 0 ByteArray.empty).toList xs
   | none=>none
def LineRes (s:ByteArray) (w:World) (e:Ending) (w':World):Prop:=
 Below w.heap.size w w'∧ ∃v,(lineF s=none∧e= .returned (.tuple #[v, .bool false]))∨ ∃F,lineF s=some F∧e= .returned (.tuple #[v, .bool true])∧CmdV v F w w'
theorem cmd_line (s:ByteArray) (w:World) (hs:s.size≤1048576) (hL:LaidW w):Calls Tryz.prog 40 #[.string s] w (LineRes s w):=by
 refine (impl_commandOf s w hs hL).mono ?_
 rintro e w' ⟨hb,x,h⟩
 refine ⟨hb,?_⟩
 rcases h with ⟨v,hv,rfl,hx⟩ | ⟨hno,h⟩
 · rcases cmd_plain (w0:=w) hx s.data.toList with ⟨h1,_⟩ | ⟨v2,F,h1,h2,h3⟩
   · rw [h1] at hv;cases hv
   · rw [h1] at hv
     cases hv
     exact ⟨v, .inr ⟨F,by unfold lineF;rw [h2],rfl,h3⟩⟩
 · have hp:=plain_no hno
   rcases h with ⟨hn,v,rfl⟩ | ⟨xs,w1,hn,hi,hb1,hc⟩
   · exact ⟨v, .inl ⟨by unfold lineF;rw [hp];dsimp only;rw [hn],rfl⟩⟩
   · obtain ⟨v,bo,rfl⟩:=hc.shape
     rcases cmd_num hb1 hc with ⟨rfl,F,h1,h2⟩ | ⟨rfl,h1⟩
     · exact ⟨v, .inr ⟨F,by unfold lineF;rw [hp];dsimp only;rw [hn];exact h1,rfl,h2⟩⟩
     · exact ⟨v, .inl ⟨by unfold lineF;rw [hp];dsimp only;rw [hn];exact h1,rfl⟩⟩
set_option maxRecDepth 100000 in
set_option maxHeartbeats 8000000 in
theorem impl_DeskOk (D:Dsk) (w:World) (hr:RdD w D) (hs:SmallD D):
   Calls Tryz.prog 16 #[D.val] w fun e w'=>e= .returned (.bool (deskOk D.dat))∧Below w.heap.size w w':=by
 obtain ⟨r1,r2,r3,r4,r5,r6⟩:=hr
 obtain ⟨s1,s2,s3,s4⟩:=hs
 have d0:deskOk D.dat=deskOk (D.P.pic,D.M.pic,picsV D.ps):=rfl
 obtain ⟨⟨W,H,pa,pn,pc,xs⟩,⟨mW,mH,ma,mn,mc,ys⟩,a,n,c,ps⟩:=D
 rw [d0]
 dsimp only [PV.pic] at*
 show Calls Tryz.prog 16 #[.agg #[.int .i64 W, .int .i64 H, .slice pa pn pc, .int .i64 mW, .int .i64 mH, .slice ma mn mc, .slice a n c]] w _
 have R1:=Lib.hid r1
 have R2:=Lib.hid r2
 have R3:=Lib.hid r3
 have R4:=Lib.hid r4
 have R5:=Lib.hid r5
 have R6:=Lib.hid r6
 have S4:=Lib.hid s4
 have KB:=Lib.hid (Blk.new w 43 #[.int .i64 W, .int .i64 H, .slice pa pn pc, .int .i64 mW, .int .i64 mH, .slice ma mn mc, .slice a n c])
 have HB0:=Lib.hid (bAlloc (Below.refl w.heap.size w) (.cells #[.int .i64 W, .int .i64 H, .slice pa pn pc, .int .i64 mW, .int .i64 mH, .slice ma mn mc, .slice a n c] 43))
 clear r1 r2 r3 r4 r5 r6 s4 d0
 go_enter Tryz.func16,Tryz.ntmps16
 go_wp2_with fail
 refine (impl_IsPicture W H pa pn pc xs _ R1.out (by exact R2.out.below HB0.out) (by omega)).mono ?_
 rintro e w1 ⟨rfl,hb⟩
 have HB1:=Lib.hid (bTrans HB0.out hb)
 have KB1:=Lib.hid (KB.out.below' hb)
 clear hb
 obtain ⟨l0,c0,c1,c2,c3,c4,c5,c6⟩:=KB1.out.c7
 by_cases hp:picOk W H xs 255=true
 case neg=>
   have hp2:picOk W H xs 255=false:=by simpa using hp
   have E:Hid (deskOk (⟨W,H,xs⟩,⟨mW,mH,ys⟩,picsV ps)=false):=Lib.hid (deskOk_p hp)
   rw [hp2]
   go_wp2_with fail
   go_ret
   exact ⟨ret_bool E.out.symm,HB1.out⟩
 rw [hp]
 go_wp2_with fail
 refine (impl_IsMatrix mW mH ma mn mc ys _ R3.out (by exact R4.out.below HB1.out) (by omega)).mono ?_
 rintro e w2 ⟨rfl,hb⟩
 have HB2:=Lib.hid (bTrans HB1.out hb)
 have KB2:=Lib.hid (KB1.out.below' hb)
 clear hb l0 c0 c1 c2 c3 c4 c5 c6
 obtain ⟨l0,c0,c1,c2,c3,c4,c5,c6⟩:=KB2.out.c7
 by_cases hm:matOk mW mH ys=true
 case neg=>
   have hm2:matOk mW mH ys=false:=by simpa using hm
   have E:Hid (deskOk (⟨W,H,xs⟩,⟨mW,mH,ys⟩,picsV ps)=false):=Lib.hid (deskOk_m hm)
   rw [hm2]
   go_wp2_with fail
   go_ret
   exact ⟨ret_bool E.out.symm,HB2.out⟩
 rw [hm]
 by_cases hz:n=0
 · have E:Hid (deskOk (⟨W,H,xs⟩,⟨mW,mH,ys⟩,picsV ps)=true):=Lib.hid (deskOk_0 hp hm (by rw [picsV_len,R5.out];exact hz))
   subst hz
   go_upto_region 3 with fail
   refine wp_region_held_drew (S:=fun v=>v.cell? ⟨w.heap.size,6,none⟩=some (.slice a 0 c)) (by kernel_rfl) c6 ?_
   intro hHeld
   refine hTake 0 ?_
   refine hTake 1 ?_
   refine hTake 2 ?_
   refine hTake 3 ?_
   refine hTake 4 ?_
   refine simpR ?_
   refine hSkip 5 ?_
   refine hSkip 6 ?_
   refine hOne 7 (fun K hK=>?_)
   go_simp
   refine hK.out _ _ (by first | exact hHeld | assumption) (fun hHeld=>?_)
   clear hK K
   refine simpR ?_
   refine hSkip 8 ?_
   refine hSkip 9 ?_
   refine hSkip 10 ?_
   refine hSkip 11 ?_
   refine hSkip 12 ?_
   refine hSkip 14 ?_
   refine hSkip 15 ?_
   refine simpR ?_
   refine hOne 13 (fun K hK=>?_)
   go_simp
   refine hK.out _ _ (by first | exact hHeld | assumption) (fun hHeld=>?_)
   clear hK K
   refine simpR ?_
   refine hOne 16 (fun K hK=>?_)
   go_simp
   refine hK.out _ _ (by first | exact hHeld | assumption) (fun hHeld=>?_)
   clear hK K
   refine simpR ?_
   refine hOne 17 (fun K hK=>?_)
   go_simp
   refine hK.out _ _ (by first | exact hHeld | assumption) (fun hHeld=>?_)
   clear hK K
   refine simpR ?_
   refine hOne 18 (fun K hK=>?_)
   go_simp
   refine hK.out _ _ (by first | exact hHeld | assumption) (fun hHeld=>?_)
   clear hK K
   refine simpR ?_
   refine hTake 19 ?_
   refine hTake 20 ?_
   refine simpR ?_
   refine wpAnyH_done (by kernel_rfl) ?_ _
   go_wp2_with fail
   go_ret
   exact ⟨ret_bool E.out.symm,HB2.out.drew⟩
 have hz2:((n:Int)==0)=false:=by simp;omega
 have E0:deskOk (⟨W,H,xs⟩,⟨mW,mH,ys⟩,picsV ps)=(stackOk (picsV ps) && decide ((pv ps 0).W=W∧(pv ps 0).H=H)):=by
   rw [deskOk_s (d:=(⟨W,H,xs⟩,⟨mW,mH,ys⟩,picsV ps)) hp hm (by rw [picsV_len,R5.out];exact hz)]
   dsimp only
   rw [picsV_at ps 0 (by rw [R5.out];omega)]
   rfl
 obtain ⟨b,off,hae,hal⟩:=(R6.out.below HB2.out).addr (by rw [R5.out];omega)
 subst hae
 have RV:=Lib.hid (R6.out.below HB2.out)
 have FC:Hid (∀v,BelowL w2 v→v.cell? ⟨b,off,none⟩=some (.int .i64 (pv ps 0).W)∧v.cell? ⟨b,off+1,none⟩=some (.int .i64 (pv ps 0).H)∧v.cell? ⟨b,off+2,none⟩=some (.slice (pv ps 0).a (pv ps 0).n (pv ps 0).c)):=Lib.hid (fun v hv=>by
   obtain ⟨_,a0,a1,a2⟩:=(RV.out.below hv.out).cells (k:=0) (by rw [R5.out];omega)
   simp only [Nat.zero_mul,Nat.add_zero] at a0 a1 a2
   exact ⟨a0,a1,a2⟩)
 have CS:Hid (∀v,BelowL w2 v→Calls Tryz.prog 41 #[.slice (some ⟨b,off,none⟩) n c] v fun e v'=>e= .returned (.bool (stackOk (picsV ps)))∧Below v.heap.size v v'):=Lib.hid (fun v hv=>impl_IsStack (some ⟨b,off,none⟩) n c ps v R5.out (RV.out.below hv.out) (by omega) S4.out)
 obtain ⟨U,hU⟩: ∃U,(pv ps 0).W=U:=⟨_,rfl⟩
 obtain ⟨V,hV⟩: ∃V,(pv ps 0).H=V:=⟨_,rfl⟩
 obtain ⟨K,hK⟩: ∃K,stackOk (picsV ps)=K:=⟨_,rfl⟩
 obtain ⟨fa,hfa⟩: ∃x,(pv ps 0).a=x:=⟨_,rfl⟩
 obtain ⟨fn,hfn⟩: ∃x,(pv ps 0).n=x:=⟨_,rfl⟩
 obtain ⟨fc,hfc⟩: ∃x,(pv ps 0).c=x:=⟨_,rfl⟩
 rw [hU,hV,hfa,hfn,hfc] at FC
 rw [hK] at CS
 rw [hU,hV,hK] at E0
 have E:=Lib.hid E0
 have MK:Hid (∀v,BelowL w2 v→v.cell? ⟨w.heap.size,0,none⟩=some (.int .i64 W)∧v.cell? ⟨w.heap.size,1,none⟩=some (.int .i64 H)∧v.cell? ⟨w.heap.size,2,none⟩=some (.slice pa pn pc)∧v.cell? ⟨w.heap.size,6,none⟩=some (.slice (some ⟨b,off,none⟩) n c)∧v.cell? ⟨b,off,none⟩=some (.int .i64 U)∧v.cell? ⟨b,off+1,none⟩=some (.int .i64 V)∧v.cell? ⟨b,off+2,none⟩=some (.slice fa fn fc)∧BelowL w2 v):=Lib.hid (fun v h=>⟨(h.out.cell l0).trans c0,(h.out.cell l0).trans c1,(h.out.cell l0).trans c2,(h.out.cell l0).trans c6,(FC.out v h).1,(FC.out v h).2.1,(FC.out v h).2.2,h⟩)
 clear hU hV hK E0 hp hm hfa hfn hfc
 have n1:(0:Int)<(n:Int):=by omega
 have n2:0<n:=by omega
 go_upto_region 3 with fail
 cases K with
 | false=>
   refine wp_region_held_drew (S:=fun v=>v.cell? ⟨w.heap.size,0,none⟩=some (.int .i64 W)∧v.cell? ⟨w.heap.size,1,none⟩=some (.int .i64 H)∧v.cell? ⟨w.heap.size,2,none⟩=some (.slice pa pn pc)∧v.cell? ⟨w.heap.size,6,none⟩=some (.slice (some ⟨b,off,none⟩) n c)∧v.cell? ⟨b,off,none⟩=some (.int .i64 U)∧v.cell? ⟨b,off+1,none⟩=some (.int .i64 V)∧v.cell? ⟨b,off+2,none⟩=some (.slice fa fn fc)∧BelowL w2 v) (by kernel_rfl) (MK.out _ (BelowL.start _)) ?_
   intro hHeld
   refine hTake 0 ?_
   refine hTake 1 ?_
   refine hTake 2 ?_
   refine hTake 3 ?_
   refine hTake 4 ?_
   refine hTake 5 ?_
   refine hTake 6 ?_
   refine simpR ?_
   refine hOne 7 (fun K hK=>?_)
   go_simp
   go_at_call 41
   ((with_reducible refine (CS.out _ (BelowL.start _)).mono ?_);rintro e v1 ⟨rfl,hq1⟩)
   have hb1:=BelowL.call (BelowL.start _) hq1
   have HBF:=Lib.hid (bTrans HB2.out hb1.out)
   go_wp2_with fail
   refine hK.out _ _ (by (try dsimp only);exact MK.out _ hb1) (fun hHeld=>?_)
   clear hK K
   refine simpR ?_
   refine hTake 8 ?_
   refine simpR ?_
   refine hSkip 9 ?_
   refine hSkip 10 ?_
   refine hSkip 11 ?_
   refine hSkip 12 ?_
   refine hSkip 14 ?_
   refine hSkip 15 ?_
   refine simpR ?_
   refine hOne 13 (fun K hK=>?_)
   go_simp
   refine hK.out _ _ (by first | exact hHeld | assumption) (fun hHeld=>?_)
   clear hK K
   refine simpR ?_
   refine hOne 16 (fun K hK=>?_)
   go_simp
   refine hK.out _ _ (by first | exact hHeld | assumption) (fun hHeld=>?_)
   clear hK K
   refine simpR ?_
   refine hOne 17 (fun K hK=>?_)
   go_simp
   refine hK.out _ _ (by first | exact hHeld | assumption) (fun hHeld=>?_)
   clear hK K
   refine simpR ?_
   refine hTake 18 ?_
   refine hTake 19 ?_
   refine hTake 20 ?_
   refine simpR ?_
   refine wpAnyH_done (by kernel_rfl) ?_ _
   go_wp2_with fail
   go_ret
   exact ⟨ret_bool (by rw [E.out];rfl),HBF.out⟩
 | true=>
   obtain ⟨Z,hZ⟩: ∃Z,Z=(U==W && V==H):=⟨_,rfl⟩
   have ha3:=arr_eq U V W H Z hZ.symm
   have EZ:Hid (deskOk (⟨W,H,xs⟩,⟨mW,mH,ys⟩,picsV ps)=Z):=Lib.hid (by
     rw [E.out,hZ]
     by_cases h1:U=W <;>by_cases h2:V=H <;>simp [h1,h2])
   clear hZ E
   go_region_held3 (fun v=>v.cell? ⟨w.heap.size,0,none⟩=some (.int .i64 W)∧v.cell? ⟨w.heap.size,1,none⟩=some (.int .i64 H)∧v.cell? ⟨w.heap.size,2,none⟩=some (.slice pa pn pc)∧v.cell? ⟨w.heap.size,6,none⟩=some (.slice (some ⟨b,off,none⟩) n c)∧v.cell? ⟨b,off,none⟩=some (.int .i64 U)∧v.cell? ⟨b,off+1,none⟩=some (.int .i64 V)∧v.cell? ⟨b,off+2,none⟩=some (.slice fa fn fc)∧BelowL w2 v)
     (first | exact MK.out _ hb3 | exact MK.out _ hb2 | exact MK.out _ hb1 | exact MK.out _ (BelowL.start _))
     (first
       | (go_at_call 41;((with_reducible refine (CS.out _ (limb8 (by assumption))).mono ?_);rintro e v1 ⟨rfl,hq1⟩;have hb1:=BelowL.call (limb8 (by assumption)) hq1))
       | (go_at_call 42;((with_reducible refine (impl_sidesOf U V fa fn fc _).mono ?_);rintro e v2 ⟨rfl,hq2⟩;have hb2:=BelowL.call (limb8 (by assumption)) hq2))
       | (go_at_call 42;((with_reducible refine (impl_sidesOf W H pa pn pc _).mono ?_);rintro e v3 ⟨rfl,hq3⟩;have hb3:=BelowL.call (limb8 (by assumption)) hq3)))
   have HBF:=Lib.hid (bTrans HB2.out hb3.out)
   go_wp2_with fail
   go_ret
   exact ⟨ret_bool EZ.out.symm,HBF.out⟩
noncomputable def runF (d:Dat) (s:ByteArray):Dat × List UInt8:=
 if deskOk d=true then (if s.size=0 then (d,[]) else match lineF s with | some F=>F d | none=>(d,ansWhat)) else (d,ansBad)
def DeskAns (w:World) (R:Dat × List UInt8) (e:Ending) (w':World):Prop:=
 ∃E:Dsk,e= .returned (.tuple #[E.val, .string ⟨R.2.toArray⟩])∧OwnD w' w.heap.size E∧E.dat=R.1∧SmallD E∧Below w.heap.size w w'
set_option maxRecDepth 100000 in
set_option maxHeartbeats 3200000 in
theorem impl_RunLine (D:Dsk) (s:ByteArray) (w:World) (hr:RdD w D) (hs:SmallD D) (ha:AddrD D) (hz:s.size≤1048576) (hL:LaidW w) (hbd:deskOk D.dat=true→BdD D.dat):
   Calls Tryz.prog 15 #[D.val, .string s] w (DeskAns w (runF D.dat s)):=by
 have HR:=Lib.hid hr
 have HS:=Lib.hid hs
 have HA:=Lib.hid ha
 have HLW:=Lib.hid hL
 have HBD:=Lib.hid hbd
 obtain ⟨w0,hw0⟩: ∃x,x=(w.alloc (.cells D.cells 43)).alloc (.cells #[.int .i64 0, .int .i64 0, .slice none 0 0, .int .i64 0, .int .i64 0, .slice none 0 0, .slice none 0 0] 43):=⟨_,rfl⟩
 have KA:Hid (Blk w0 w.heap.size 43 #[.int .i64 D.P.W, .int .i64 D.P.H, .slice D.P.a D.P.n D.P.c, .int .i64 D.M.W, .int .i64 D.M.H, .slice D.M.a D.M.n D.M.c, .slice D.a D.n D.c]):=Lib.hid (by rw [hw0];exact (Blk.new w _ _).alloc _)
 have KR:Hid (Blk w0 (w.heap.size+1) 43 #[.int .i64 0, .int .i64 0, .slice none 0 0, .int .i64 0, .int .i64 0, .slice none 0 0, .slice none 0 0]):=Lib.hid (by rw [hw0];exact Blk.new' _ _ (by simp))
 have HB0:Hid (Below w.heap.size w w0):=Lib.hid (by rw [hw0];exact bAlloc (bAlloc (Below.refl _ _) _) _)
 have HZ0:Hid (w0.heap.size=w.heap.size+2):=Lib.hid (by rw [hw0];simp)
 clear hr hs ha hL hbd
 show Calls Tryz.prog 15 #[.agg #[.int .i64 D.P.W, .int .i64 D.P.H, .slice D.P.a D.P.n D.P.c, .int .i64 D.M.W, .int .i64 D.M.H, .slice D.M.a D.M.n D.M.c, .slice D.a D.n D.c], .string s] w _
 go_enter Tryz.func15,Tryz.ntmps15
 go_upto_region 1 with fail
 rw [show (w.alloc (.cells #[.int .i64 D.P.W, .int .i64 D.P.H, .slice D.P.a D.P.n D.P.c, .int .i64 D.M.W, .int .i64 D.M.H, .slice D.M.a D.M.n D.M.c, .slice D.a D.n D.c] 43)).alloc (.cells #[.int .i64 0, .int .i64 0, .slice none 0 0, .int .i64 0, .int .i64 0, .slice none 0 0, .slice none 0 0] 43)=w0 from hw0.symm]
 clear hw0
 obtain ⟨l0,c0,c1,c2,c3,c4,c5,c6⟩:=KA.out.c7
 go_wp2_with fail
 refine (impl_unchangedDesk D w0 (HR.out.below HB0.out) HS.out HA.out).mono ?_
 rintro e w1 ⟨E,rfl,ho,hd,hsm,hb⟩
 have HO1:=Lib.hid ho
 have HB1:=Lib.hid hb
 have HSM:=Lib.hid hsm
 have HD:=Lib.hid hd
 have HEB:=Lib.hid ho.bd
 have KR1:=Lib.hid (KR.out.below' hb)
 clear ho hd hsm hb KA l0 c0 c1 c2 c3 c4 c5 c6
 obtain ⟨w2,hw2⟩: ∃x,x=w1.alloc (.cells E.cells 43):=⟨_,rfl⟩
 have KG2:Hid (Blk w2 w1.heap.size 43 #[.int .i64 E.P.W, .int .i64 E.P.H, .slice E.P.a E.P.n E.P.c, .int .i64 E.M.W, .int .i64 E.M.H, .slice E.M.a E.M.n E.M.c, .slice E.a E.n E.c]):=Lib.hid (by rw [hw2];exact Blk.new w1 _ _)
 have KR2:Hid (Blk w2 (w.heap.size+1) 43 #[.int .i64 0, .int .i64 0, .slice none 0 0, .int .i64 0, .int .i64 0, .slice none 0 0, .slice none 0 0]):=Lib.hid (by rw [hw2];exact KR1.out.alloc _)
 have HO2:Hid (OwnD w2 w0.heap.size E):=Lib.hid (by rw [hw2];exact HO1.out.alloc _)
 have HB2:Hid (Below w0.heap.size w0 w2):=Lib.hid (by rw [hw2];exact bAlloc HB1.out _)
 have HZ2:Hid (w2.heap.size=w1.heap.size+1):=Lib.hid (by rw [hw2];simp)
 clear KR1 HO1
 unfold Dsk.val
 go_upto_region 2 with fail
 rw [show w1.alloc (.cells #[.int .i64 E.P.W, .int .i64 E.P.H, .slice E.P.a E.P.n E.P.c, .int .i64 E.M.W, .int .i64 E.M.H, .slice E.M.a E.M.n E.M.c, .slice E.a E.n E.c] 43)=w2 from hw2.symm]
 clear hw2
 obtain ⟨l0,c0,c1,c2,c3,c4,c5,c6⟩:=KG2.out.c7
 go_wp2_with fail
 refine (impl_DeskOk E w2 HO2.out.rd HSM.out).mono ?_
 rintro e w3 ⟨rfl,hb⟩
 have KG3:=Lib.hid (KG2.out.below' hb)
 have KR3:=Lib.hid (KR2.out.below' hb)
 have HO3:=Lib.hid (HO2.out.below hb)
 have HB3:=Lib.hid (bTrans HB2.out hb)
 have HW3:=Lib.hid (bTrans HB0.out (Below.mono HB3.out (Nat.le_refl _)))
 have HZ3:=Lib.hid hb.size
 clear hb KG2 KR2 HO2 l0 c0 c1 c2 c3 c4 c5 c6
 rw [HD.out]
 by_cases hk:deskOk D.dat=true
 case neg=>
   have hk2:deskOk D.dat=false:=by simpa using hk
   have E1:Hid (runF D.dat s=(D.dat,ansBad)):=Lib.hid (by unfold runF;rw [if_neg hk])
   rw [hk2]
   obtain ⟨r0,x0,x1,x2,x3,x4,x5,x6⟩:=KR3.out.c7
   obtain ⟨f0,f1,f2,f3,f4,f5,f6⟩:=KR3.out.f7
   obtain ⟨l0,c0,c1,c2,c3,c4,c5,c6⟩:=KG3.out.c7
   go_wp2_with fail
   have hz0:=HZ0.out
   refine bodyPost_ret (v:= .tuple #[E.val, .string ⟨#[98,97,100]⟩]) (by simp [results,Tryz.results15,go_sem,Dsk.val,x0,x1,x2,x3,x4,x5,x6]) rfl ⟨E,(by rw [E1.out];try rfl),?_,?_,HSM.out,?_⟩
   · exact OwnD.mono (HO3.out.set7 (fun b hb=>by have:=HO3.out.bd b hb;omega) _ _ _ _ _ _ _) (by omega)
   · rw [HD.out,E1.out]
   · exact below_set7 HW3.out (by omega) _ _ _ _ _ _ _
 rw [hk]
 by_cases hs0:s.size=0
 case pos=>
   have hse:s=⟨#[]⟩:=by
     cases s with
     | mk d=>congr;exact Array.eq_empty_of_size_eq_zero hs0
   have E1:Hid (runF D.dat s=(D.dat,[])):=Lib.hid (by unfold runF;rw [if_pos hk,if_pos hs0])
   subst hse
   obtain ⟨r0,x0,x1,x2,x3,x4,x5,x6⟩:=KR3.out.c7
   obtain ⟨f0,f1,f2,f3,f4,f5,f6⟩:=KR3.out.f7
   obtain ⟨l0,c0,c1,c2,c3,c4,c5,c6⟩:=KG3.out.c7
   go_wp2_with fail
   have hz0:=HZ0.out
   refine bodyPost_ret (v:= .tuple #[E.val, .string ⟨#[]⟩]) (by simp [results,Tryz.results15,go_sem,Dsk.val,x0,x1,x2,x3,x4,x5,x6]) rfl ⟨E,(by rw [E1.out];try rfl),?_,?_,HSM.out,?_⟩
   · exact OwnD.mono (HO3.out.set7 (fun b hb=>by have:=HO3.out.bd b hb;omega) _ _ _ _ _ _ _) (by omega)
   · rw [HD.out,E1.out]
   · exact below_set7 HW3.out (by omega) _ _ _ _ _ _ _
 have hs2: ¬s.toList=[]:=fun e=>hs0 (by have:=bytes_lit e;rw [this];rfl)
 have hs1:s.toList.isEmpty=false:=by
   cases h:s.toList with
   | nil=>exact absurd h hs2
   | cons a b=>rfl
 clear hs2
 obtain ⟨l0,c0,c1,c2,c3,c4,c5,c6⟩:=KG3.out.c7
 go_wp2_with fail
 refine (cmd_line s w3 hz (HLW.out.below HW3.out)).mono ?_
 rintro e w4 ⟨hb,v,hcase⟩
 have KG4:=Lib.hid (KG3.out.below' hb)
 have KR4:=Lib.hid (KR3.out.below' hb)
 have HO4:=Lib.hid (HO3.out.below hb)
 have HB4:=Lib.hid (bTrans HB3.out hb)
 have HW4:=Lib.hid (bTrans HW3.out hb)
 clear hb l0 c0 c1 c2 c3 c4 c5 c6
 rcases hcase with ⟨hno,rfl⟩ | ⟨F,hF,rfl,hcv⟩
 · have E1:Hid (runF D.dat s=(D.dat,ansWhat)):=Lib.hid (by unfold runF;rw [if_pos hk,if_neg hs0,hno])
   obtain ⟨r0,x0,x1,x2,x3,x4,x5,x6⟩:=KR4.out.c7
   obtain ⟨f0,f1,f2,f3,f4,f5,f6⟩:=KR4.out.f7
   obtain ⟨l0,c0,c1,c2,c3,c4,c5,c6⟩:=KG4.out.c7
   go_wp2_with fail
   have hz0:=HZ0.out
   exact bodyPost_ret (v:= .tuple #[E.val, .string ⟨#[119,104,97,116]⟩]) (by simp [results,Tryz.results15,go_sem,Dsk.val,x0,x1,x2,x3,x4,x5,x6]) rfl ⟨E,(by rw [E1.out];try rfl),
     OwnD.mono (HO4.out.set7 (fun b hb=>by have:=HO4.out.bd b hb;omega) _ _ _ _ _ _ _) (by omega),(by rw [HD.out,E1.out]),HSM.out,below_set7 HW4.out (by omega) _ _ _ _ _ _ _⟩
 have E1:Hid (runF D.dat s=F D.dat):=Lib.hid (by unfold runF;rw [if_pos hk,if_neg hs0,hF])
 obtain ⟨T,h,p,hmem,rfl,hperf⟩:=hcv
 have hz0:=HZ0.out
 have hz2:=HZ2.out
 have hz3:=HZ3.out
 have hin:PerfIn w4 w0.heap.size w1.heap.size E:=⟨KG4.out,HO4.out,fun b hb=>by have:=HEB.out b hb;omega,HSM.out,by rw [HD.out];exact hk,by have:=HB1.out.size;omega,HLW.out.below HW4.out,by have:=HLW.out.size;omega⟩
 have hcall:=hperf w0.heap.size w1.heap.size E hin (by have:=HB3.out.size;omega) (by omega) (fun b hb=>by have:=HEB.out b hb;omega) (by rw [HD.out];exact HBD.out hk)
 have HC:=Lib.hid hcall
 clear hin hcall hperf
 have hm0: ∀(p:Value) (w:World),(method 412 122 p "loop.example/g03229/impl.perform").run Tryz.prog w= .ok (246,p) w:=fun _ _=>by kernel_rfl
 have hm1: ∀(p:Value) (w:World),(method 412 106 p "loop.example/g03229/impl.perform").run Tryz.prog w= .ok (243,p) w:=fun _ _=>by kernel_rfl
 have hm2: ∀(p:Value) (w:World),(method 412 108 p "loop.example/g03229/impl.perform").run Tryz.prog w= .ok (244,p) w:=fun _ _=>by kernel_rfl
 have hm3: ∀(p:Value) (w:World),(method 412 113 p "loop.example/g03229/impl.perform").run Tryz.prog w= .ok (245,p) w:=fun _ _=>by kernel_rfl
 have hm4: ∀(p:Value) (w:World),(method 412 129 p "loop.example/g03229/impl.perform").run Tryz.prog w= .ok (247,p) w:=fun _ _=>by kernel_rfl
 simp only [performs,List.mem_cons,List.mem_nil_iff,or_false,Prod.mk.injEq] at hmem
 rcases hmem with ⟨rfl,rfl⟩ | ⟨rfl,rfl⟩ | ⟨rfl,rfl⟩ | ⟨rfl,rfl⟩ | ⟨rfl,rfl⟩
 all_goals (
   go_wp2_with fail
   refine HC.out.mono ?_
   rintro e w5 ⟨E2,rfl,kg,how,hoff,hdat,hsm2,hb⟩
   have KG5:=Lib.hid kg
   have HO5:=Lib.hid how
   have HSM5:=Lib.hid hsm2
   have HDAT:=Lib.hid hdat
   have HW5:=Lib.hid (Below.trans HW4.out (hb.mono (by omega)))
   have KR5:=Lib.hid (KR4.out.below hb (by omega))
   clear kg how hoff hdat hsm2 hb
   obtain ⟨r0,x0,x1,x2,x3,x4,x5,x6⟩:=KR5.out.c7
   obtain ⟨f0,f1,f2,f3,f4,f5,f6⟩:=KR5.out.f7
   obtain ⟨l0,c0,c1,c2,c3,c4,c5,c6⟩:=(show Blk w5 w1.heap.size 43 #[.int .i64 E2.P.W, .int .i64 E2.P.H, .slice E2.P.a E2.P.n E2.P.c, .int .i64 E2.M.W, .int .i64 E2.M.H, .slice E2.M.a E2.M.n E2.M.c, .slice E2.a E2.n E2.c] from KG5.out).c7
   go_wp2_with fail
   exact bodyPost_ret (v:= .tuple #[E2.val, .string ⟨(F E.dat).2.toArray⟩]) (by simp [results,Tryz.results15,go_sem,Dsk.val,x0,x1,x2,x3,x4,x5,x6]) rfl ⟨E2,(by rw [E1.out,HD.out]),
     OwnD.mono (HO5.out.set7 (fun b hb=>by have:=HO5.out.bd b hb;omega) _ _ _ _ _ _ _) (by omega),(by rw [HDAT.out,HD.out,E1.out]),HSM5.out,below_set7 HW5.out (by omega) _ _ _ _ _ _ _⟩)
end Go.Proofs.YtanccoopbgamdaaGreatDoor
