/-
  Contracts and plain facts on which the theorem of this claim rests, text 21.
-/
import Derived.Deep.DeepCutAuto
import Derived.Lib.AtoiAll
import Derived.Lib.SmallJoins
import Derived.Test.YtanccoopbgamdaaGreatDoorKC3
import Derived.Test.YtanccoopbgamdaaGreatDoorKC4
import Derived.Test.YtanccoopbgamdaaGreatDoorKC5
import Derived.Test.YtanccoopbgamdaaGreatDoorKC12
import Derived.Test.YtanccoopbgamdaaGreatDoorKC13
import Derived.Test.YtanccoopbgamdaaGreatDoorKC14
import Derived.Test.YtanccoopbgamdaaGreatDoorKC16
import Derived.Test.YtanccoopbgamdaaGreatDoorKC17
import Derived.Test.YtanccoopbgamdaaGreatDoorKC19
import Derived.Test.YtanccoopbgamdaaGreatDoorKC20
namespace Go.Proofs.YtanccoopbgamdaaGreatDoor
open Go.RowKit
set_option linter.unusedVariables false
set_option linter.unusedSimpArgs false
structure SSt (w:World) (B gv gd ge n c:Nat) (vs ds es:List Int):Prop where
 hv:B≤gv
 hd:B≤gd
 he:B≤ge
 n1:gv≠gd
 n2:gv≠ge
 n3:gd≠ge
 vals:Own w gv n c vs
 dots:Own w gd n n ds
 errs:Own w ge n n es
namespace SSt
variable {w w' : World} {B gv gd ge n c : Nat} {vs ds es : List Int}
theorem below (h:SSt w B gv gd ge n c vs ds es) (hb:Below w.heap.size w w'):SSt w' B gv gd ge n c vs ds es:=
 ⟨h.hv,h.hd,h.he,h.n1,h.n2,h.n3,h.vals.below hb h.vals.lt,h.dots.below hb h.dots.lt,h.errs.below hb h.errs.lt⟩
theorem drewN (h:SSt w B gv gd ge n c vs ds es) (m:Nat):SSt (w.drewN m) B gv gd ge n c vs ds es:=
 ⟨h.hv,h.hd,h.he,h.n1,h.n2,h.n3,h.vals.drewN m,h.dots.drewN m,h.errs.drewN m⟩
theorem setDot (h:SSt w B gv gd ge n c vs ds es) (j:Nat) (v:Int):SSt (w.setCell ⟨gd,j,none⟩ (.int .i64 v)) B gv gd ge n c vs (ds.set j v) es:=
 ⟨h.hv,h.hd,h.he,h.n1,h.n2,h.n3,h.vals.other (by simp;exact fun e=>h.n1 e.symm) _,h.dots.set j v,h.errs.other (by simp;exact h.n3) _⟩
theorem trio (h:SSt w B gv gd ge n c vs ds es): ∀i,Trio gv gd ge i→B≤i:=by
 have:=h.hv;have:=h.hd;have:=h.he
 rintro i (rfl | rfl | rfl) <;>assumption
theorem trioLt (h:SSt w B gv gd ge n c vs ds es): ∀i,Trio gv gd ge i→i<w.heap.size:=by
 have:=h.vals.lt;have:=h.dots.lt;have:=h.errs.lt
 rintro i (rfl | rfl | rfl) <;>assumption
end SSt
def DiffOut (w:World) (R:Pic × Int × Bool) (e:Ending) (w':World):Prop:=
 ∃a n c,e= .returned (.tuple #[.agg #[.int .i64 R.1.W, .int .i64 R.1.H, .slice a n c], .int .i64 R.2.1, .bool R.2.2])∧OwnA w' w.heap.size a n c R.1.ink∧n≤1048576∧Below w.heap.size w w'
set_option maxRecDepth 100000 in
set_option maxHeartbeats 3200000 in
theorem impl_DiffusePicture (kad:Option Addr) (kn kcap:Nat) (ks:List Prt) (W H:Int) (ad:Option Addr) (n cap:Nat) (xs:List Int) (alt:Bool) (w:World)
   (hkl:ks.length=kn) (hkr:Rd w kad (flat ks)) (hkm:kn≤1048576) (hkc:kn≤kcap) (hn:xs.length=n) (ha:Rd w ad xs) (hl:n≤9223372036854775807):
   Calls Tryz.prog 101 #[.slice kad kn kcap, .agg #[.int .i64 W, .int .i64 H, .slice ad n cap], .bool alt] w (DiffOut w (diffF ks W H xs alt)):=by
 have HKL:=Lib.hid hkl
 have HKR:=Lib.hid ((hkr.alloc (.cells #[.int .i64 W, .int .i64 H, .slice ad n cap] 27)).alloc (.cells #[.int .i64 0, .int .i64 0, .slice none 0 0] 27))
 have HN:=Lib.hid hn
 have HA:=Lib.hid ((ha.alloc (.cells #[.int .i64 W, .int .i64 H, .slice ad n cap] 27)).alloc (.cells #[.int .i64 0, .int .i64 0, .slice none 0 0] 27))
 have HB0:=Lib.hid (Joins.below_alloc2 w (.cells #[.int .i64 W, .int .i64 H, .slice ad n cap] 27) (.cells #[.int .i64 0, .int .i64 0, .slice none 0 0] 27))
 have KP0:=Lib.hid ((Blk.new w 27 #[.int .i64 W, .int .i64 H, .slice ad n cap]).alloc (.cells #[.int .i64 0, .int .i64 0, .slice none 0 0] 27))
 have KR0:=Lib.hid (Blk.new' (g:=w.heap.size+1) (w:=w.alloc (.cells #[.int .i64 W, .int .i64 H, .slice ad n cap] 27)) 27 #[.int .i64 0, .int .i64 0, .slice none 0 0] (by simp))
 obtain ⟨R,hR⟩: ∃R,diffF ks W H xs alt=R:=⟨_,rfl⟩
 rw [hR]
 have HR:=Lib.hid hR
 clear hkl hkr hn ha hR
 go_enter Tryz.func101,Tryz.ntmps101
 go_wp2_with fail
 refine (impl_IsKernel _ _ _ ks _ HKL.out (by exact HKR.out) hkm hkc).mono ?_
 rintro e w1 ⟨rfl,hb⟩
 have HB1:=Lib.hid (HB0.out.trans (hb.mono (by simp;omega)))
 have KP1:=Lib.hid (KP0.out.below' hb)
 have KR1:=Lib.hid (KR0.out.below' hb)
 have HKR1:=Lib.hid (HKR.out.below hb)
 have HA1:=Lib.hid (HA.out.below hb)
 clear hb
 by_cases hk:kernOk ks=true
 case neg=>
   have hk2:kernOk ks=false:=by simpa using hk
   rw [hk2]
   have HB2:=HB1
   obtain rfl:R=(noPic,0,false):=HR.out.symm.trans (diffF_no (fun h=>hk h.1))
   clear hk hk2
   obtain ⟨m1,d0,d1,d2⟩:=KR1.out.c3
   obtain ⟨f0,f1,f2⟩:=KR1.out.f3
   go_wp2_with fail
   exact bodyPost_ret (v:= .tuple #[.agg #[.int .i64 0, .int .i64 0, .slice none 0 0], .int .i64 0, .bool false]) (by simp [results,Tryz.results101,go_sem,d0,d1,d2]) rfl ⟨none,0,0,rfl,OwnA.none _ _,by omega,((HB2.out.setCell (by simp) _).setCell (by simp) _).setCell (by simp) _⟩
 case pos=>
   rw [hk]
   have HKO:=Lib.hid hk
   clear hk
   obtain ⟨l1,c0,c1,c2⟩:=KP1.out.c3
   go_wp2_with fail
   refine (impl_IsPicture _ _ _ _ _ xs _ HN.out (by exact HA1.out) hl).mono ?_
   rintro e w2 ⟨rfl,hb⟩
   have HB2:=Lib.hid (bTrans HB1.out hb)
   have KP2:=Lib.hid (KP1.out.below' hb)
   have KR2:=Lib.hid (KR1.out.below' hb)
   have HKR2:=Lib.hid (HKR1.out.below hb)
   have HA2:=Lib.hid (HA1.out.below hb)
   clear hb l1 c0 c1 c2
   by_cases hp:picOk W H xs 255=true
   case neg=>
     have hp2:picOk W H xs 255=false:=by simpa using hp
     rw [hp2]
     obtain rfl:R=(noPic,0,false):=HR.out.symm.trans (diffF_no (fun h=>hp h.2))
     clear hp hp2
     obtain ⟨m1,d0,d1,d2⟩:=KR2.out.c3
     obtain ⟨f0,f1,f2⟩:=KR2.out.f3
     go_wp2_with fail
     exact bodyPost_ret (v:= .tuple #[.agg #[.int .i64 0, .int .i64 0, .slice none 0 0], .int .i64 0, .bool false]) (by simp [results,Tryz.results101,go_sem,d0,d1,d2]) rfl ⟨none,0,0,rfl,OwnA.none _ _,by omega,((HB2.out.setCell (by simp) _).setCell (by simp) _).setCell (by simp) _⟩
   case pos=>
     rw [hp]
     have HP:=Lib.hid hp
     have HRR:=Lib.hid (HR.out.symm.trans (diffF_yes HN.out HKO.out hp))
     obtain ⟨hs,hq,hi⟩:=picOk_bd HN.out hp
     have hn2:n≤1048576:=by have:=sizeOk_bd hs;omega
     clear hp hs hq hi
     obtain ⟨l1,c0,c1,c2⟩:=KP2.out.c3
     go_wp2_with fail
     refine (impl_diffused kad kn kcap W H ad n cap xs alt ks _ HKL.out (by exact HKR2.out) hkc HKO.out HN.out (by exact HA2.out) HP.out).mono ?_
     rintro e w3 ⟨gp,gr,rc,rfl,o1,o2,h1,h2,hb⟩
     have HO1:=Lib.hid o1
     have HB3:=Lib.hid (bTrans HB2.out hb)
     have KR3:=Lib.hid (KR2.out.below' hb)
     have HZ:=Lib.hid (show w.heap.size+1<gp from Nat.lt_of_lt_of_le KR2.out.lt h1)
     clear o1 o2 h1 h2 hb l1 c0 c1 c2
     obtain ⟨m1,d0,d1,d2⟩:=KR3.out.c3
     obtain ⟨f0,f1,f2⟩:=KR3.out.f3
     go_wp2_with fail
     go_region
     go_wp2_with fail
     obtain rfl:=HRR.out
     have HO2:=Lib.hid (((HO1.out.other (a:=⟨w.heap.size+1,0,none⟩) (by have:=HZ.out;simp;omega) (.int .i64 W)).other (a:=⟨w.heap.size+1,1,none⟩) (by have:=HZ.out;simp;omega) (.int .i64 H)).other (a:=⟨w.heap.size+1,2,none⟩) (by have:=HZ.out;simp;omega) (.slice (some ⟨gp,0,none⟩) n n))
     have HB4:=Lib.hid (((HB3.out.setCell (show w.heap.size≤(⟨w.heap.size+1,0,none⟩:Addr).block by simp) (.int .i64 W)).setCell (show w.heap.size≤(⟨w.heap.size+1,1,none⟩:Addr).block by simp) (.int .i64 H)).setCell (show w.heap.size≤(⟨w.heap.size+1,2,none⟩:Addr).block by simp) (.slice (some ⟨gp,0,none⟩) n n))
     exact bodyPost_ret (v:= .tuple #[.agg #[.int .i64 W, .int .i64 H, .slice (some ⟨gp,0,none⟩) n n], .int .i64 (runG alt ks W H xs n).lost, .bool true]) (by simp [results,Tryz.results101,go_sem,d0,d1,d2,m1,Nat.lt_of_lt_of_le m1]) rfl
       ⟨_,_,_,rfl,OwnA.mk ((HO2.out.alloc _).drewN 1) (by have:=HZ.out;omega),hn2,(bAlloc HB4.out _).drew⟩
def screenT (d:Dat):Pic × List UInt8:=(screenF d.2.1.W d.2.1.H d.2.1.ink d.1.W d.1.H d.1.ink,ansOk)
def diffT (ks:List Prt) (alt:Bool) (d:Dat):Pic × List UInt8:=((diffF ks d.1.W d.1.H d.1.ink alt).1,textI [(diffF ks d.1.W d.1.H d.1.ink alt).2.1])
set_option maxRecDepth 100000 in
set_option maxHeartbeats 1600000 in
theorem plate_screen (D:Dsk) (w:World) (hr:RdD w D) (hs:SmallD D):
   Calls Tryz.prog 76 (#[.agg #[.int .i64 D.P.W, .int .i64 D.P.H, .slice D.P.a D.P.n D.P.c, .int .i64 D.M.W, .int .i64 D.M.H, .slice D.M.a D.M.n D.M.c, .slice D.a D.n D.c]]++#[]) w (PlateRes w (screenT D.dat)):=by
 show Calls Tryz.prog 76 #[.agg #[.int .i64 D.P.W, .int .i64 D.P.H, .slice D.P.a D.P.n D.P.c, .int .i64 D.M.W, .int .i64 D.M.H, .slice D.M.a D.M.n D.M.c, .slice D.a D.n D.c]] w _
 have HR:=Lib.hid hr
 have s1:=hs.p
 have s2:=hs.m
 have HB0:=Lib.hid (bAlloc (bAlloc (Below.refl w.heap.size w) (.cells #[.int .i64 D.P.W, .int .i64 D.P.H, .slice D.P.a D.P.n D.P.c, .int .i64 D.M.W, .int .i64 D.M.H, .slice D.M.a D.M.n D.M.c, .slice D.a D.n D.c] 43)) (.cells #[.int .i64 0, .int .i64 0, .slice none 0 0] 27))
 have KR0:=Lib.hid (Blk.new' (g:=w.heap.size+1) (w:=w.alloc (.cells #[.int .i64 D.P.W, .int .i64 D.P.H, .slice D.P.a D.P.n D.P.c, .int .i64 D.M.W, .int .i64 D.M.H, .slice D.M.a D.M.n D.M.c, .slice D.a D.n D.c] 43)) 27 #[.int .i64 0, .int .i64 0, .slice none 0 0] (by simp))
 clear hr hs
 go_enter Tryz.func76,Tryz.ntmps76
 go_wp2_with fail
 refine (impl_ScreenPicture D.M.W D.M.H D.M.a D.M.n D.M.c D.M.ink D.P.W D.P.H D.P.a D.P.n D.P.c D.P.ink _ HR.out.ml (by exact HR.out.mr.below HB0.out) (by omega) HR.out.pl (by exact HR.out.pr.below HB0.out) (by omega)).mono ?_
 rintro e w1 ⟨a1,n1,k1,rfl,ho,hn1,hb⟩
 have HB1:=Lib.hid (bTrans HB0.out hb)
 have KR1:=Lib.hid (KR0.out.below' hb)
 have HO:=Lib.hid ho
 have HZ:Hid (w.heap.size+2≤w1.heap.size):=Lib.hid (by have:=hb.size;simpa using this)
 clear hb ho KR0
 obtain ⟨l0,c0,c1,c2⟩:=KR1.out.c3
 obtain ⟨f0,f1,f2⟩:=KR1.out.f3
 go_wp2_with fail
 obtain ⟨R,hR⟩: ∃R,screenF D.M.W D.M.H D.M.ink D.P.W D.P.H D.P.ink=R:=⟨_,rfl⟩
 rw [hR] at HO⊢
 exact bodyPost_ret (v:= .tuple #[.agg #[.int .i64 R.W, .int .i64 R.H, .slice a1 n1 k1], .string ⟨#[111,107]⟩]) (by simp [results,Tryz.results76,go_sem,c0,c1,c2]) rfl
   ⟨R.W,R.H,a1,n1,k1,R.ink,rfl,hR.symm,OwnA.mono (((HO.out.other (by simp) _).other (by simp) _).other (by simp) _) (by simp;omega),hn1,((HB1.out.setCell (by simp) _).setCell (by simp) _).setCell (by simp) _⟩
set_option maxRecDepth 100000 in
set_option maxHeartbeats 1600000 in
theorem plate_diffuse (kb ab kn kc:Nat) (kad:Option Addr) (ks:List Prt) (alt:Bool) (D:Dsk) (w:World) (hr:RdD w D) (hs:SmallD D) (hL:LaidW w)
   (hkb:w.cell? ⟨kb,0,none⟩=some (.slice kad kn kc)) (hab:w.cell? ⟨ab,0,none⟩=some (.bool alt)) (hkl:kb<w.heap.size) (hal:ab<w.heap.size)
   (hk1:ks.length=kn) (hk2:Rd w kad (flat ks)) (hk3:kn≤1048576) (hk4:kn≤kc) (hi:InI64 (diffF ks D.P.W D.P.H D.P.ink alt).2.1):
   Calls Tryz.prog 100 (#[.agg #[.int .i64 D.P.W, .int .i64 D.P.H, .slice D.P.a D.P.n D.P.c, .int .i64 D.M.W, .int .i64 D.M.H, .slice D.M.a D.M.n D.M.c, .slice D.a D.n D.c]]++#[.pointer (some ⟨kb,0,none⟩), .pointer (some ⟨ab,0,none⟩)]) w (PlateRes w (diffT ks alt D.dat)):=by
 show Calls Tryz.prog 100 #[.agg #[.int .i64 D.P.W, .int .i64 D.P.H, .slice D.P.a D.P.n D.P.c, .int .i64 D.M.W, .int .i64 D.M.H, .slice D.M.a D.M.n D.M.c, .slice D.a D.n D.c], .pointer (some ⟨kb,0,none⟩), .pointer (some ⟨ab,0,none⟩)] w _
 have HR:=Lib.hid hr
 have HK:=Lib.hid hk1
 have HK2:=Lib.hid hk2
 have HLW:=Lib.hid hL
 have s1:=hs.p
 have HB0:=Lib.hid (bAlloc (bAlloc (Below.refl w.heap.size w) (.cells #[.int .i64 D.P.W, .int .i64 D.P.H, .slice D.P.a D.P.n D.P.c, .int .i64 D.M.W, .int .i64 D.M.H, .slice D.M.a D.M.n D.M.c, .slice D.a D.n D.c] 43)) (.cells #[.int .i64 0, .int .i64 0, .slice none 0 0] 27))
 have KR0:=Lib.hid (Blk.new' (g:=w.heap.size+1) (w:=w.alloc (.cells #[.int .i64 D.P.W, .int .i64 D.P.H, .slice D.P.a D.P.n D.P.c, .int .i64 D.M.W, .int .i64 D.M.H, .slice D.M.a D.M.n D.M.c, .slice D.a D.n D.c] 43)) 27 #[.int .i64 0, .int .i64 0, .slice none 0 0] (by simp))
 obtain ⟨R,hR⟩: ∃R,diffF ks D.P.W D.P.H D.P.ink alt=R:=⟨_,rfl⟩
 rw [hR] at hi
 have HI:=Lib.hid hi
 have HRR:=Lib.hid hR
 have E:Hid (diffT ks alt D.dat=(R.1,textI [R.2.1])):=Lib.hid (by unfold diffT;rw [show D.dat.1.W=D.P.W from rfl,show D.dat.1.H=D.P.H from rfl,show D.dat.1.ink=D.P.ink from rfl,hR])
 rw [E.out]
 have e1:=(HB0.out.cell hkl).trans hkb
 have e2:=(HB0.out.cell hal).trans hab
 clear hr hs hk1 hk2 hL hi hR hkb hab
 go_enter Tryz.func100,Tryz.ntmps100
 go_wp2_with fail
 refine (impl_DiffusePicture kad kn kc ks D.P.W D.P.H D.P.a D.P.n D.P.c D.P.ink alt _ HK.out (by exact HK2.out.below HB0.out) hk3 hk4 HR.out.pl (by exact HR.out.pr.below HB0.out) (by omega)).mono ?_
 rw [HRR.out]
 rintro e w1 ⟨a1,n1,k1,rfl,ho,hn1,hb⟩
 have HB1:=Lib.hid (bAlloc (bTrans HB0.out hb) (.cells #[.int .i64 R.1.W, .int .i64 R.1.H, .slice a1 n1 k1] 27))
 have KR1:=Lib.hid ((KR0.out.below' hb).alloc (.cells #[.int .i64 R.1.W, .int .i64 R.1.H, .slice a1 n1 k1] 27))
 have KT1:=Lib.hid (Blk.new w1 27 #[.int .i64 R.1.W, .int .i64 R.1.H, .slice a1 n1 k1])
 have HO:=Lib.hid (ho.alloc (.cells #[.int .i64 R.1.W, .int .i64 R.1.H, .slice a1 n1 k1] 27))
 have HZ:Hid (w.heap.size+2≤w1.heap.size):=Lib.hid (by have:=hb.size;simpa using this)
 obtain ⟨w2,hw2⟩: ∃x,x=w1.alloc (.cells #[.int .i64 R.1.W, .int .i64 R.1.H, .slice a1 n1 k1] 27):=⟨_,rfl⟩
 rw [←hw2] at HB1 KR1 KT1 HO
 clear hb ho KR0 e1 e2
 go_upto_region 2 with fail
 rw [←hw2]
 clear hw2
 obtain ⟨t0,c0,c1,c2⟩:=KT1.out.c3
 have MK:Hid (∀v,BelowL w2 v→v.cell? ⟨w1.heap.size,0,none⟩=some (.int .i64 R.1.W)∧v.cell? ⟨w1.heap.size,1,none⟩=some (.int .i64 R.1.H)∧v.cell? ⟨w1.heap.size,2,none⟩=some (.slice a1 n1 k1)∧BelowL w2 v):=Lib.hid (fun v h=>⟨(h.out.cell t0).trans c0,(h.out.cell t0).trans c1,(h.out.cell t0).trans c2,h⟩)
 clear c0 c1 c2 t0
 refine wp_region_T 4 (fun v=>v.cell? ⟨w1.heap.size,0,none⟩=some (.int .i64 R.1.W)∧v.cell? ⟨w1.heap.size,1,none⟩=some (.int .i64 R.1.H)∧v.cell? ⟨w1.heap.size,2,none⟩=some (.slice a1 n1 k1)∧BelowL w2 v) (by kernel_rfl) (MK.out _ (BelowL.start _)) ?_
 intro hHeld
 have hb0:=limb4 hHeld
 refine tTake 0 ?_
 refine tTake 1 ?_
 refine tOne 2 (fun K hK=>?_)
 go_simp
 have hb1:BelowL w2 (w2.alloc (.cells #[.int .i64 R.2.1] 3)).drew:=BelowL.mk (bAlloc (Below.refl _ _) _).drew
 have hrd:Rd (w2.alloc (.cells #[.int .i64 R.2.1] 3)).drew (some ⟨w2.heap.size,0,none⟩) [R.2.1]:=(rd_lit1 w2 R.2.1 3).below (Below.refl _ _).drew
 refine hK.out _ _ (fun _=>by (try dsimp only);exact MK.out _ hb1) (fun hH2=>?_)
 clear hK K hHeld hH2
 have HLw:=(HLW.out.below HB1.out).below hb1.out
 refine tOne 3 (fun K hK=>?_)
 go_simp
 go_at_call 102
 refine (impl_textOf (some ⟨w2.heap.size,0,none⟩) 1 1 [R.2.1] _ rfl (by exact hrd) (by omega) (fun x hx=>by simp at hx;rw [hx];exact HI.out) HLw).mono ?_
 rintro e v2 ⟨rfl,hq2⟩
 have hb3:=BelowL.call hb1 hq2
 go_wp2_with fail
 refine hK.out _ _ (fun _=>by (try dsimp only);exact MK.out _ hb3) (fun hH2=>?_)
 clear hK K hH2
 have KR2:=KR1.out.below' hb3.out
 have HO2:=Lib.hid (HO.out.below' hb3.out)
 have HB2:=Lib.hid (bTrans HB1.out hb3.out)
 obtain ⟨l0,c0,c1,c2⟩:=KR2.c3
 obtain ⟨f0,f1,f2⟩:=KR2.f3
 refine tOne 4 (fun K hK=>?_)
 go_simp
 refine hK.out _ _ (fun h=>absurd h (by decide)) (fun hH2=>?_)
 clear hK K hH2
 refine tOne 5 (fun K hK=>?_)
 go_simp
 refine hK.out _ _ (fun h=>absurd h (by decide)) (fun hH2=>?_)
 clear hK K hH2
 refine wpAnyT_done (by kernel_rfl) ?_ _
 (try go_simp)
 go_wp2_with fail
 have hz:=HZ.out
 exact bodyPost_ret (v:= .tuple #[.agg #[.int .i64 R.1.W, .int .i64 R.1.H, .slice a1 n1 k1], .string ⟨(textI [R.2.1]).toArray⟩]) (by simp [results,Tryz.results100,go_sem,c0,c1,c2]) rfl
   ⟨R.1.W,R.1.H,a1,n1,k1,R.1.ink,rfl,rfl,OwnA.mono (((HO2.out.other (by simp) _).other (by simp) _).other (by simp) _) (by simp;omega),hn1,((HB2.out.setCell (by simp) _).setCell (by simp) _).setCell (by simp) _⟩
set_option maxRecDepth 100000 in
set_option maxHeartbeats 800000 in
theorem mat_reverse (D:Dsk) (B g:Nat) (w:World) (hin:PerfIn w B g D):
   Calls Tryz.prog 75 (#[.agg #[.int .i64 D.M.W, .int .i64 D.M.H, .slice D.M.a D.M.n D.M.c]]++#[]) w (MatRes w B g D (⟨(revF D.M.W D.M.H D.M.ink).W,(revF D.M.W D.M.H D.M.ink).H,(revF D.M.W D.M.H D.M.ink).ranks⟩:Pic)):=by
 show Calls Tryz.prog 75 #[.agg #[.int .i64 D.M.W, .int .i64 D.M.H, .slice D.M.a D.M.n D.M.c]] w _
 refine (impl_ReverseMatrix D.M.W D.M.H D.M.a D.M.n D.M.c D.M.ink w hin.own.m.len hin.own.m.rd (by have:=hin.small.m;omega)).mono ?_
 rintro e w1 ⟨a1,n1,k1,rfl,ho,hn1,hb⟩
 have hgl:=hin.box.lt
 exact ⟨⟨_,_,a1,n1,k1,_⟩,rfl,rfl,ho.mono hin.size,fun b hb2=>by
   have h1:=ho.bd b hb2
   exact ⟨by omega,fun hd=>by have:=(hin.own.bd b hd).2;omega⟩,hn1,hb⟩
set_option maxRecDepth 100000 in
set_option maxHeartbeats 800000 in
theorem mat_given (mb:Nat) (m:PV) (D:Dsk) (B g:Nat) (w:World) (hin:PerfIn w B g D) (hm:Blk w mb 31 #[.int .i64 m.W, .int .i64 m.H, .slice m.a m.n m.c]) (ho:OwnA w B m.a m.n m.c m.ink) (ha: ∀b,blockOf m.a=some b→b≠g∧ ¬D.blocks b) (hn:m.n≤1048576):
   Calls Tryz.prog 118 (#[.agg #[.int .i64 D.M.W, .int .i64 D.M.H, .slice D.M.a D.M.n D.M.c]]++#[.pointer (some ⟨mb,0,none⟩)]) w (MatRes w B g D m.pic):=by
 show Calls Tryz.prog 118 #[.agg #[.int .i64 D.M.W, .int .i64 D.M.H, .slice D.M.a D.M.n D.M.c], .pointer (some ⟨mb,0,none⟩)] w _
 have HB0:=Lib.hid (bAlloc (bAlloc (Below.refl w.heap.size w) (.cells #[.int .i64 D.M.W, .int .i64 D.M.H, .slice D.M.a D.M.n D.M.c] 31)) (.cells #[.int .i64 0, .int .i64 0, .slice none 0 0] 31))
 have KR0:=Lib.hid (Blk.new' (g:=w.heap.size+1) (w:=w.alloc (.cells #[.int .i64 D.M.W, .int .i64 D.M.H, .slice D.M.a D.M.n D.M.c] 31)) 31 #[.int .i64 0, .int .i64 0, .slice none 0 0] (by simp))
 have HM:=Lib.hid (hm.below' HB0.out)
 have HO:=Lib.hid (ho.below' HB0.out)
 have HA:=Lib.hid ha
 have HO1:=Lib.hid ho
 clear hm ho hin ha
 obtain ⟨l0,c0,c1,c2⟩:=HM.out.c3
 obtain ⟨m0,d0,d1,d2⟩:=KR0.out.c3
 obtain ⟨f0,f1,f2⟩:=KR0.out.f3
 go_enter Tryz.func118,Tryz.ntmps118
 go_wp2_with fail
 refine bodyPost_ret (v:= .agg #[.int .i64 m.W, .int .i64 m.H, .slice m.a m.n m.c]) (by simp [results,Tryz.results118,go_sem,d0,d1,d2]) rfl
   ⟨m,rfl,rfl,?_,HA.out,hn,?_⟩
 · exact (HO1.out.alloc _).alloc _
 · exact bAlloc (bAlloc (Below.refl _ _) _) _
set_option maxRecDepth 100000 in
set_option maxHeartbeats 1600000 in
theorem mat_shift (nb:Nat) (na:Option Addr) (nc:Nat) (x y:Int) (D:Dsk) (B g:Nat) (w:World) (hin:PerfIn w B g D) (hb:w.cell? ⟨nb,0,none⟩=some (.slice na 2 nc)) (hl:nb<w.heap.size) (hr:Rd w na [x,y]):
   Calls Tryz.prog 97 (#[.agg #[.int .i64 D.M.W, .int .i64 D.M.H, .slice D.M.a D.M.n D.M.c]]++#[.pointer (some ⟨nb,0,none⟩)]) w (MatRes w B g D (⟨(shiftF D.M.W D.M.H D.M.ink x y).W,(shiftF D.M.W D.M.H D.M.ink x y).H,(shiftF D.M.W D.M.H D.M.ink x y).ranks⟩:Pic)):=by
 show Calls Tryz.prog 97 #[.agg #[.int .i64 D.M.W, .int .i64 D.M.H, .slice D.M.a D.M.n D.M.c], .pointer (some ⟨nb,0,none⟩)] w _
 have HIN:=Lib.hid hin
 obtain ⟨w2,hw2⟩: ∃v,v=(w.alloc (.cells #[.int .i64 D.M.W, .int .i64 D.M.H, .slice D.M.a D.M.n D.M.c] 31)).alloc (.cells #[.int .i64 0, .int .i64 0, .slice none 0 0] 31):=⟨_,rfl⟩
 have HB0:Hid (Below w.heap.size w w2):=Lib.hid (by rw [hw2];exact bAlloc (bAlloc (Below.refl _ _) _) _)
 have KA:Hid (Blk w2 w.heap.size 31 #[.int .i64 D.M.W, .int .i64 D.M.H, .slice D.M.a D.M.n D.M.c]):=Lib.hid (by rw [hw2];exact (Blk.new w _ _).alloc _)
 have KR:Hid (Blk w2 (w.heap.size+1) 31 #[.int .i64 0, .int .i64 0, .slice none 0 0]):=Lib.hid (by rw [hw2];exact Blk.new' _ _ (by simp))
 have HZ:Hid (w2.heap.size=w.heap.size+2):=Lib.hid (by rw [hw2];simp)
 have e0:=(HB0.out.cell hl).trans hb
 obtain ⟨b,off,hae,hbl,hbc⟩:=(hr.below HB0.out).at (by simp)
 subst hae
 have q0:=hbc 0 (by simp)
 have q1:=hbc 1 (by simp)
 have g0: [x,y].getD 0 0=x:=rfl
 have g1: [x,y].getD 1 0=y:=rfl
 rw [g0,Nat.add_zero] at q0
 rw [g1] at q1
 have hl2:nb<w2.heap.size:=by have:=HB0.out.size;omega
 obtain ⟨l0,c0,c1,c2⟩:=KA.out.c3
 have MK:Hid (∀v,BelowL w2 v→v.cell? ⟨w.heap.size,0,none⟩=some (.int .i64 D.M.W)∧v.cell? ⟨w.heap.size,1,none⟩=some (.int .i64 D.M.H)∧v.cell? ⟨w.heap.size,2,none⟩=some (.slice D.M.a D.M.n D.M.c)∧v.cell? ⟨nb,0,none⟩=some (.slice (some ⟨b,off,none⟩) 2 nc)∧v.cell? ⟨b,off,none⟩=some (.int .i64 x)∧v.cell? ⟨b,off+1,none⟩=some (.int .i64 y)∧BelowL w2 v):=Lib.hid (fun v h=>⟨(h.out.cell l0).trans c0,(h.out.cell l0).trans c1,(h.out.cell l0).trans c2,(h.out.cell hl2).trans e0,(h.out.cell hbl).trans q0,(h.out.cell hbl).trans q1,h⟩)
 have CS:Hid (∀v,BelowL w2 v→Calls Tryz.prog 98 #[.agg #[.int .i64 D.M.W, .int .i64 D.M.H, .slice D.M.a D.M.n D.M.c], .int .i64 x, .int .i64 y] v (MatOut v (shiftF D.M.W D.M.H D.M.ink x y))):=Lib.hid (fun v hv=>impl_ShiftMatrix D.M.W D.M.H D.M.a D.M.n D.M.c D.M.ink x y v HIN.out.own.m.len ((HIN.out.own.m.rd.below HB0.out).below hv.out) (by have:=HIN.out.small.m;omega))
 clear hin hb hr e0 hbc q0 q1 g0 g1 l0 c0 c1 c2
 go_enter Tryz.func97,Tryz.ntmps97
 go_upto_region 1 with fail
 rw [←hw2]
 clear hw2
 refine wp_region_T 8 (fun v=>v.cell? ⟨w.heap.size,0,none⟩=some (.int .i64 D.M.W)∧v.cell? ⟨w.heap.size,1,none⟩=some (.int .i64 D.M.H)∧v.cell? ⟨w.heap.size,2,none⟩=some (.slice D.M.a D.M.n D.M.c)∧v.cell? ⟨nb,0,none⟩=some (.slice (some ⟨b,off,none⟩) 2 nc)∧v.cell? ⟨b,off,none⟩=some (.int .i64 x)∧v.cell? ⟨b,off+1,none⟩=some (.int .i64 y)∧BelowL w2 v) (by kernel_rfl) (MK.out _ (BelowL.start _)) ?_
 intro hHeld
 have hb0:=limb7 hHeld
 refine tTake 0 ?_
 refine tTake 1 ?_
 refine tTake 2 ?_
 refine tTake 3 ?_
 refine tTake 4 ?_
 refine tTake 5 ?_
 refine tTake 6 ?_
 refine tOne 7 (fun K hK=>?_)
 go_simp
 go_at_call 98
 ((with_reducible refine (CS.out _ hb0).mono ?_);rintro e v1 ⟨a1,n1,k1,rfl,ho,hn1,hq1⟩)
 have hb1:=BelowL.call hb0 hq1
 go_wp2_with fail
 refine hK.out _ _ (fun _=>by (try dsimp only);exact MK.out _ hb1) (fun hH2=>?_)
 clear hK K hHeld hH2
 have KR1:=KR.out.below' hb1.out
 have HB1:=Lib.hid (bTrans HB0.out hb1.out)
 obtain ⟨l0,c0,c1,c2⟩:=KR1.c3
 obtain ⟨f0,f1,f2⟩:=KR1.f3
 refine tOne 8 (fun K hK=>?_)
 go_simp
 refine hK.out _ _ (fun h=>absurd h (by decide)) (fun hH2=>?_)
 clear hK K hH2
 refine wpAnyT_done (by kernel_rfl) ?_ _
 (try go_simp)
 go_wp2_with fail
 obtain ⟨R,hR⟩: ∃R,shiftF D.M.W D.M.H D.M.ink x y=R:=⟨_,rfl⟩
 rw [hR] at ho⊢
 have hz:=HZ.out
 have hsz:=HIN.out.size
 have hgl:=HIN.out.box.lt
 have hob:=ho.bd
 refine bodyPost_ret (v:= .agg #[.int .i64 R.W, .int .i64 R.H, .slice a1 n1 k1]) (by simp [results,Tryz.results97,go_sem,c0,c1,c2]) rfl
   ⟨⟨R.W,R.H,a1,n1,k1,R.ranks⟩,rfl,rfl,OwnA.mono (((ho.other (by simp;omega) _).other (by simp;omega) _).other (by simp;omega) _) (by simp;omega),fun b hb2=>?_,hn1,((HB1.out.setCell (by simp) _).setCell (by simp) _).setCell (by simp) _⟩
 have h1:=hob b hb2
 simp at h1
 exact ⟨by omega,fun hd=>by have:=(HIN.out.own.bd b hd).2;omega⟩
def numW (s:List UInt8):Option Int:=match Lib.atoiAll s with | .ok v=>if Lib.itoa v=s then some v else none | _=>none
def numsW:List (List UInt8)→Option (List Int)
 | []=>some []
 | w ::r=>match numW w with
   | none=>none
   | some v=>match numsW r with
     | none=>none
     | some l=>some (v::l)
theorem numsW_no: ∀(ws:List (List UInt8)) (k:Nat),k<ws.length→numW (ws.getD k [])=none→numsW ws=none
 | [],k,h,_=>by simp at h
 | w::r,0,_,hn=>by
   have h2:numW w=none:=by simpa using hn
   unfold numsW
   rw [h2]
 | w::r,k+1,h,hn=>by
   have ih:=numsW_no r k (by simpa using h) (by simpa using hn)
   unfold numsW
   cases numW w with
   | none=>rfl
   | some v=>rw [ih]
theorem numsW_yes: ∀(ws:List (List UInt8)) (xs:List Int),xs.length=ws.length→(∀k,k<ws.length→numW (ws.getD k [])=some (xs.getD k 0))→numsW ws=some xs
 | [],xs,hl,_=>by
   have:xs=[]:=List.eq_nil_of_length_eq_zero (by simpa using hl)
   rw [this]
   rfl
 | w::r,[],hl,_=>by simp at hl
 | w::r,x::xs,hl,h=>by
   have h0:=h 0 (by simp)
   have ih:=numsW_yes r xs (by simpa using hl) (fun k hk=>by have:=h (k+1) (by simpa using hk);simpa using this)
   have h1:numW w=some x:=by simpa using h0
   unfold numsW
   rw [h1,ih]
theorem atoi_bd {l:List UInt8} {v:Int} (h:Lib.atoiAll l= .ok v):InI64 v:=by
 unfold Lib.atoiAll at h
 split at h
 · cases h
 · dsimp only at h
   split at h
   · cases h
   · cases h
   · rename_i u hu
     have:=Lib.parseMag_lt hu
     split at h
     · cases h
     · split at h
       · cases h
       · injection h with h
         unfold InI64
         split at h <;>omega
def AtoiOut (s:ByteArray) (w:World) (e:Ending) (w':World):Prop:=
 Below w.heap.size w w'∧((∃v,Lib.atoiAll s.data.toList= .ok v∧e= .returned (.tuple #[.int .i64 v, .nilIface]))∨(∃u p,(∀v,Lib.atoiAll s.data.toList≠ .ok v)∧e= .returned (.tuple #[.int .i64 u, .iface 175 p])))
theorem atoi_call (s:ByteArray) (w:World) (hs:s.size≤1048576) (hL:LaidW w):Calls Tryz.prog 91 #[.string s] w (AtoiOut s w):=by
 obtain ⟨t1,p1,h1⟩:=hL.es
 obtain ⟨t2,p2,h2⟩:=hL.er
 rcases ha:Lib.atoiAll s.data.toList with v | _ | _
 · refine (Tryz.strconv_Atoi_ok s (by omega) v ha w).mono fun e w' ⟨he,hw⟩=>⟨?_, .inl ⟨v,ha,he⟩⟩
   rcases hw with rfl | ⟨t,rfl⟩
   · exact Below.refl _ _
   · exact Joins.below_bytesWorld _ _ _ _ (Nat.le_refl _)
 · exact (Tryz.strconv_Atoi_syntax s (by omega) ⟨fun v hv=>(by rw [ha] at hv;cases hv),fun hv=>(by rw [ha] at hv;cases hv)⟩ _ w h1 (.inr ⟨_,_,rfl⟩)).mono fun e w' ⟨N,he,_,_,hb⟩=>⟨hb, .inr ⟨_,_,(fun v hv=>by rw [ha] at hv;cases hv),he⟩⟩
 · exact (Tryz.strconv_Atoi_range s (by omega) ha _ w h2 (.inr ⟨_,_,rfl⟩)).mono fun e w' ⟨N,he,_,_,hb⟩=>⟨hb, .inr ⟨_,_,(fun v hv=>by rw [ha] at hv;cases hv),he⟩⟩
def RdS (w:World) (ad:Option Addr) (ws:List ByteArray):Prop:= ∀k (h:k<ws.length),∃b off,ad=some ⟨b,off,none⟩∧b<w.heap.size∧w.cell? ⟨b,off+k,none⟩=some (.string (ws[k]'h))
theorem RdS.below {w w':World} {ad:Option Addr} {ws:List ByteArray} (h:RdS w ad ws) (hb:Below w.heap.size w w'):RdS w' ad ws:=fun k hk=>by
 obtain ⟨b,off,h1,h2,h3⟩:=h k hk
 exact ⟨b,off,h1,Nat.lt_of_lt_of_le h2 hb.size,(hb.cell h2).trans h3⟩
def wordsL (ws:List ByteArray):List (List UInt8):=ws.map (fun s=>s.data.toList)
def NumsOut (w:World) (r:Option (List Int)) (e:Ending) (w':World):Prop:=
 Below w.heap.size w w'∧((r=none∧ ∃v,e= .returned (.tuple #[v, .bool false]))∨ ∃xs a n c,r=some xs∧e= .returned (.tuple #[.slice a n c, .bool true])∧OwnA w' w.heap.size a n c xs∧ ∀x,x ∈ xs→InI64 x)
set_option maxRecDepth 100000 in
set_option maxHeartbeats 1600000 in
theorem impl_numbersOf (ad:Option Addr) (n cap:Nat) (ws:List ByteArray) (w:World) (hn:ws.length=n) (ha:RdS w ad ws) (hl:n≤1048576) (hs: ∀s,s ∈ ws→s.size≤1048576) (hL:LaidW w):
   Calls Tryz.prog 66 #[.slice ad n cap] w (NumsOut w (numsW (wordsL ws))):=by
 have HN:=Lib.hid hn
 have HA:=Lib.hid ha
 have HS:=Lib.hid hs
 have HL:=Lib.hid hL
 clear hn ha hs hL
 go_enter Tryz.func66,Tryz.ntmps66
 go_wp2_with fail
 go_loopw [4,11] (fun r i wr=> ∃(k:Nat) (a:Option Addr) (c:Nat) (xs:List Int),k≤n∧i= .int .i64 k∧r= .slice a k c∧OwnA wr w.heap.size a k c xs∧(∀j,j<k→numW ((wordsL ws).getD j [])=some (xs.getD j 0))∧(∀x,x ∈ xs→InI64 x)∧Below w.heap.size w wr) (fun _ i _=>n - (intOf i).toNat)
 case atStart=>exact ⟨0,none,0,[],Nat.zero_le _,rfl,rfl,OwnA.none _ _,fun j hj=>by omega,fun x hx=>by simp at hx,Below.refl _ _⟩
 case round=>
   obtain ⟨k,a,c,xs,hk,rfl,rfl,ho,hv,hx,hb⟩:=hrel
   have HO:=Lib.hid ho
   have HV:=Lib.hid hv
   have HX:=Lib.hid hx
   have HB:=Lib.hid hb
   clear ho hv hx hb
   by_cases hlt:k<n
   · obtain ⟨b,off,hae,hbl,hc⟩:=(HA.out.below HB.out) k (by rw [HN.out];exact hlt)
     subst hae
     obtain ⟨s,hsk⟩: ∃s,ws[k]'(by rw [HN.out];exact hlt)=s:=⟨_,rfl⟩
     rw [hsk] at hc
     have hsz:=HS.out s (by rw [←hsk];exact List.getElem_mem _)
     have hwk:(wordsL ws).getD k []=s.data.toList:=by
       unfold wordsL
       simp [List.getD,List.getElem?_eq_getElem (show k<ws.length by rw [HN.out];exact hlt),hsk]
     have HW:=Lib.hid hwk
     have HLw:=Lib.hid (HL.out.below HB.out)
     clear hsk hwk
     have k0:(0:Int)≤(k:Int):=by omega
     have k1:(k:Int)<(n:Int):=by omega
     go_wp2_with fail
     refine (atoi_call s _ hsz (by exact HLw.out)).mono ?_
     rintro e w1 ⟨hb1,⟨v,hv,rfl⟩ | ⟨u,p,hno,rfl⟩⟩
     · have HB1:=Lib.hid (bTrans HB.out hb1)
       have HO1:=Lib.hid (HO.out.below' hb1)
       have HL1:=Lib.hid (HLw.out.below hb1)
       have hiv:=atoi_bd hv
       have HVV:=Lib.hid hv
       clear hb1 hc hv
       go_wp2_with fail
       refine (itoa_call v _ hiv.1 hiv.2 (by exact HL1.out)).mono ?_
       rintro e w2 ⟨rfl,hb2⟩
       have HB2:=Lib.hid (bTrans HB1.out hb2)
       have HO2:=Lib.hid (HO1.out.below' hb2)
       clear hb2
       by_cases hq:Lib.itoa v=s.data.toList
       · have hes:(⟨(Lib.itoa v).toArray⟩:ByteArray)=s:=by rw [hq]
         have HNV:Hid (numW s.data.toList=some v):=Lib.hid (by unfold numW;rw [HVV.out];simp only [hq,if_true])
         rw [hes]
         clear hes hq
         go_wp2_with (at_builtin;refine wp_append _ rfl (.tmp 28) (.tmp 30) rfl w.heap.size k c a xs rfl (HO2.out.alloc _) w2.heap.size v rfl (by go_simp) (by omega) (by have:=HB2.out.size;simp;omega) ?_;intro ad2 cap2 w5 ho5 hg5)
         have HW5:=Lib.hid ((HB2.out.alloc HB2.out.size _).grown hg5 (by have:=HB2.out.size;simp;omega) (fun b hb=>(HO2.out.bd b hb).1))
         have HO5:=Lib.hid ho5
         have HXL:=Lib.hid HO2.out.len
         clear ho5 hg5
         go_roundw
         case rel=>exact ⟨k+1,ad2,cap2,xs++ [v],by omega,by go_num,rfl,HO5.out,fun j hj=>by
           by_cases e:j<k
           · rw [HV.out j e]
             congr 1
             simp [List.getD,List.getElem?_append,show j<xs.length by rw [HXL.out];exact e]
           · obtain rfl:j=k:=by omega
             rw [HW.out,HNV.out]
             congr 1
             simp [List.getD,List.getElem?_append,HXL.out],fun x hx=>by
           rcases List.mem_append.1 hx with hx | hx
           · exact HX.out x hx
           · simp at hx;rw [hx];exact hiv,HW5.out⟩
         case measure=>simp [intOf];omega
       · have HNV:Hid (numW s.data.toList=none):=Lib.hid (by unfold numW;rw [HVV.out];simp only [hq,if_false])
         obtain ⟨s2,hs2⟩: ∃s2:ByteArray,(⟨(Lib.itoa v).toArray⟩:ByteArray)=s2:=⟨_,rfl⟩
         have hne: ¬s2=s:=by
           intro e
           apply hq
           rw [←e,←hs2]
         rw [hs2]
         have q1:(s2.toList==s.toList)=false:=by
           rw [beq_eq_false_iff_ne]
           intro e
           rw [ByteArray.toList_eq,ByteArray.toList_eq] at e
           exact hne (ByteArray.ext (Array.toList_inj.1 e))
         have q2:(!s2.toList==s.toList)=true:=by rw [q1];rfl
         clear hq hs2
         go_wp2_with fail
         go_ret2
         exact ⟨HB2.out, .inl ⟨numsW_no _ k (by unfold wordsL;rw [List.length_map,HN.out];exact hlt) (by rw [HW.out];exact HNV.out),_,rfl⟩⟩
     · have HB1:=Lib.hid (bTrans HB.out hb1)
       have HNV:Hid (numW s.data.toList=none):=Lib.hid (by
         unfold numW
         rcases ha:Lib.atoiAll s.data.toList with v | _ | _
         · exact absurd ha (hno v)
         · rfl
         · rfl)
       clear hb1 hno hc
       go_wp2_with fail
       go_ret2
       exact ⟨HB1.out, .inl ⟨numsW_no _ k (by unfold wordsL;rw [List.length_map,HN.out];exact hlt) (by rw [HW.out];exact HNV.out),_,rfl⟩⟩
   · obtain rfl:k=n:=by omega
     go_wp2_with fail
     go_ret2
     exact ⟨HB.out, .inr ⟨xs,a,k,c,numsW_yes _ _ (by unfold wordsL;rw [List.length_map,HN.out,HO.out.len]) (fun j hj=>HV.out j (by unfold wordsL at hj;rw [List.length_map,HN.out] at hj;exact hj)),rfl,HO.out,HX.out⟩⟩
end Go.Proofs.YtanccoopbgamdaaGreatDoor
