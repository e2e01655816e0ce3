/-
  Contracts and plain facts on which the theorem of this claim rests, text 6.
-/
import Derived.Maps.AppendAt
import Derived.Test.YtmikajnpgcabfaaGreatDoorSC2
import Derived.Test.YtmikajnpgcabfaaGreatDoorSC3
import Derived.Test.YtmikajnpgcabfaaGreatDoorSC4
import Derived.Test.YtmikajnpgcabfaaGreatDoorSC5
namespace Go.Proofs.YtmikajnpgcabfaaGreatDoor
open Go.RowKit
set_option linter.unusedVariables false
set_option linter.unusedSimpArgs false
theorem Blk.c7 {w:World} {g T:Nat} {a b c d e f h:Value} (k:Blk w g T #[a,b,c,d,e,f,h]):g<w.heap.size∧w.cell? ⟨g,0,none⟩=some a∧w.cell? ⟨g,1,none⟩=some b∧w.cell? ⟨g,2,none⟩=some c∧w.cell? ⟨g,3,none⟩=some d∧w.cell? ⟨g,4,none⟩=some e∧w.cell? ⟨g,5,none⟩=some f∧w.cell? ⟨g,6,none⟩=some h:=
 ⟨k.lt,by rw [k.cell];rfl,by rw [k.cell];rfl,by rw [k.cell];rfl,by rw [k.cell];rfl,by rw [k.cell];rfl,by rw [k.cell];rfl,by rw [k.cell];rfl⟩
theorem Blk.f7 {w:World} {g T:Nat} {cs:Array Value} (h:Blk w g T cs):w.frozen? ⟨g,0,none⟩=false∧w.frozen? ⟨g,1,none⟩=false∧w.frozen? ⟨g,2,none⟩=false∧w.frozen? ⟨g,3,none⟩=false∧w.frozen? ⟨g,4,none⟩=false∧w.frozen? ⟨g,5,none⟩=false∧w.frozen? ⟨g,6,none⟩=false:=
 ⟨h.frozen 0,h.frozen 1,h.frozen 2,h.frozen 3,h.frozen 4,h.frozen 5,h.frozen 6⟩
section
variable {w : World} {g T : Nat} {a b c d e f h : Value}
theorem Blk.putP (k:Blk w g T #[a,b,c,d,e,f,h]) (x y z:Value):Blk (((w.setCell ⟨g,0,none⟩ x).setCell ⟨g,1,none⟩ y).setCell ⟨g,2,none⟩ z) g T #[x,y,z,d,e,f,h]:=by
 have:=((k.set 0 x).set 1 y).set 2 z
 simpa using this
theorem Blk.putM (k:Blk w g T #[a,b,c,d,e,f,h]) (x y z:Value):Blk (((w.setCell ⟨g,3,none⟩ x).setCell ⟨g,4,none⟩ y).setCell ⟨g,5,none⟩ z) g T #[a,b,c,x,y,z,h]:=by
 have:=((k.set 3 x).set 4 y).set 5 z
 simpa using this
theorem Blk.putR (k:Blk w g T #[a,b,c,d,e,f,h]) (z:Value):Blk (w.setCell ⟨g,5,none⟩ z) g T #[a,b,c,d,e,z,h]:=by
 have:=k.set 5 z
 simpa using this
theorem Blk.putS (k:Blk w g T #[a,b,c,d,e,f,h]) (z:Value):Blk (w.setCell ⟨g,6,none⟩ z) g T #[a,b,c,d,e,f,z]:=by
 have:=k.set 6 z
 simpa using this
theorem Blk.put7 (k:Blk w g T #[a,b,c,d,e,f,h]) (a' b' c' d' e' f' h':Value):Blk (((((((w.setCell ⟨g,0,none⟩ a').setCell ⟨g,1,none⟩ b').setCell ⟨g,2,none⟩ c').setCell ⟨g,3,none⟩ d').setCell ⟨g,4,none⟩ e').setCell ⟨g,5,none⟩ f').setCell ⟨g,6,none⟩ h') g T #[a',b',c',d',e',f',h']:=by
 have:=((((((k.set 0 a').set 1 b').set 2 c').set 3 d').set 4 e').set 5 f').set 6 h'
 simpa using this
end
structure Dsk where
 P:PV
 M:PV
 a:Option Addr
 n:Nat
 c:Nat
 ps:List PV
def Dsk.val (D:Dsk):Value:= .agg #[.int .i64 D.P.W, .int .i64 D.P.H, .slice D.P.a D.P.n D.P.c, .int .i64 D.M.W, .int .i64 D.M.H, .slice D.M.a D.M.n D.M.c, .slice D.a D.n D.c]
def Dsk.cells (D:Dsk):Array Value:=#[.int .i64 D.P.W, .int .i64 D.P.H, .slice D.P.a D.P.n D.P.c, .int .i64 D.M.W, .int .i64 D.M.H, .slice D.M.a D.M.n D.M.c, .slice D.a D.n D.c]
def Dsk.dat (D:Dsk):Pic × Pic × List Pic:=(D.P.pic,D.M.pic,picsV D.ps)
structure RdD (w:World) (D:Dsk):Prop where
 pl:D.P.ink.length=D.P.n
 pr:Rd w D.P.a D.P.ink
 ml:D.M.ink.length=D.M.n
 mr:Rd w D.M.a D.M.ink
 sl:D.ps.length=D.n
 sr:RdV w D.a D.ps
theorem RdD.below {w w':World} {D:Dsk} (h:RdD w D) (hb:Below w.heap.size w w'):RdD w' D:=
 ⟨h.pl,h.pr.below hb,h.ml,h.mr.below hb,h.sl,h.sr.below hb⟩
theorem RdD.alloc {w:World} {D:Dsk} (h:RdD w D) (o:Obj):RdD (w.alloc o) D:=h.below (Joins.below_alloc1 w o)
structure SmallD (D:Dsk):Prop where
 p:D.P.n≤1048576
 m:D.M.n≤1048576
 n:D.n≤1048576
 s: ∀k,k<D.ps.length→(pv D.ps k).n≤1048576
theorem ownA_other7 {w:World} {B n cap g:Nat} {ad:Option Addr} {xs:List Int} (h:OwnA w B ad n cap xs) (hg:g<B) (a' b' c' d' e' f' h':Value):
   OwnA (((((((w.setCell ⟨g,0,none⟩ a').setCell ⟨g,1,none⟩ b').setCell ⟨g,2,none⟩ c').setCell ⟨g,3,none⟩ d').setCell ⟨g,4,none⟩ e').setCell ⟨g,5,none⟩ f').setCell ⟨g,6,none⟩ h') B ad n cap xs:=by
 have q: ∀ {u:World} (k:OwnA u B ad n cap xs) (i:Nat) (v:Value),OwnA (u.setCell ⟨g,i,none⟩ v) B ad n cap xs:=fun k i v=>k.otherT (fun e=>by have:=k.bd _ e;simp at this;omega) v
 exact q (q (q (q (q (q (q h 0 a') 1 b') 2 c') 3 d') 4 e') 5 f') 6 h'
theorem below_set7 {B g:Nat} {w w':World} (h:Below B w w') (hg:B≤g) (a' b' c' d' e' f' h':Value):
   Below B w (((((((w'.setCell ⟨g,0,none⟩ a').setCell ⟨g,1,none⟩ b').setCell ⟨g,2,none⟩ c').setCell ⟨g,3,none⟩ d').setCell ⟨g,4,none⟩ e').setCell ⟨g,5,none⟩ f').setCell ⟨g,6,none⟩ h'):=
 ((((((h.setCell hg _).setCell hg _).setCell hg _).setCell hg _).setCell hg _).setCell hg _).setCell hg _
structure OwnD (w:World) (B:Nat) (D:Dsk):Prop where
 p:OwnA w B D.P.a D.P.n D.P.c D.P.ink
 m:OwnA w B D.M.a D.M.n D.M.c D.M.ink
 s:OwnV w B D.a D.n D.c D.ps
 pm: ∀b,blockOf D.P.a=some b→blockOf D.M.a≠some b
 ps: ∀b,OwnV.blocks D.a D.ps b→blockOf D.P.a≠some b
 ms: ∀b,OwnV.blocks D.a D.ps b→blockOf D.M.a≠some b
theorem OwnD.rd {w:World} {B:Nat} {D:Dsk} (h:OwnD w B D):RdD w D:=
 ⟨h.p.len,h.p.rd,h.m.len,h.m.rd,h.s.len,h.s.rd⟩
theorem OwnD.below {w w':World} {B:Nat} {D:Dsk} (h:OwnD w B D) (hb:Below w.heap.size w w'):OwnD w' B D:=
 ⟨h.p.below' hb,h.m.below' hb,h.s.below hb,h.pm,h.ps,h.ms⟩
theorem OwnD.mono {w:World} {B B':Nat} {D:Dsk} (h:OwnD w B D) (hB:B'≤B):OwnD w B' D:=
 ⟨h.p.mono hB,h.m.mono hB,h.s.mono hB,h.pm,h.ps,h.ms⟩
theorem OwnD.alloc {w:World} {B:Nat} {D:Dsk} (h:OwnD w B D) (o:Obj):OwnD (w.alloc o) B D:=h.below (Joins.below_alloc1 w o)
theorem OwnV.other {w:World} {B n cap:Nat} {ad:Option Addr} {L:List PV} (h:OwnV w B ad n cap L) {a:Addr} (ha:a.block<B) (u:Value):OwnV (w.setCell a u) B ad n cap L:=by
 have hk:KeepT (fun i=>i=a.block) w (w.setCell a u):=KeepT.set (S:=fun i=>i=a.block) (KeepT.refl _ w) rfl u
 exact hk.ownV h (fun i hb e=>by have:=h.bd i hb;omega)
theorem OwnD.other {w:World} {B:Nat} {D:Dsk} (h:OwnD w B D) {a:Addr} (ha:a.block<B) (u:Value):OwnD (w.setCell a u) B D:=
 ⟨h.p.otherT (fun e=>by have:=h.p.bd _ e;omega) u,h.m.otherT (fun e=>by have:=h.m.bd _ e;omega) u,h.s.other ha u,h.pm,h.ps,h.ms⟩
def Dsk.blocks (D:Dsk) (b:Nat):Prop:=blockOf D.P.a=some b∨blockOf D.M.a=some b∨OwnV.blocks D.a D.ps b
theorem OwnD.bd {w:World} {B:Nat} {D:Dsk} (h:OwnD w B D): ∀b,D.blocks b→B≤b∧b<w.heap.size:=by
 intro b hb
 rcases hb with hb | hb | hb
 · exact h.p.bd b hb
 · exact h.m.bd b hb
 · exact h.s.bd b hb
def deskOk (d:Pic × Pic × List Pic):Bool:=
 picOk d.1.W d.1.H d.1.ink 255 && matOk d.2.1.W d.2.1.H d.2.1.ink && (decide (d.2.2.length=0) || (stackOk d.2.2 && decide ((d.2.2.getD 0 noPic).W=d.1.W∧(d.2.2.getD 0 noPic).H=d.1.H)))
theorem deskOk_p {d:Pic × Pic × List Pic} (h: ¬picOk d.1.W d.1.H d.1.ink 255=true):deskOk d=false:=by
 unfold deskOk
 simp [h]
theorem deskOk_m {d:Pic × Pic × List Pic} (h: ¬matOk d.2.1.W d.2.1.H d.2.1.ink=true):deskOk d=false:=by
 unfold deskOk
 simp [h]
theorem deskOk_0 {d:Pic × Pic × List Pic} (h1:picOk d.1.W d.1.H d.1.ink 255=true) (h2:matOk d.2.1.W d.2.1.H d.2.1.ink=true) (h3:d.2.2.length=0):deskOk d=true:=by
 unfold deskOk
 simp [h1,h2,h3]
theorem deskOk_s {d:Pic × Pic × List Pic} (h1:picOk d.1.W d.1.H d.1.ink 255=true) (h2:matOk d.2.1.W d.2.1.H d.2.1.ink=true) (h3: ¬d.2.2.length=0):
   deskOk d=(stackOk d.2.2 && decide ((d.2.2.getD 0 noPic).W=d.1.W∧(d.2.2.getD 0 noPic).H=d.1.H)):=by
 unfold deskOk
 simp [h1,h2,h3]
attribute [local go_sem ↓] Go.wp_at_zero Go.wp_at_succ
def qraw (a b:Int):Int:=wrap64 (wrap64 (2*bits BinOp.xor IntKind.i64 a b)+b)
theorem impl_qraw (a b:Int) (w:World):
   Calls Tryz.prog 78 #[.int .i64 a, .int .i64 b] w fun e w'=>e= .returned (.int .i64 (qraw a b))∧w=w':=by
 go_enter Tryz.func78,Tryz.ntmps78
 go_wp2
 go_ret
 exact ⟨rfl,rfl⟩
theorem qraw_quarter {a b:Int} (h1:0≤a) (h2:a≤1) (h3:0≤b) (h4:b≤1):qraw a b=quarter a b:=by
 by_cases ha:a=0
 · subst ha
   by_cases hb:b=0
   · subst hb;decide+kernel
   · obtain rfl:b=1:=by omega
     decide+kernel
 · obtain rfl:a=1:=by omega
   by_cases hb:b=0
   · subst hb;decide+kernel
   · obtain rfl:b=1:=by omega
     decide+kernel
theorem half_bd {x W:Int} (hW:1≤W) (h0:0≤x) (h1:x<2*W):0≤x/W∧x/W≤1:=by
 constructor
 · exact Int.ediv_nonneg h0 (by omega)
 · have:x/W<2:=Int.ediv_lt_of_lt_mul (by omega) (by omega)
   omega
theorem dbl_xy {W H:Int} {n k:Nat} (hn:(n:Int)=W*H) (hW:1≤W) (hH:1≤H) (hk:k<4*n):
   0≤(k:Int) % (2*W)∧(k:Int) % (2*W)<2*W∧0≤(k:Int)/(2*W)∧(k:Int)/(2*W)<2*H∧(k:Int)/(2*W)≤k:=by
 refine ⟨Int.emod_nonneg _ (by omega),Int.emod_lt_of_pos _ (by omega),Int.ediv_nonneg (by omega) (by omega),?_,Int.ediv_le_self _ (by omega)⟩
 refine Int.ediv_lt_of_lt_mul (by omega) ?_
 have e:2*H*(2*W)=4*(W*H):=by
   rw [Int.mul_assoc,Int.mul_left_comm H 2 W,←Int.mul_assoc,Int.mul_comm H W];rfl
 rw [e,←hn]
 omega
theorem dbl_size {W H:Int} {n:Nat} (hn:(n:Int)=W*H) (hW:1≤W) (hH:1≤H) (hm:4*n≤256):matSize (2*W) (2*H)=true∧((4*n:Nat):Int)=2*W*(2*H)∧W≤64∧H≤64:=by
 have e:2*W*(2*H)=4*(W*H):=by
   rw [Int.mul_assoc,Int.mul_left_comm W 2 H,←Int.mul_assoc];rfl
 have e1:W*1≤W*H:=Int.mul_le_mul_of_nonneg_left hH (by omega)
 have e2:1*H≤W*H:=Int.mul_le_mul_of_nonneg_right hW (by omega)
 refine ⟨matSize_mk (by omega) (by omega) (by rw [e];omega),by rw [e];omega,by omega,by omega⟩
set_option maxHeartbeats 1600000 in
theorem impl_doubled (W H:Int) (ad:Option Addr) (n cap:Nat) (xs:List Int) (w:World) (hn:xs.length=n) (ha:Rd w ad xs) (hq:(n:Int)=W*H) (b1:1≤W) (b3:1≤H) (hm4:4*n≤256) (hi:inR xs n=true):
   Calls Tryz.prog 32 #[.agg #[.int .i64 W, .int .i64 H, .slice ad n cap]] w (MatOut w (dblM ⟨W,H,xs⟩)):=by
 have HN:=Lib.hid hn
 have HA:=Lib.hid ha
 clear hn ha
 have HQ:=Lib.hid hq
 have HI:=Lib.hid hi
 obtain ⟨hs2,hq2,b2,b4⟩:=dbl_size hq b1 b3 hm4
 have HS2:=Lib.hid hs2
 obtain ⟨m,hm⟩: ∃m:Nat,m=4*n:=⟨_,rfl⟩
 have HQ2:Hid ((m:Int)=2*W*(2*H)):=Lib.hid (by rw [hm];exact hq2)
 have hm1:m≤256:=by omega
 have HM:Hid (m=4*n):=Lib.hid hm
 have e0:dblM ⟨W,H,xs⟩=⟨2*W,2*H,gen m (dblG W H xs)⟩:=by unfold dblM;simp only [HN.out];rw [HM.out]
 rw [e0]
 have hn2:n≤64:=by omega
 clear e0 hq hi hs2 hq2 hm
 go_enter Tryz.func32,Tryz.ntmps32
 go_wp2_with fail
 refine (impl_blankM (2*W) (2*H) m _ HS2.out HQ2.out).mono ?_
 rintro e w2 ⟨g,rfl,hg,ho,hb⟩
 have HB2:=Lib.hid ((Joins.below_alloc2 _ _ _).trans (hb.mono (by simp;omega)))
 have KP2:=Lib.hid (((Blk.new w 31 #[.int .i64 W, .int .i64 H, .slice ad n cap]).alloc _).below' hb)
 have KR2:Hid (Blk w2 (w.heap.size+1) 31 #[.int .i64 0, .int .i64 0, .slice none 0 0]):=by
   have h:=(Blk.new (w.alloc (.cells #[.int .i64 W, .int .i64 H, .slice ad n cap] 31)) 31 #[.int .i64 0, .int .i64 0, .slice none 0 0]).below' hb
   exact Lib.hid (by simpa using h)
 have HO:=Lib.hid ho
 have HG:Hid (w.heap.size+1+1≤g):=Lib.hid (by simpa using hg)
 clear hb ho hg
 go_wp2_with fail
 go_loopw [17] (fun i wr=> ∃k:Nat,k≤m∧i= .int .i64 k∧Own wr g m m (filled (gen m (dblG W H xs)) (List.replicate m 0) k)∧(w2.alloc (.cells #[.int .i64 (2*W), .int .i64 (2*H), .slice (some ⟨g,0,none⟩) m m] 31)).grownBy wr (some g)) (fun i _=>m - (intOf i).toNat)
 case atStart=>exact ⟨0,Nat.zero_le _,rfl,by rw [filled_zero];exact HO.out.alloc _,grown_refl _ _⟩
 case round=>
   obtain ⟨k,hk,rfl,ho,hg⟩:=hrel
   have HBr:=Lib.hid ((HB2.out.alloc HB2.out.size _).grown hg (by have:=HB2.out.size;simp;omega) (by intro k hk;cases hk;have:=HG.out;omega))
   have KO:=Lib.hid ((Blk.new w2 31 #[.int .i64 (2*W), .int .i64 (2*H), .slice (some ⟨g,0,none⟩) m m]).grown hg (by have:=HO.out.lt;simp;omega))
   obtain ⟨l0,o0,o1,o2⟩:=KO.out.c3
   have KP:=Lib.hid ((KP2.out.alloc _).grown hg (by have:=HG.out;have:=KP2.out.lt;simp;omega))
   obtain ⟨l9,p0,p1,p2⟩:=KP.out.c3
   by_cases hlt:k<m
   · obtain ⟨x0,x1,y0,y1,y2⟩:=dbl_xy HQ.out b1 b3 (by have:=HM.out;omega:k<4*n)
     obtain ⟨a0,a1⟩:=half_bd b1 x0 x1
     obtain ⟨c0,c1⟩:=half_bd b3 y0 y1
     obtain ⟨r0,r1⟩:=rankOf_bd HN.out HQ.out b1 b3 HI.out ((k:Int) % (2*W)) ((k:Int)/(2*W))
     obtain ⟨q0,q1⟩:=quarter_bd ((k:Int) % (2*W)/W) ((k:Int)/(2*W)/H)
     have g2:wr.cell? ⟨g,k,none⟩=some (.int .i64 ((filled (gen m (dblG W H xs)) (List.replicate m 0) k).getD k 0)):=ho.cell hlt
     have g3:wr.frozen? ⟨g,k,none⟩=false:=ho.frozen k
     have gl:=ho.lt
     have HO4:=Lib.hid ho
     clear ho
     have N1:g≠w.heap.size:=by have:=HG.out;omega
     have N2:g≠w2.heap.size:=by have:=HO.out.lt;omega
     have hW1: ¬2*W=0:=by omega
     have hW2: ¬W=0:=by omega
     have hH2: ¬H=0:=by omega
     have hW0:(W==0)=false:=by simp;omega
     have hH0:(H==0)=false:=by simp;omega
     go_wp2_with fail
     go_quiet (fail)
     go_wp2_with fail
     go_region_held3 (fun v=>v.cell? ⟨w.heap.size,0,none⟩=some (.int .i64 W)∧v.cell? ⟨w.heap.size,1,none⟩=some (.int .i64 H)∧v.cell? ⟨w.heap.size,2,none⟩=some (.slice ad n cap)∧v.cell? ⟨w2.heap.size,2,none⟩=some (.slice (some ⟨g,0,none⟩) m m))
       (first | exact ⟨p0,p1,p2,o2⟩ | exact ⟨(hq1.cell l9).trans p0,(hq1.cell l9).trans p1,(hq1.cell l9).trans p2,(hq1.cell l0).trans o2⟩ | exact ⟨cell_far z0 N1,cell_far z1 N1,cell_far z2 N1,cell_far z3 N2⟩)
       (first
         | (go_at_call 77;((with_reducible refine (impl_wrappedRank W H ad n cap xs _ _ _ HN.out (by exact (HA.out.below HBr.out).of_heap rfl) HQ.out b1 b3 (by omega) (by omega) (by omega)).mono ?_);rintro e v1 ⟨rfl,hq1⟩;have z0:=(hq1.cell l9).trans p0;have z1:=(hq1.cell l9).trans p1;have z2:=(hq1.cell l9).trans p2;have z3:=(hq1.cell l0).trans o2;have t2:=(hq1.cell gl).trans g2;have t3:=(hq1.frozen gl).trans g3))
         | (go_at_call 78;((with_reducible refine (impl_qraw _ _ _).mono ?_);rintro e v9 ⟨rfl,rfl⟩)))
     go_wp2_with fail
     go_roundw
     case rel=>
       have hq5:Below wr.heap.size wr v1:=⟨hq1.os,hq1.tape,hq1.output,hq1.size,hq1.block⟩
       have hv:(gen m (dblG W H xs)).getD k 0=wrap64 (4*rankOf W H xs ((k:Int) % (2*W)) ((k:Int)/(2*W))+qraw ((k:Int) % (2*W)/W) ((k:Int)/(2*W)/H)):=by
         rw [gen_get _ _ _ hlt,qraw_quarter a0 a1 c0 c1,IntWalk.wrap64_in _ (by omega)];rfl
       have hs:=(HO4.out.below hq5 gl).set k (wrap64 (4*rankOf W H xs ((k:Int) % (2*W)) ((k:Int)/(2*W))+qraw ((k:Int) % (2*W)/W) ((k:Int)/(2*W)/H)))
       rw [filled_succ (gen m (dblG W H xs)) _ k _ (by rw [gen_len];exact hlt) (by simp;omega) hv] at hs
       exact ⟨k+1,by omega,by go_num,hs,grown_set (grown_trans hg (grown_of_below (row:=some g) hq5)) _⟩
     case measure=>simp [intOf];omega
   · obtain rfl:m=k:=by omega
     have KR:=Lib.hid ((KR2.out.alloc _).grown hg (by have:=HG.out;have:=KR2.out.lt;simp;omega))
     obtain ⟨r0,r1,r2,r3⟩:=KR.out.c3
     obtain ⟨q0,q1,q2⟩:=KR.out.f3
     rw [filled_at (gen m (dblG W H xs)) _ m (by rw [gen_len]) (by simp)] at ho
     have HO3:=Lib.hid ho
     clear ho
     go_wp2_with fail
     exact bodyPost_ret (v:= .agg #[.int .i64 (2*W), .int .i64 (2*H), .slice (some ⟨g,0,none⟩) m m]) (by simp [results,Tryz.results32,go_sem,r1,r2,r3]) rfl
       ⟨_,_,_,rfl,OwnA.mk (((HO3.out.other (by have:=HG.out;simp;omega) _).other (by have:=HG.out;simp;omega) _).other (by have:=HG.out;simp;omega) _) (by have:=HG.out;omega),by omega,
         ((HBr.out.setCell (by first | (simp;done) | (simp;omega)) _).setCell (by first | (simp;done) | (simp;omega)) _).setCell (by first | (simp;done) | (simp;omega)) _⟩
def bayerAll:Bool:=[0,1,2,3,4].all (fun j=>matOk (bayerM j).W (bayerM j).H (bayerM j).ranks && (decide ((bayerM j).ranks.length=4^j) && decide ((bayerM j).W=2^j∧(bayerM j).H=2^j)))
theorem bayerAll_ok:bayerAll=true:=by decide+kernel
theorem bayer_ok (j:Nat) (hj:j≤4):matOk (bayerM j).W (bayerM j).H (bayerM j).ranks=true∧(bayerM j).ranks.length=4^j∧(bayerM j).W=2^j∧(bayerM j).H=2^j:=by
 have h:=bayerAll_ok
 unfold bayerAll at h
 rw [List.all_eq_true] at h
 have h2:=h j (by simp;omega)
 simpa [Bool.and_eq_true,decide_eq_true_eq] using h2
theorem bayer_len (j:Nat) (hj:j≤3):4*(bayerM j).ranks.length≤256:=by
 rw [(bayer_ok j (by omega)).2.1]
 have:4^j≤4^3:=Nat.pow_le_pow_right (by omega) hj
 omega
theorem OwnA.otherS {w:World} {B n cap:Nat} {ad:Option Addr} {xs:List Int} (h:OwnA w B ad n cap xs) {a:Addr} (ha: ∀b,blockOf ad=some b→b≠a.block) (u:Value):OwnA (w.setCell a u) B ad n cap xs:=by
 rcases h with h | ⟨g,h1,h2,h⟩
 · exact .inl h
 · subst h1
   exact .inr ⟨g,rfl,h2,h.other (fun e=>ha g rfl e.symm) u⟩
theorem bayerF_no {k:Int} (h: ¬(0≤k∧k≤4)):bayerF k=(noMat,false):=by unfold bayerF;rw [if_neg h]
theorem bayerF_yes {k:Nat} (h:k≤4):bayerF (k:Int)=(bayerM k,true):=by unfold bayerF;rw [if_pos ⟨by omega,by omega⟩];rfl
set_option maxHeartbeats 800000 in
theorem impl_BayerMatrix (kk:Int) (w:World):Calls Tryz.prog 10 #[.int .i64 kk] w (MatOut2 w (bayerF kk)):=by
 by_cases hk:0≤kk∧kk≤4
 case neg=>
   rw [bayerF_no hk]
   go_enter Tryz.func10,Tryz.ntmps10
   go_wp2_with fail
   all_goals first | (exfalso;exact hk ⟨by omega,by omega⟩) | skip
   all_goals (
     skip
     exact bodyPost_ret (v:= .tuple #[.agg #[.int .i64 0, .int .i64 0, .slice none 0 0], .bool false]) (by simp [results,Tryz.results10,go_sem]) rfl ⟨none,0,0,rfl,OwnA.none _ _,by omega,Joins.below_alloc1 _ _⟩
     )
 case pos=>
   obtain ⟨k,rfl⟩: ∃k:Nat,kk=(k:Int):=⟨kk.toNat,by omega⟩
   have hk4:k≤4:=by omega
   rw [bayerF_yes hk4]
   clear hk
   go_enter Tryz.func10,Tryz.ntmps10
   go_wp2_with fail
   refine (impl_blankM 1 1 1 _ rfl rfl).mono ?_
   rintro e w2 ⟨g,rfl,hg,ho,hb⟩
   have HB2:=Lib.hid ((Joins.below_alloc1 _ _).trans (hb.mono (by simp)))
   have KR2:=Lib.hid ((Blk.new w 31 #[.int .i64 0, .int .i64 0, .slice none 0 0]).below' hb)
   have HO:=Lib.hid ho
   have HG:Hid (w.heap.size+1≤g):=Lib.hid (by simpa using hg)
   clear hb ho hg
   go_wp2_with fail
   have NG:=KR2.out.lt
   go_loopw [14] (fun i wr=> ∃(j:Nat) (ar:Option Addr) (nr cr:Nat),j≤k∧i= .int .i64 (j)∧OwnA wr (w.heap.size+1) ar nr cr (bayerM j).ranks∧Hid (∀b,blockOf ar=some b→b≠w2.heap.size)∧Blk wr (w2.heap.size) 31 #[.int .i64 (bayerM j).W, .int .i64 (bayerM j).H, .slice ar nr cr]∧Blk wr w.heap.size 31 #[.int .i64 0, .int .i64 0, .slice none 0 0]∧Below w.heap.size w wr) (fun i _=>k - (intOf i).toNat)
   case atStart=>exact ⟨0,_,_,_,Nat.zero_le _,rfl,(OwnA.mk (HO.out.alloc _) HG.out),Lib.hid (by intro b hb;simp [blockOf] at hb;subst hb;have:=HO.out.lt;omega),Blk.new _ _ _,KR2.out.alloc _,HB2.out.alloc HB2.out.size _⟩
   case round=>
     obtain ⟨j,ar,nr,cr,hj,rfl,ho,HNE,hb1,hb2,hw⟩:=hrel
     have HOr:=Lib.hid ho
     have KB:=Lib.hid hb1
     have KR:=Lib.hid hb2
     have HW:=Lib.hid hw
     obtain ⟨l0,o0,o1,o2⟩:=KB.out.c3
     obtain ⟨q0,q1,q2⟩:=KB.out.f3
     clear ho hb1 hb2 hw
     by_cases hlt:j<k
     · obtain ⟨m1,m2,m3,m4⟩:=matOk_bd HOr.out.len (bayer_ok j (by omega)).1
       obtain ⟨b1,b2,b3,b4,b5,b6⟩:=matSize_bd m1
       have h4:4*nr≤256:=by have:=bayer_len j (by omega);have:=HOr.out.len;omega
       have M2:=Lib.hid m2
       have M3:=Lib.hid m3
       clear m1 m2 m3 m4
       go_wp2_with fail
       refine (impl_doubled _ _ _ nr _ (bayerM j).ranks _ HOr.out.len (by exact HOr.out.rd) M2.out b1 b3 h4 M3.out).mono ?_
       rintro e w5 ⟨a5,n5,c5,rfl,ho5,hn5,hb5⟩
       have HO5:=Lib.hid ho5
       have KB5:=Lib.hid (KB.out.below' hb5)
       have KR5:=Lib.hid (KR.out.below' hb5)
       have HW5:=Lib.hid (bTrans HW.out hb5)
       have LB:=Lib.hid KB.out.lt
       have LW:=Lib.hid HW.out.size
       have LR:=Lib.hid KR.out.lt
       have NB:Hid (∀b,blockOf a5=some b→b≠w2.heap.size):=Lib.hid (fun b hb=>by have:=HO5.out.bd b hb;have:=LB.out;omega)
       clear ho5 hb5 o0 o1 o2 q0 q1 q2 l0
       obtain ⟨l0,o0,o1,o2⟩:=KB5.out.c3
       obtain ⟨q0,q1,q2⟩:=KB5.out.f3
       go_wp2_with fail
       go_roundw
       case rel=>
         exact ⟨j+1,a5,n5,c5,by omega,by go_num,(((HO5.out.otherS (a:=⟨w2.heap.size,0,none⟩) NB.out _).otherS (a:=⟨w2.heap.size,1,none⟩) NB.out _).otherS (a:=⟨w2.heap.size,2,none⟩) NB.out _).mono (by have:=LW.out;have:=LR.out;omega),NB,by exact ((KB5.out.set 0 _).set 1 _).set 2 _,((KR5.out.other (by simp;try omega) _).other (by simp;try omega) _).other (by simp;try omega) _,((HW5.out.setCell (by simp;try omega) _).setCell (by simp;try omega) _).setCell (by simp;try omega) _⟩
       case measure=>simp [intOf];omega
     · obtain rfl:k=j:=by omega
       obtain ⟨r0,r1,r2,r3⟩:=KR.out.c3
       obtain ⟨t0,t1,t2⟩:=KR.out.f3
       have hlen:Hid (nr≤1048576):=Lib.hid (by
         obtain ⟨m1,m2,_,_⟩:=matOk_bd HOr.out.len (bayer_ok k (by omega)).1
         obtain ⟨_,_,_,_,b5,_⟩:=matSize_bd m1
         omega)
       go_wp2_with fail
       exact bodyPost_ret (v:= .tuple #[.agg #[.int .i64 (bayerM k).W, .int .i64 (bayerM k).H, .slice ar nr cr], .bool true]) (by simp [results,Tryz.results10,go_sem,r1,r2,r3]) rfl
         ⟨_,_,_,rfl,(((HOr.out.other (by simp;try omega) _).other (by simp;try omega) _).other (by simp;try omega) _).mono (by omega),hlen.out,
           ((HW.out.setCell (by first | (simp;done) | (simp;omega)) _).setCell (by first | (simp;done) | (simp;omega)) _).setCell (by first | (simp;done) | (simp;omega)) _⟩
def newDat:Pic × Pic × List Pic:=(⟨1,1,[0]⟩,⟨1,1,[0]⟩,[])
def DeskOut (w:World) (d:Pic × Pic × List Pic) (e:Ending) (w':World):Prop:=
 ∃E:Dsk,e= .returned E.val∧OwnD w' w.heap.size E∧E.dat=d∧SmallD E∧Below w.heap.size w w'
theorem flat110:flatF 1 1 0=(⟨1,1,[0]⟩,true):=by decide
theorem bayer0:bayerF 0=(⟨1,1,[0]⟩,true):=by rfl
set_option maxRecDepth 100000 in
set_option maxHeartbeats 800000 in
theorem impl_NewDesk (w:World):Calls Tryz.prog 16 #[] w (DeskOut w newDat):=by
 have KR:=Lib.hid (Blk.new w 45 #[.int .i64 0, .int .i64 0, .slice none 0 0, .int .i64 0, .int .i64 0, .slice none 0 0, .slice none 0 0])
 have HB0:=Lib.hid (bAlloc (Below.refl w.heap.size w) (.cells #[.int .i64 0, .int .i64 0, .slice none 0 0, .int .i64 0, .int .i64 0, .slice none 0 0, .slice none 0 0] 45))
 go_enter Tryz.func16,Tryz.ntmps16
 go_wp2_with fail
 refine (impl_FlatPicture 1 1 0 _).mono ?_
 rw [flat110]
 rintro e w1 ⟨a,n,c,rfl,ho,hn,hb⟩
 have HP1:=Lib.hid (ho.alloc (.cells #[.int .i64 1, .int .i64 1, .slice a n c] 27))
 have HZ1:Hid (w.heap.size+1≤w1.heap.size):=Lib.hid (by have:=hb.size;simpa using this)
 have HB1:=Lib.hid (bAlloc (bTrans HB0.out hb) (.cells #[.int .i64 1, .int .i64 1, .slice a n c] 27))
 have KR1:=Lib.hid ((KR.out.below' hb).alloc (.cells #[.int .i64 1, .int .i64 1, .slice a n c] 27))
 have KP1:=Lib.hid (Blk.new w1 27 #[.int .i64 1, .int .i64 1, .slice a n c])
 have HBD:=Lib.hid ho.bd
 clear hb ho KR
 go_wp2_with fail
 refine (impl_BayerMatrix 0 _).mono ?_
 rw [bayer0]
 rintro e w2 ⟨a2,n2,c2,rfl,ho,hn2,hb⟩
 have HP2:=Lib.hid ((HP1.out.below' hb).alloc (.cells #[.int .i64 1, .int .i64 1, .slice a2 n2 c2] 31))
 have HM2:=Lib.hid (ho.alloc (.cells #[.int .i64 1, .int .i64 1, .slice a2 n2 c2] 31))
 have HB2:=Lib.hid (bAlloc (bTrans HB1.out hb) (.cells #[.int .i64 1, .int .i64 1, .slice a2 n2 c2] 31))
 have KR2:=Lib.hid ((KR1.out.below' hb).alloc (.cells #[.int .i64 1, .int .i64 1, .slice a2 n2 c2] 31))
 have KP2:=Lib.hid ((KP1.out.below' hb).alloc (.cells #[.int .i64 1, .int .i64 1, .slice a2 n2 c2] 31))
 have KM2:=Lib.hid (Blk.new w2 31 #[.int .i64 1, .int .i64 1, .slice a2 n2 c2])
 have HBM:=Lib.hid ho.bd
 have HZ2:Hid (w1.heap.size+1≤w2.heap.size):=Lib.hid (by have:=hb.size;simpa using this)
 clear hb ho KR1 KP1 HP1
 obtain ⟨l0,c0,c1,c2',c3,c4,c5,c6⟩:=KR2.out.c7
 obtain ⟨f0,f1,f2,f3,f4,f5,f6⟩:=KR2.out.f7
 obtain ⟨m0,d0,d1,d2⟩:=KP2.out.c3
 obtain ⟨o0,g0,g1,g2⟩:=KM2.out.c3
 go_wp2_with fail
 have hz1:=HZ1.out
 have hz2:=HZ2.out
 have hbd:=HBD.out
 have hbm:=HBM.out
 refine bodyPost_ret (v:=(⟨⟨1,1,a,n,c,[0]⟩,⟨1,1,a2,n2,c2,[0]⟩,none,0,0,[]⟩:Dsk).val) (by simp [results,Tryz.results16,go_sem,Dsk.val,c0,c1,c2',c3,c4,c5,c6]) rfl ⟨_,rfl,?_,rfl,⟨hn,hn2,by show 0≤1048576;omega,fun k hk=>by simp at hk⟩,?_⟩
 · refine ⟨?_,?_,OwnV.nil _ _,fun b hb e=>?_,fun b hb e=>?_,fun b hb e=>?_⟩
   · exact OwnA.mono (ownA_other7 HP2.out (by simp) _ _ _ _ _ _ _) (by simp)
   · exact OwnA.mono (ownA_other7 HM2.out (by simp;omega) _ _ _ _ _ _ _) (by simp;omega)
   · have h1:=hbd b hb
     have h2:=hbm b e
     simp at h1 h2
     omega
   · rcases hb with hb | ⟨k,hk,_⟩
     · cases hb
     · simp at hk
   · rcases hb with hb | ⟨k,hk,_⟩
     · cases hb
     · simp at hk
 · exact below_set7 HB2.out (Nat.le_refl _) _ _ _ _ _ _ _
theorem step_appV {P:Program} (w:World) {ops:Array Oper} {o:Oper} {a:Act} {K:Act→World→Prop} {Q:Exit→Act→World→Prop} {E:Prop}
   (hgd:o.guard=none) (t:Nat) (ht:P.underlying t=some (.slice 27)) (hi0:(P.info? 27).map (fun i=>(i.zero,i.size,i.bytes))=some (some (.agg #[.int .i64 0, .int .i64 0, .slice none 0 0]),3,40))
   (s x:Operand) (hop:o.op= .call {callee:= .builtin .append,args:=#[s,x],argTypes:=#[t,t]})
   (B n cap:Nat) (ad:Option Addr) (L:List PV) (hs:a.eval s= .slice ad n cap) (ho:RowVA w B ad n cap L) (g:Nat) (p:PV) (hx:a.eval x= .slice (some ⟨g,0,none⟩) 1 1)
   (h0:w.cell? ⟨g,0,none⟩=some (.int .i64 p.W)) (h1:w.cell? ⟨g,1,none⟩=some (.int .i64 p.H)) (h2:w.cell? ⟨g,2,none⟩=some (.slice p.a p.n p.c)) (hn:n≤1048576) (hB:B≤w.heap.size)
   (hK: ∀ad' cap' w',RowVA w' B ad' (n+1) cap' (L++ [p])→w.grownBy w' (blockOf ad)→(blockOf ad'=blockOf ad∨blockOf ad'=some w.heap.size)→K (a.put o.dst (.slice ad' (n+1) cap')) w'):
   if Region.wanted o (yielded ops a.tmps)=true then Oper.wp P o a w K Q else E:=by
 have hw:Region.wanted o (yielded ops a.tmps)=true:=by simp [Region.wanted,hgd]
 rw [if_pos hw]
 obtain ⟨i,hi,hz0,hz1,hz2⟩:=info_parts hi0
 have hf:flatV L++p.cells=flatV (L++ [p]):=by simp [flatV]
 obtain ⟨v',w',hr,q2,q3,_,q5⟩:=run_append_own_at (P:=P) w B t o.type 27 i (.agg #[.int .i64 0, .int .i64 0, .slice none 0 0]) 3 40 ht hi hz0 hz1 hz2 (by simp [Value.cells]) (by omega) _ n (flatV L) ho.toRow ⟨g,0,none⟩ 1 1 p.cells (by simp [PV.cells]) (fun j u hj=>by
     have hj3:j=0∨j=1∨j=2:=by
       have:=(List.getElem?_eq_some_iff.1 hj).1
       simp [PV.cells] at this
       omega
     rcases hj3 with rfl | rfl | rfl
     · simp [PV.cells] at hj;subst hj;simpa [Addr.add] using h0
     · simp [PV.cells] at hj;subst hj;simpa [Addr.add] using h1
     · simp [PV.cells] at hj;subst hj;simpa [Addr.add] using h2) (fun u hu=>by
     simp [PV.cells] at hu
     rcases hu with rfl | rfl | rfl <;>rfl) (by unfold maxLen;omega) (by omega) hB
 unfold Oper.wp execOp
 simp only [hop,resolve,invoke,builtin,Sem.run_bind,Sem.run_pure,Result.andThen_ok,List.map_toArray,List.map_cons,List.map_nil,hs,hx,hr]
 rw [hf] at q2
 obtain ⟨ad',cap',rfl,h5⟩:=RowVA.ofRow (by rw [List.length_append,ho.1];rfl) q2
 rw [blockOf_ownT] at q3
 rw [blockOf_ownT,blockOf_ownT] at q5
 exact hK ad' cap' w' h5 q3 q5
theorem OwnV.toRowVA {w:World} {B n cap:Nat} {ad:Option Addr} {L:List PV} (h:OwnV w B ad n cap L):RowVA w B ad n cap L:=by
 obtain ⟨h1,h2,_⟩:=h
 exact ⟨h1,h2⟩
theorem OwnV.lit {w:World} {B:Nat} {p:PV} (hB:B≤w.heap.size) (hp:OwnA w B p.a p.n p.c p.ink):
   OwnV (w.alloc (.cells #[.int .i64 p.W, .int .i64 p.H, .slice p.a p.n p.c] 27)) B (some ⟨w.heap.size,0,none⟩) 1 1 [p]:=by
 refine ⟨rfl, .inr ⟨_,rfl,hB,⟨_,heap_alloc_new w _,by simp,by unfold maxLen;omega,by simp,by simp [flatV,PV.cells]⟩⟩,fun k hk=>?_,fun k b hk hb=>?_,fun j k b h1 hk=>by omega⟩
 · obtain rfl:k=0:=by omega
   exact hp.alloc _
 · obtain rfl:k=0:=by omega
   have:=hp.bd b hb
   intro e
   simp only [blockOf,Option.some.injEq] at e
   omega
end Go.Proofs.YtmikajnpgcabfaaGreatDoor
namespace Go.Proofs.YtmikajnpgcabfaaGreatDoor
set_option linter.unusedVariables false
set_option linter.unusedSimpArgs false
def wayG (d a:Int):Int:=min (d % a) (a - d % a)
def farG (W H:Int) (i k:Nat):Int:=wayG ((i:Int) % W - (k:Int) % W) W*wayG ((i:Int) % W - (k:Int) % W) W+wayG ((i:Int)/W - (k:Int)/W) H*wayG ((i:Int)/W - (k:Int)/W) H
theorem wayG_bd {d a:Int} (ha:1≤a):0≤wayG d a∧wayG d a≤a:=by
 have h1:=Int.emod_nonneg d (show a≠0 by omega)
 have h2:=Int.emod_lt_of_pos d (show 0<a by omega)
 unfold wayG
 omega
theorem wayG_neg {d a:Int} (ha:1≤a):wayG (-d) a=wayG d a:=by
 have h1:=Int.emod_nonneg d (show a≠0 by omega)
 have h2:=Int.emod_lt_of_pos d (show 0<a by omega)
 have h3:=Int.emod_nonneg (-d) (show a≠0 by omega)
 have h4:=Int.emod_lt_of_pos (-d) (show 0<a by omega)
 have e:(d % a+(-d) % a) % a=0:=by
   rw [←Int.add_emod]
   simp [Int.add_right_neg]
 have h5:d % a+(-d) % a=0∨d % a+(-d) % a=a:=by
   by_cases h:d % a+(-d) % a<a
   · left
     rw [Int.emod_eq_of_lt (by omega) h] at e
     exact e
   · right
     have e2:(d % a+(-d) % a - a) % a=0:=by rw [Int.sub_emod_right];exact e
     rw [Int.emod_eq_of_lt (by omega) (by omega)] at e2
     omega
 unfold wayG
 omega
theorem farG_symm {W H:Int} (hW:1≤W) (hH:1≤H) (i k:Nat):farG W H i k=farG W H k i:=by
 unfold farG
 rw [show (i:Int) % W - (k:Int) % W=-((k:Int) % W - (i:Int) % W) by omega,wayG_neg hW,show (i:Int)/W - (k:Int)/W=-((k:Int)/W - (i:Int)/W) by omega,wayG_neg hH]
theorem sq_nn {x:Int} (h:0≤x):0≤x*x:=Int.mul_nonneg h h
end Go.Proofs.YtmikajnpgcabfaaGreatDoor
