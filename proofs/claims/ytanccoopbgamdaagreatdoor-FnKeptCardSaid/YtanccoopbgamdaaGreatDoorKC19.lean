/-
  Contracts and plain facts on which the theorem of this claim rests, text 19.
-/
import Derived.Deep.QuietTactic
import Derived.Deep.RegionHeld3
import Derived.Deep.RegionWith
import Derived.RegionTactic
import Derived.Test.YtanccoopbgamdaaGreatDoorKC3
import Derived.Test.YtanccoopbgamdaaGreatDoorKC4
import Derived.Test.YtanccoopbgamdaaGreatDoorKC18
namespace Go.Proofs.YtanccoopbgamdaaGreatDoor
open Go.RowKit
set_option linter.unusedVariables false
set_option linter.unusedSimpArgs false
structure Keep (S:Nat→Prop) (w w':World):Prop where
 os:w'.os=w.os
 tape:w'.tape=w.tape
 output:w'.output=w.output
 size:w.heap.size≤w'.heap.size
 block: ∀i,i<w.heap.size→ ¬S i→w'.heap[i]? =w.heap[i]?
namespace Keep
variable {S : Nat → Prop} {w w' w2 : World}
theorem refl (S:Nat→Prop) (w:World):Keep S w w:=⟨rfl,rfl,rfl,Nat.le_refl _,fun _ _ _=>rfl⟩
theorem trans (h:Keep S w w') (k:Keep S w' w2):Keep S w w2:=
 ⟨k.os.trans h.os,k.tape.trans h.tape,k.output.trans h.output,Nat.le_trans h.size k.size,fun i hi hs=>(k.block i (Nat.lt_of_lt_of_le hi h.size) hs).trans (h.block i hi hs)⟩
theorem ofBelow (h:Below w.heap.size w w'):Keep S w w':=⟨h.os,h.tape,h.output,h.size,fun i hi _=>h.block i hi⟩
theorem below {B:Nat} (h:Keep S w w') (hS: ∀i,S i→B≤i) (hB:B≤w.heap.size):Below B w w':=
 ⟨h.os,h.tape,h.output,h.size,fun i hi=>h.block i (by omega) (fun hs=>by have:=hS i hs;omega)⟩
theorem set (h:Keep S w w') {a:Addr} (ha:S a.block) (u:Value):Keep S w (w'.setCell a u):=
 ⟨h.os,h.tape,h.output,by simpa [World.setCell] using h.size,fun i hi hs=>(Below.heap_setCell w' a u i (fun e=>hs (by rw [e];exact ha))).trans (h.block i hi hs)⟩
theorem alloc (h:Keep S w w') (o:Obj):Keep S w (w'.alloc o):=h.trans (ofBelow (Joins.below_alloc1 w' o))
theorem drewN (h:Keep S w w') (n:Nat):Keep S w (w'.drewN n):=⟨h.os,h.tape,h.output,h.size,h.block⟩
theorem drew (h:Keep S w w'):Keep S w w'.drew:=⟨h.os,h.tape,h.output,h.size,h.block⟩
theorem mono {S2:Nat→Prop} (h:Keep S w w') (hs: ∀i,S i→S2 i):Keep S2 w w':=⟨h.os,h.tape,h.output,h.size,fun i hi h2=>h.block i hi (fun h3=>h2 (hs i h3))⟩
theorem blk {g T:Nat} {cs:Array Value} (h:Keep S w w') (hb:Blk w g T cs) (hs: ¬S g):Blk w' g T cs:=hb.of_block (h.block g hb.lt hs)
theorem own {g n cap:Nat} {xs:List Int} (h:Keep S w w') (hb:Own w g n cap xs) (hs: ¬S g):Own w' g n cap xs:=hb.of_block (h.block g hb.lt hs)
theorem ownA {B n cap:Nat} {ad:Option Addr} {xs:List Int} (h:Keep S w w') (hb:OwnA w B ad n cap xs) (hs: ∀i,S i→i<B):OwnA w' B ad n cap xs:=by
 rcases hb with hb | ⟨g,h1,h2,hb⟩
 · exact .inl hb
 · exact .inr ⟨g,h1,h2,h.own hb (fun e=>by have:=hs g e;omega)⟩
end Keep
theorem RowA.toOwn {w:World} {B n cap:Nat} {ad:Option Addr} {xs:List Int} (h:RowA w 3 1 B ad n cap xs):OwnA w B ad n cap xs:=by
 rcases h with h | ⟨g,h1,h2,h3,cur,h4,h5,h6,h7,h8⟩
 · exact .inl h
 · exact .inr ⟨g,h1,h2,by omega,cur,h4,h5,h6,by omega,by rw [Nat.mul_one] at h8;exact h8⟩
theorem infoInt3:(Tryz.prog.info? 3).map (fun i=>(i.zero,i.size,i.bytes))=some (some (.int .i64 0),1,8):=by kernel_rfl
set_option maxRecDepth 100000 in
set_option maxHeartbeats 800000 in
theorem clone_ints (b off n cap:Nat) (xs:List Int) (w:World) (hn:xs.length=n) (ha:Rd w (some ⟨b,off,none⟩) xs) (h1:1≤n) (hl:n≤1048576):
   Calls Tryz.prog 63 #[.slice (some ⟨b,off,none⟩) n cap] w fun e w'=> ∃g c,e= .returned (.slice (some ⟨g,0,none⟩) n c)∧Own w' g n c xs∧w.heap.size≤g∧Below w.heap.size w w':=by
 have HN:=Lib.hid hn
 have HA:=Lib.hid ha
 clear hn ha
 have hnil:=fun v:World=>Lib.run_eql_slice_nil (P:=Tryz.prog) v (t:=25) (e:=3) (a:=some ⟨b,off,none⟩) n cap 0 0 Tryz.underlying25
 go_enter Tryz.func63,Tryz.ntmps63
 go_wp2_with (at_builtin;refine wp_cloneT _ rfl 25 3 1 8 (.int .i64 0) Tryz.underlying25 infoInt3 rfl (by decide) (by decide) (.tmp 5) (.tmp 6) rfl w.heap.size 0 _ rfl (RowA.mk (rowT_empty w 3 1) (Nat.le_refl _)) b off n cap xs rfl (by have:=HN.out;omega) (fun j hj=>by
   obtain ⟨b2,o2,h3,h4,h5⟩:=(HA.out.alloc (.cells #[] 3)).at (by have:=HN.out;omega)
   cases h3
   exact h5 j (by have:=HN.out;omega)) hl (by simp) ?_;intro ad2 cap2 w5 ho5 hg5)
 have HB5:=Lib.hid ((Joins.below_alloc1 w (.cells #[] 3)).grown hg5 (by simp) (fun k hk=>by simp [blockOf] at hk;omega))
 have HO5:=Lib.hid ho5.toOwn
 clear ho5 hg5
 obtain ⟨g,hg,hB,hr⟩: ∃g,ad2=some ⟨g,0,none⟩∧w.heap.size≤g∧Own w5 g n cap2 xs:=by
   rcases HO5.out with ⟨_,h,_,_⟩ | h
   · omega
   · exact h
 subst hg
 have HR:=Lib.hid hr
 clear hr
 go_ret
 exact ⟨_,_,rfl,HR.out,hB,HB5.out⟩
structure DSt (w:World) (B D gp gr:Nat) (kad:Option Addr) (kn kcap:Nat) (W H:Int) (n rc:Nat) (dots rs:List Int) (L:Int):Prop where
 hD:B≤D
 hp:B≤gp
 hr:B≤gr
 n1:D≠gp
 n2:D≠gr
 n3:gp≠gr
 box:Blk w D 162 #[.slice kad kn kcap, .int .i64 W, .int .i64 H, .slice (some ⟨gp,0,none⟩) n n, .slice (some ⟨gr,0,none⟩) n rc, .int .i64 L]
 dots:Own w gp n n dots
 rest:Own w gr n rc rs
def Trio (D gp gr:Nat) (i:Nat):Prop:=i=D∨i=gp∨i=gr
namespace DSt
variable {w w' : World} {B D gp gr : Nat} {kad : Option Addr} {kn kcap : Nat} {W H : Int} {n rc : Nat} {ds rs : List Int} {L : Int}
theorem below (h:DSt w B D gp gr kad kn kcap W H n rc ds rs L) (hb:Below w.heap.size w w'):DSt w' B D gp gr kad kn kcap W H n rc ds rs L:=
 ⟨h.hD,h.hp,h.hr,h.n1,h.n2,h.n3,h.box.below' hb,h.dots.below hb h.dots.lt,h.rest.below hb h.rest.lt⟩
theorem alloc (h:DSt w B D gp gr kad kn kcap W H n rc ds rs L) (o:Obj):DSt (w.alloc o) B D gp gr kad kn kcap W H n rc ds rs L:=h.below (Joins.below_alloc1 w o)
theorem drewN (h:DSt w B D gp gr kad kn kcap W H n rc ds rs L) (m:Nat):DSt (w.drewN m) B D gp gr kad kn kcap W H n rc ds rs L:=
 ⟨h.hD,h.hp,h.hr,h.n1,h.n2,h.n3,h.box.drewN m,h.dots.drewN m,h.rest.drewN m⟩
theorem drew (h:DSt w B D gp gr kad kn kcap W H n rc ds rs L):DSt w.drew B D gp gr kad kn kcap W H n rc ds rs L:=h.drewN 1
theorem setDot (h:DSt w B D gp gr kad kn kcap W H n rc ds rs L) (j:Nat) (v:Int):DSt (w.setCell ⟨gp,j,none⟩ (.int .i64 v)) B D gp gr kad kn kcap W H n rc (ds.set j v) rs L:=
 ⟨h.hD,h.hp,h.hr,h.n1,h.n2,h.n3,h.box.other (by simp;exact fun e=>h.n1 e.symm) _,h.dots.set j v,h.rest.other (by simp;exact h.n3) _⟩
theorem setRest (h:DSt w B D gp gr kad kn kcap W H n rc ds rs L) (j:Nat) (v:Int):DSt (w.setCell ⟨gr,j,none⟩ (.int .i64 v)) B D gp gr kad kn kcap W H n rc ds (rs.set j v) L:=
 ⟨h.hD,h.hp,h.hr,h.n1,h.n2,h.n3,h.box.other (by simp;exact fun e=>h.n2 e.symm) _,h.dots.other (by simp;exact fun e=>h.n3 e.symm) _,h.rest.set j v⟩
theorem setLost (h:DSt w B D gp gr kad kn kcap W H n rc ds rs L) (v:Int):DSt (w.setCell ⟨D,5,none⟩ (.int .i64 v)) B D gp gr kad kn kcap W H n rc ds rs v:=
 ⟨h.hD,h.hp,h.hr,h.n1,h.n2,h.n3,h.box.set 5 _,h.dots.other (by simp;exact h.n1) _,h.rest.other (by simp;exact h.n2) _⟩
theorem c6 (h:DSt w B D gp gr kad kn kcap W H n rc ds rs L):D<w.heap.size∧w.cell? ⟨D,0,none⟩=some (.slice kad kn kcap)∧w.cell? ⟨D,1,none⟩=some (.int .i64 W)∧w.cell? ⟨D,2,none⟩=some (.int .i64 H)∧w.cell? ⟨D,3,none⟩=some (.slice (some ⟨gp,0,none⟩) n n)∧w.cell? ⟨D,4,none⟩=some (.slice (some ⟨gr,0,none⟩) n rc)∧w.cell? ⟨D,5,none⟩=some (.int .i64 L):=
 ⟨h.box.lt,by rw [h.box.cell];rfl,by rw [h.box.cell];rfl,by rw [h.box.cell];rfl,by rw [h.box.cell];rfl,by rw [h.box.cell];rfl,by rw [h.box.cell];rfl⟩
theorem trio (h:DSt w B D gp gr kad kn kcap W H n rc ds rs L): ∀i,Trio D gp gr i→B≤i:=by
 have:=h.hD;have:=h.hp;have:=h.hr
 rintro i (rfl | rfl | rfl) <;>assumption
theorem trioLt (h:DSt w B D gp gr kad kn kcap W H n rc ds rs L): ∀i,Trio D gp gr i→i<w.heap.size:=by
 have:=h.box.lt;have:=h.dots.lt;have:=h.rest.lt
 rintro i (rfl | rfl | rfl) <;>assumption
end DSt
set_option maxHeartbeats 400000 in
theorem impl_plus (X Y X2 Y2:Int) (w:World) (h1:-10000≤X) (h2:X≤10000) (h3:-10000≤Y) (h4:Y≤10000) (h5:-10000≤X2) (h6:X2≤10000) (h7:-10000≤Y2) (h8:Y2≤10000):
   Calls Tryz.prog 119 #[.agg #[.int .i64 X, .int .i64 Y], .agg #[.int .i64 X2, .int .i64 Y2]] w fun e w'=>e= .returned (.agg #[.int .i64 (X+X2), .int .i64 (Y+Y2)])∧Below w.heap.size w w':=by
 go_enter Tryz.func119,Tryz.ntmps119
 go_wp2_with fail
 exact bodyPost_ret (v:= .agg #[.int .i64 (X+X2), .int .i64 (Y+Y2)]) (by simp [results,Tryz.results119,go_sem]) rfl ⟨rfl,(by exact (((Below.refl _ _).alloc (Nat.le_refl _) _).alloc (by simp) _).alloc (by simp;omega) _)⟩
def fitsB (s side:Int):Bool:=decide (0≤s∧s<side)
theorem fitsB_yes {s side:Int} (h1:0≤s) (h2:s<side):fitsB s side=true:=decide_eq_true ⟨h1,h2⟩
theorem fitsB_no {s side:Int} (h: ¬(0≤s∧s<side)):fitsB s side=false:=decide_eq_false h
theorem impl_fits (s side:Int) (w:World) (h1:1≤side) (h2:side≤64):
   Calls Tryz.prog 120 #[.int .i64 s, .int .i64 1, .int .i64 side] w fun e w'=>e= .returned (.bool (fitsB s side))∧w'=w:=by
 by_cases h:0≤s∧s<side
 · rw [fitsB_yes h.1 h.2]
   exact (impl_partFits_yes s 1 side w h1 h2 (by omega) h.1 (by omega)).mono (fun e w' h=>⟨h.1,h.2.symm⟩)
 · rw [fitsB_no h]
   exact (impl_partFits_no s 1 side w h1 h2 (by omega) (by omega)).mono (fun e w' h=>⟨h.1,h.2.symm⟩)
def slotOf (W H X Y:Int):Option Nat:=if 0≤X∧X<W∧0≤Y∧Y<H then some (Y*W+X).toNat else none
theorem slotOf_out {W H X Y:Int} (h: ¬(0≤X∧X<W∧0≤Y∧Y<H)):slotOf W H X Y=none:=by unfold slotOf;rw [if_neg h]
theorem slotOf_in {W H X Y:Int} (h:0≤X∧X<W∧0≤Y∧Y<H):slotOf W H X Y=some (Y*W+X).toNat:=by unfold slotOf;rw [if_pos h]
theorem Trio.d {D gp gr:Nat}:Trio D gp gr D:= .inl rfl
theorem Trio.p {D gp gr:Nat}:Trio D gp gr gp:= .inr (.inl rfl)
theorem Trio.r {D gp gr:Nat}:Trio D gp gr gr:= .inr (.inr rfl)
set_option maxHeartbeats 1600000 in
set_option maxRecDepth 100000 in
theorem impl_give (B D gp gr:Nat) (kad:Option Addr) (kn kcap:Nat) (W H:Int) (n rc:Nat) (ds rs:List Int) (L s X Y:Int) (w:World) (hd:DSt w B D gp gr kad kn kcap W H n rc ds rs L)
   (w1:1≤W) (w2:W≤64) (h1:1≤H) (h2:H≤64) (hn:(n:Int)=W*H) (hn2:n≤1024) (x1:-10000≤X) (x2:X≤10000) (y1:-10000≤Y) (y2:Y≤10000)
   (s1:-1000000≤s) (s2:s≤1000000) (l1:-1000000≤L) (l2:L≤1000000) (hv: ∀j,slotOf W H X Y=some j→-1000000≤rs.getD j 0∧rs.getD j 0≤1000000):
   Calls Tryz.prog 201 #[.pointer (some ⟨D,0,none⟩), .int .i64 s, .agg #[.int .i64 X, .int .i64 Y]] w fun e w'=>e= .returned (.tuple #[])∧DSt w' B D gp gr kad kn kcap W H n rc ds (give (rs,L) (slotOf W H X Y) s).1 (give (rs,L) (slotOf W H X Y) s).2∧Keep (Trio D gp gr) w w':=by
 have HD:=Lib.hid hd
 have HNN:=Lib.hid hn
 have dl:=hd.box.lt
 obtain ⟨d0,c0,c1,c2,c3,c4,c5⟩:=hd.c6
 have f5:=hd.box.frozen 5
 clear hd hn
 by_cases hx:0≤X∧X<W
 case neg=>
   rw [slotOf_out (fun h=>hx ⟨h.1,h.2.1⟩)]
   have HX:=Lib.hid hx
   clear hx hv
   go_enter Tryz.func201,Tryz.ntmps201
   go_wp2_with fail
   go_quiet ((go_at_call 120;refine Calls.quiet_of_same ((impl_partFits_no X 1 W _ w1 w2 (by omega) (by have:=HX.out;omega)).mono (fun e w' h=>⟨h.1,h.2.symm⟩))))
   go_wp2_with fail
   refine bodyPost_ret (results_none rfl _ _ _) rfl ?_
   exact ⟨rfl,((HD.out.alloc _).drewN _).setLost (L+s),(((Keep.refl (Trio D gp gr) w).alloc _).drewN _).set (show Trio D gp gr D from Trio.d) _⟩
 case pos=>
   obtain ⟨hx1,hx2⟩:=hx
   by_cases hy:0≤Y∧Y<H
   case neg=>
     rw [slotOf_out (fun h=>hy ⟨h.2.2.1,h.2.2.2⟩)]
     have HX:=Lib.hid hy
     have k1:=fitsB_yes hx1 hx2
     have k2:=fitsB_no hy
     clear hy hv
     go_enter Tryz.func201,Tryz.ntmps201
     go_wp2_with fail
     go_quiet ((go_at_call 120;exact Calls.quiet_of_same (impl_fits _ _ _ (by omega) (by omega))))
     go_wp2_with fail
     refine bodyPost_ret (results_none rfl _ _ _) rfl ?_
     exact ⟨rfl,((HD.out.alloc _).drewN _).setLost (L+s),(((Keep.refl (Trio D gp gr) w).alloc _).drewN _).set (show Trio D gp gr D from Trio.d) _⟩
   case pos=>
     obtain ⟨hy1,hy2⟩:=hy
     rw [slotOf_in ⟨hx1,hx2,hy1,hy2⟩] at hv⊢
     obtain ⟨r1,r2⟩:=row_bd hx1 hx2 hy1 hy2
     obtain ⟨V,hV⟩: ∃V,Y*W=V:=⟨_,rfl⟩
     rw [hV] at r1 r2 hv⊢
     have r3:V+X<n:=by rw [HNN.out];exact r2
     obtain ⟨j,hj⟩: ∃j:Nat,V+X=(j:Int):=⟨(V+X).toNat,by omega⟩
     have hjn:j<n:=by omega
     have hjt:(V+X).toNat=j:=by omega
     rw [hjt] at hv⊢
     obtain ⟨v1,v2⟩:=hv j rfl
     have g1:=HD.out.rest.cell hjn
     have g2:=HD.out.rest.frozen j
     have gl:=HD.out.rest.lt
     obtain ⟨Q,hQ⟩: ∃Q,rs.getD j 0=Q:=⟨_,rfl⟩
     rw [hQ] at g1 v1 v2
     have HQ:=Lib.hid hQ
     have u1:IntKind.i64.wrap V=V:=IntWalk.i64_in _ (by omega)
     have u2:IntKind.i64.wrap (j:Int)=(j:Int):=IntWalk.i64_in _ (by omega)
     have u3:IntKind.i64.wrap (Q+s)=Q+s:=IntWalk.i64_in _ (by omega)
     have u4:(0:Int)≤(j:Int):=by omega
     have u5:(j:Int)<(n:Int):=by omega
     have k1:=fitsB_yes hx1 hx2
     have k2:=fitsB_yes hy1 hy2
     clear hQ r2 hjt hv
     go_enter Tryz.func201,Tryz.ntmps201
     go_wp2_with fail
     go_quiet ((go_at_call 120;exact Calls.quiet_of_same (impl_fits _ _ _ (by omega) (by omega))))
     go_wp2_with fail
     go_region
     go_end0
     refine ⟨rfl,?_⟩
     simp only [give,HQ.out]
     exact ⟨((HD.out.alloc _).drewN _).setRest j (Q+s),(((Keep.refl (Trio D gp gr) w).alloc _).drewN _).set (show Trio D gp gr gr from Trio.r) _⟩
theorem neg_down {a n:Int} (hn:1≤n):-((-a+n - 1)/n)=a/n:=by
 have h1:=Int.emod_add_mul_ediv a n
 have h2:=Int.emod_nonneg a (show n≠0 by omega)
 have h3:=Int.emod_lt_of_pos a (show 0<n by omega)
 have e:-a+n - 1=(n - 1 - a % n)+n*(-(a/n)):=by rw [Int.mul_neg];omega
 rw [e,Int.add_mul_ediv_left _ _ (by omega),Int.ediv_eq_zero_of_lt (by omega) (by omega)]
 omega
set_option maxHeartbeats 400000 in
theorem impl_dividedDown (a n:Int) (w:World) (h1:1≤n) (h2:n≤100000) (h3:-100000000≤a) (h4:a≤100000000):
   Calls Tryz.prog 220 #[.int .i64 a, .int .i64 n] w fun e w'=>e= .returned (.int .i64 (a/n))∧w=w':=by
 have z1: ¬n=0:=by omega
 have z2:(n==0)=false:=by simp;omega
 by_cases ha:a<0
 · have b1:0≤(-a+n - 1)/n:=Int.ediv_nonneg (by omega) (by omega)
   have b2:(-a+n - 1)/n≤-a+n - 1:=Int.ediv_le_self _ (by omega)
   go_enter Tryz.func220,Tryz.ntmps220
   go_wp2_with fail
   go_ret
   exact ⟨ret_int (neg_down h1),rfl⟩
 · have b1:0≤a/n:=Int.ediv_nonneg (by omega) (by omega)
   have b2:a/n≤a:=Int.ediv_le_self _ (by omega)
   go_enter Tryz.func220,Tryz.ntmps220
   go_wp2_with fail
   go_ret
   exact ⟨rfl,rfl⟩
def ListOut (w:World) (xs:List Int) (e:Ending) (w':World):Prop:=
 ∃a n c,e= .returned (.slice a n c)∧OwnA w' w.heap.size a n c xs∧n≤1048576∧Below w.heap.size w w'
theorem gen_set0 {n:Nat} {f:Nat→Int} {v:Int} {ks:List Prt} {W e:Int} (hn:ks.length=n) (h1:1≤n) (hv:v=(gen n (shareB ks W e)).getD 0 0+(e - shSum ks W e n)):(gen n (shareB ks W e)).set 0 v=sharesG ks W e:=by
 subst hv
 rw [gen_get _ _ _ (by omega)]
 unfold sharesG
 rw [hn]
set_option maxHeartbeats 1600000 in
theorem impl_split (ad:Option Addr) (n cap:Nat) (ks:List Prt) (e:Int) (w:World) (hn:ks.length=n) (ha:Rd w ad (flat ks)) (hcap:n≤cap) (hk:kernOk ks=true) (he1:-1000000≤e) (he2:e≤1000000):
   Calls Tryz.prog 200 #[.slice ad n cap, .int .i64 e] w (ListOut w (sharesG ks (wtTo ks n) e)):=by
 obtain ⟨h1,h2,hk2⟩:=kernOk_bd hn hk
 have HN:=Lib.hid hn
 have HA:=Lib.hid ha
 have HKO:=Lib.hid hk
 have HK:=Lib.hid hk2
 obtain ⟨w1,w2⟩:=wtTo_bd hk2 n (Nat.le_refl _)
 obtain ⟨W,hW⟩: ∃W,wtTo ks n=W:=⟨_,rfl⟩
 have HWD:Hid (W=wtTo ks n):=Lib.hid hW.symm
 rw [hW] at w1 w2⊢
 have hW1:1≤W:=by omega
 have hW2:W≤1200:=by omega
 have z1: ¬W=0:=by omega
 have z2:(W==0)=false:=by simp;omega
 clear hn ha hk hk2 hW w1 w2
 go_enter Tryz.func200,Tryz.ntmps200
 go_wp2_with fail
 refine (impl_WeightOf _ _ _ ks _ HN.out (by exact HA.out) (by omega) hcap).mono ?_
 rw [weightF_yes HN.out HKO.out,←HWD.out]
 rintro e2 w3 ⟨rfl,hb⟩
 have HB:=Lib.hid hb
 have HA2:=Lib.hid (HA.out.below hb)
 clear hb
 go_wp2_with (at_make;refine wp_make _ rfl _ _ rfl .i64 .i64 n n n rfl rfl rfl rfl (by omega) ?_;intro M hM)
 have HO0:=Lib.hid (hM.own w3)
 have HB3:=Lib.hid (bAlloc HB.out (.cells M 3))
 have HZ3:=Lib.hid HB.out.size
 obtain ⟨wo,hwo⟩: ∃wo:World,wo=w3.alloc (.cells M 3):=⟨_,rfl⟩
 rw [←hwo] at HO0 HB3⊢
 obtain ⟨g,hg⟩: ∃g,w3.heap.size=g:=⟨_,rfl⟩
 rw [hg] at HO0 HZ3⊢
 clear hwo hM HA2
 go_loopw [7,18] (fun r i wr=> ∃(k:Nat),k≤n∧i= .int .i64 k∧r= .int .i64 (e - shSum ks W e k)∧Own wr g n n (filled (gen n (shareB ks W e)) (List.replicate n 0) k)∧Below w.heap.size w wr) (fun _ i _=>n - (intOf i).toNat)
 case atStart=>exact ⟨0,Nat.zero_le _,rfl,by simp [shSum],by rw [filled_zero];exact HO0.out,HB3.out⟩
 case round=>
   obtain ⟨k,hk,rfl,rfl,ho,hw⟩:=hrel
   have HO:=Lib.hid ho
   have HX:=Lib.hid hw
   have sw:=shSum_wide (e:=e) HK.out he1 he2 k hk
   rw [←HWD.out] at sw
   by_cases hlt:k<n
   · obtain ⟨ba,oa,hae,hal,c0,c1,c2⟩:=rd_part (HA.out.below hw) (k:=k) (by have:=HN.out;omega)
     subst hae
     obtain ⟨p,hp⟩: ∃p,prt ks k=p:=⟨_,rfl⟩
     obtain ⟨q1,q2,q3,q4⟩:=shareB_wide (e:=e) HK.out k hlt he1 he2
     have sq:=shSum_wide (e:=e) HK.out he1 he2 (k+1) (by omega)
     rw [←HWD.out] at q3 q4 sq
     have HS:Hid (shSum ks W e (k+1)=shSum ks W e k+shareB ks W e k):=Lib.hid rfl
     have HQ:Hid (shareB ks W e k=e*(prt ks k).wt/W):=Lib.hid rfl
     obtain ⟨Q,hQ⟩: ∃Q,shareB ks W e k=Q:=⟨_,rfl⟩
     rw [hp] at c0 c1 c2 q1 q2 HQ
     rw [hQ] at HS HQ q3 q4
     rw [HS.out] at sq
     obtain ⟨X,Y,T⟩:=p
     dsimp only at c0 c1 c2 q1 q2 HQ
     obtain ⟨S,hS⟩: ∃S,shSum ks W e k=S:=⟨_,rfl⟩
     rw [hS] at sw sq HS⊢
     obtain ⟨V,hV⟩: ∃V,e*T=V:=⟨_,rfl⟩
     rw [hV] at q1 q2 HQ
     have hD:V/W=Q:=HQ.out.symm
     have hs:=ho.set k Q
     rw [filled_succ (gen n (shareB ks W e)) _ k _ (by rw [gen_len];exact hlt) (by simp;omega) (by rw [gen_get _ _ _ hlt];exact hQ)] at hs
     have HSE:=Lib.hid hs
     have g2:=ho.cell hlt
     have g3:=ho.frozen k
     have gl:=ho.lt
     have HS2:=Lib.hid hS
     have HD2:=Lib.hid hD
     clear hp hw hQ HQ hS ho hs hD
     go_wp2_with fail
     refine (impl_dividedDown V W _ hW1 (by omega) (by omega) (by omega)).mono ?_
     rw [HD2.out]
     rintro e2 w4 ⟨rfl,rfl⟩
     go_wp2_with fail
     go_roundw
     case rel=>exact ⟨k+1,by omega,by go_num,by rw [HS.out];go_num,HSE.out.alloc _,bAlloc (HX.out.setCell HZ3.out _) _⟩
     case measure=>simp [intOf];omega
   · obtain rfl:k=n:=by omega
     have hf:=ho
     rw [filled_at _ _ _ (gen_len _ _) (by simp)] at hf
     obtain ⟨V,hV⟩: ∃V,(gen k (shareB ks W e)).getD 0 0=V:=⟨_,rfl⟩
     have q0:=hf.cell (j:=0) (by omega)
     have f0:=hf.frozen 0
     rw [hV] at q0
     have HV:=Lib.hid hV
     have q3:=(shareB_wide (e:=e) HK.out 0 (by omega) he1 he2).2.2
     rw [←HWD.out] at q3
     rw [gen_get _ _ _ (by omega)] at hV
     rw [hV] at q3
     have HSET:=Lib.hid (hf.set 0 (V+(e - shSum ks W e k)))
     obtain ⟨S,hS⟩: ∃S,shSum ks W e k=S:=⟨_,rfl⟩
     have HS:=Lib.hid hS
     rw [hS] at sw HSET⊢
     clear hw hV ho hf hS
     go_wp2_with fail
     go_ret
     refine ⟨_,_,_,rfl,OwnA.mk ?_ HZ3.out,by omega,HX.out.setCell HZ3.out _⟩
     have h:=HSET.out
     rw [gen_set0 (f:=shareB ks W e) HN.out h1 (by rw [HV.out,HS.out])] at h
     exact h
def slotQ (ks:List Prt) (W H X Y way:Int) (q:Nat):Option Nat:=slotOf W H (X+way*(prt ks q).dx) (Y+(prt ks q).dy)
theorem dot_yes {v:Int} (h:128≤v):dotOf v=1∧errOf v=v - 255:=by unfold errOf dotOf;rw [if_pos h];omega
theorem dot_no {v:Int} (h: ¬128≤v):dotOf v=0∧errOf v=v:=by unfold errOf dotOf;rw [if_neg h];omega
theorem set_same {xs:List Int} {j:Nat} {v:Int} (h:xs.getD j 0=v) (hj:j<xs.length):xs.set j v=xs:=by
 apply List.ext_getElem?
 intro i
 rw [List.getElem?_set]
 by_cases e:j=i
 · subst e
   rw [if_pos rfl,if_pos hj,List.getElem?_eq_getElem hj]
   simpa [List.getD,hj] using h.symm
 · rw [if_neg e]
set_option maxRecDepth 100000 in
set_option maxHeartbeats 3200000 in
theorem impl_pass (B D gp gr:Nat) (kad:Option Addr) (kn kcap:Nat) (W H:Int) (n rc:Nat) (ds rs:List Int) (L X Y way v:Int) (j:Nat) (ks:List Prt) (w:World) (hd:DSt w B D gp gr kad kn kcap W H n rc ds rs L)
   (hkl:ks.length=kn) (hko:kernOk ks=true) (hkc:kn≤kcap) (hkr: ∀u,Keep (Trio D gp gr) w u→Rd u kad (flat ks))
   (w1:1≤W) (w2:W≤64) (h1:1≤H) (h2:H≤64) (hn:(n:Int)=W*H) (hn2:n≤1024) (x1:0≤X) (x2:X<W) (y1:0≤Y) (y2:Y<H) (hway:way=1∨way=-1)
   (hj:Y*W+X=(j:Int)) (hv:rs.getD j 0=v) (v1:-300000≤v) (v2:v≤300000) (hdot:ds.getD j 0=0)
   (hg: ∀k,k<kn→-300000≤(gives (slotQ ks W H X Y way) (sharesG ks (wtTo ks kn) (errOf v)) (rs.set j (errOf v),L) k).2∧(gives (slotQ ks W H X Y way) (sharesG ks (wtTo ks kn) (errOf v)) (rs.set j (errOf v),L) k).2≤300000∧ ∀i,slotQ ks W H X Y way k=some i→-300000≤(gives (slotQ ks W H X Y way) (sharesG ks (wtTo ks kn) (errOf v)) (rs.set j (errOf v),L) k).1.getD i 0∧(gives (slotQ ks W H X Y way) (sharesG ks (wtTo ks kn) (errOf v)) (rs.set j (errOf v),L) k).1.getD i 0≤300000):
   Calls Tryz.prog 169 #[.pointer (some ⟨D,0,none⟩), .agg #[.int .i64 X, .int .i64 Y], .int .i64 way] w fun e w'=>e= .returned (.tuple #[])∧DSt w' B D gp gr kad kn kcap W H n rc (ds.set j (dotOf v)) (gives (slotQ ks W H X Y way) (sharesG ks (wtTo ks kn) (errOf v)) (rs.set j (errOf v),L) kn).1 (gives (slotQ ks W H X Y way) (sharesG ks (wtTo ks kn) (errOf v)) (rs.set j (errOf v),L) kn).2∧Keep (Trio D gp gr) w w':=by
 obtain ⟨k1,k2,k3⟩:=kernOk_bd hkl hko
 have HKL:=Lib.hid hkl
 have HKO:=Lib.hid hko
 have HK:=Lib.hid k3
 have HKR:=Lib.hid hkr
 have HNN:=Lib.hid hn
 have HG:=Lib.hid hg
 have HD:=Lib.hid hd
 have HV:=Lib.hid hv
 have HTL:=Lib.hid hd.trioLt
 obtain ⟨r1,r2⟩:=row_bd x1 x2 y1 y2
 have r3:Y*W+X<n:=by rw [hn];exact r2
 obtain ⟨V,hV⟩: ∃V,Y*W=V:=⟨_,rfl⟩
 rw [hV] at r1 r3 hj
 have hjn:j<n:=by omega
 have dl:=hd.box.lt
 have rl:=hd.rest.lt
 have pl:=hd.dots.lt
 have N1:D≠gp:=hd.n1
 have N2:D≠gr:=hd.n2
 have N3:gp≠gr:=hd.n3
 obtain ⟨_,c0,cc1,cc2,c3,c4,c5⟩:=hd.c6
 have g1:=hd.rest.cell hjn
 have g2:=hd.rest.frozen j
 have p1:=hd.dots.cell hjn
 have p2:=hd.dots.frozen j
 rw [hv] at g1
 rw [hdot] at p1
 have HDL:=Lib.hid hd.dots.len
 have HDOT:=Lib.hid hdot
 have u1:IntKind.i64.wrap V=V:=IntWalk.i64_in _ (by omega)
 have u2:IntKind.i64.wrap (j:Int)=(j:Int):=IntWalk.i64_in _ (by omega)
 clear hd hkl hko k3 hkr hn hg r2 hv hdot
 by_cases hd128:128≤v
 case pos=>
   obtain ⟨e1,e2⟩:=dot_yes hd128
   rw [e1]
   rw [e2] at HG⊢
   clear e1 e2
   go_enter Tryz.func169,Tryz.ntmps169
   go_wp2_with fail
   go_quiet (fail)
   go_wp2_with fail
   have HD2:=Lib.hid ((((HD.out.alloc (.cells #[.int .i64 X, .int .i64 Y] 149)).drewN nq).setDot j 1).setRest j (v - 255))
   have HKW:=Lib.hid (((((Keep.refl (Trio D gp gr) w).alloc (.cells #[.int .i64 X, .int .i64 Y] 149)).drewN nq).set (a:=⟨gp,j,none⟩) (show Trio D gp gr gp from Trio.p) (.int .i64 1)).set (a:=⟨gr,j,none⟩) (show Trio D gp gr gr from Trio.r) (.int .i64 (v - 255)))
   have KB:=Lib.hid ((((Blk.new w 149 #[.int .i64 X, .int .i64 Y]).drewN nq).other (a:=⟨gp,j,none⟩) (by simp;omega) (.int .i64 1)).other (a:=⟨gr,j,none⟩) (by simp;omega) (.int .i64 (v - 255)))
   obtain ⟨wo,hwo⟩: ∃wo:World,wo=((((w.alloc (.cells #[.int .i64 X, .int .i64 Y] 149)).drewN nq).setCell ⟨gp,j,none⟩ (.int .i64 1)).setCell ⟨gr,j,none⟩ (.int .i64 (v - 255))):=⟨_,rfl⟩
   rw [←hwo] at HD2 HKW KB⊢
   have hE1:-1000000≤v - 255:=by omega
   have hE2:v - 255≤1000000:=by omega
   clear hwo u1 u2 hj
   clear c0 cc1 cc2 c3 c4 c5 g1 g2 p1 p2
   obtain ⟨dl2,c0,cc1,cc2,c3,c4,c5⟩:=HD2.out.c6
   have rl2:=HD2.out.rest.lt
   have g1:=HD2.out.rest.cell hjn
   have HRL:=Lib.hid HD2.out.rest.len
   rw [getD_set _ _ _ _ (by have:=HRL.out;simp at this;omega),if_pos rfl] at g1
   have u2:IntKind.i64.wrap (j:Int)=(j:Int):=IntWalk.i64_in _ (by omega)
   have u4:(0:Int)≤(j:Int):=by omega
   have u5:(j:Int)<(n:Int):=by omega
   go_region_held3 (fun u=>u.cell? ⟨D,0,none⟩=some (.slice kad kn kcap)∧u.cell? ⟨D,4,none⟩=some (.slice (some ⟨gr,0,none⟩) n rc)∧u.cell? ⟨gr,j,none⟩=some (.int .i64 (v - 255)))
     (first | exact ⟨c0,c4,g1⟩ | exact ⟨(hb.cell dl2).trans c0,(hb.cell dl2).trans c4,(hb.cell rl2).trans g1⟩)
     (first
       | (go_at_call 200;((with_reducible refine (impl_split _ _ _ ks _ _ HKL.out (by exact (HKR.out _ HKW.out.drew)) hkc HKO.out hE1 hE2).mono ?_);rintro e w3 ⟨a,m,c,rfl,ho,hm,hb⟩)))
   clear c0 cc1 cc2 c3 c4 c5 g1
   have HO:=Lib.hid ho
   obtain rfl:m=kn:=by
     have h:=HO.out.len
     rw [sharesG_len,HKL.out] at h
     exact h.symm
   have HD3:=Lib.hid (HD2.out.drew.below hb)
   have HK3:=Lib.hid (HKW.out.drew.trans (Keep.ofBelow hb))
   have KB3:=Lib.hid (KB.out.drew.below' hb)
   have HTB:=Lib.hid (show∀i,Trio D gp gr i→i<wo.drew.heap.size from HD2.out.drew.trioLt)
   have HSL:Hid ((sharesG ks (wtTo ks m) (v - 255)).length=m):=Lib.hid HO.out.len
   clear ho hb hm
   go_wp2_with fail
   go_loopw [58] (fun i wr=> ∃k:Nat,k≤m∧i= .int .i64 k∧DSt wr B D gp gr kad m kcap W H n rc (ds.set j 1) (gives (slotQ ks W H X Y way) (sharesG ks (wtTo ks m) (v - 255)) (rs.set j (v - 255),L) k).1 (gives (slotQ ks W H X Y way) (sharesG ks (wtTo ks m) (v - 255)) (rs.set j (v - 255),L) k).2∧Keep (Trio D gp gr) w3 wr) (fun i _=>m - (intOf i).toNat)
   case atStart=>exact ⟨0,Nat.zero_le _,rfl,HD3.out,Keep.refl _ _⟩
   case round=>
     obtain ⟨k,hk,rfl,hdr,hkp⟩:=hrel
     have HDR:=Lib.hid hdr
     have HKP:=Lib.hid hkp
     have HKA:=Lib.hid (HK3.out.trans hkp)
     clear hdr hkp
     by_cases hlt:k<m
     · obtain ⟨ba,oa,hae,hal,hac⟩:=(HKP.out.ownA HO.out HTB.out).rd.at (by have:=HSL.out;omega)
       subst hae
       have a1:=hac k (by have:=HSL.out;omega)
       clear hac
       obtain ⟨bk,ok,hke,hkl2,q0,q1,q2⟩:=rd_part (HKR.out _ HKA.out) (k:=k) (by have:=HKL.out;omega)
       subst hke
       obtain ⟨dl4,d0,_,_,_,_,_⟩:=HDR.out.c6
       have kb:=HKP.out.blk KB3.out (fun h=>by have:=HTL.out _ h;omega)
       have b0:=kb.cell 0
       have b1:=kb.cell 1
       have bl:=kb.lt
       simp only [List.getElem?_toArray,List.getElem?_cons_zero,List.getElem?_cons_succ] at b0 b1
       obtain ⟨S,hS⟩: ∃S,(sharesG ks (wtTo ks m) (v - 255)).getD k 0=S:=⟨_,rfl⟩
       have sb:=share_bd (e:=(v - 255)) HKL.out k1 k2 HK.out k hlt
       obtain ⟨gl1,gl2,gv⟩:=HG.out k hlt
       have HSQ:Hid (slotQ ks W H X Y way k=slotOf W H (X+way*(prt ks k).dx) (Y+(prt ks k).dy)):=Lib.hid rfl
       have pb:=partOk_bd (kern_part HK.out hlt).1
       obtain ⟨p,hp⟩: ∃p,prt ks k=p:=⟨_,rfl⟩
       rw [hp] at q0 q1 q2 HSQ pb
       rw [hS] at a1 sb
       obtain ⟨PX,PY,PT⟩:=p
       dsimp only at q0 q1 q2 HSQ pb
       obtain ⟨pb1,pb2,pb3,pb4,_⟩:=pb
       obtain ⟨M,hM⟩: ∃M,way*PX=M:=⟨_,rfl⟩
       have m1:-4≤M∧M≤4:=by rcases hway with h | h <;>(rw [h] at hM;omega)
       obtain ⟨m1,m2⟩:=m1
       rw [hM] at HSQ
       have HS:=Lib.hid hS
       have HGS:Hid (gives (slotQ ks W H X Y way) (sharesG ks (wtTo ks m) (v - 255)) (rs.set j (v - 255),L) (k+1)=give (gives (slotQ ks W H X Y way) (sharesG ks (wtTo ks m) (v - 255)) (rs.set j (v - 255),L) k) (slotOf W H (X+M) (Y+PY)) S):=Lib.hid (by rw [gives,hS,HSQ.out])
       rw [HSQ.out] at gv
       obtain ⟨G,hG⟩: ∃G,gives (slotQ ks W H X Y way) (sharesG ks (wtTo ks m) (v - 255)) (rs.set j (v - 255),L) k=G:=⟨_,rfl⟩
       rw [hG] at HDR HGS gl1 gl2 gv
       obtain ⟨GR,GL⟩:=G
       dsimp only at HDR gl1 gl2 gv
       have GV:=Lib.hid gv
       clear gv hp hS hG kb
       have s1:-1000000≤S:=by omega
       have s2:S≤1000000:=by omega
       go_wp2_with fail
       refine (impl_plus X Y M PY _ (by omega) (by omega) (by omega) (by omega) (by omega) (by omega) (by omega) (by omega)).mono ?_
       rintro e w4 ⟨rfl,hb4⟩
       have HDR4:=Lib.hid ((HDR.out.alloc (.cells #[.int .i64 PX, .int .i64 PY, .int .i64 PT] 135)).below hb4)
       have HKP4:=Lib.hid ((HKP.out.alloc (.cells #[.int .i64 PX, .int .i64 PY, .int .i64 PT] 135)).trans (Keep.ofBelow hb4))
       clear hb4 hM a1 q0 q1 q2 d0 b0 b1
       go_wp2_with fail
       refine (impl_give B D gp gr _ m kcap W H n rc _ GR GL S (X+M) (Y+PY) _ HDR4.out w1 w2 h1 h2 HNN.out hn2 (by omega) (by omega) (by omega) (by omega) s1 s2 (by omega) (by omega) (fun i hi=>by have:=GV.out i hi;omega)).mono ?_
       rintro e w5 ⟨rfl,hd5,hk5⟩
       have HD5:=Lib.hid hd5
       have HK5:=Lib.hid (HKP4.out.trans hk5)
       clear hd5 hk5
       go_wp2_with fail
       go_roundw
       case rel=>exact ⟨k+1,by omega,by go_num,by rw [HGS.out];exact HD5.out,HK5.out⟩
       case measure=>simp [intOf];omega
     · obtain rfl:m=k:=by omega
       go_wp2_with fail
       go_end0
       exact ⟨rfl,HDR.out,HKA.out⟩
 case neg=>
   obtain ⟨e1,e2⟩:=dot_no hd128
   rw [e1]
   rw [e2] at HG⊢
   clear e1 e2
   go_enter Tryz.func169,Tryz.ntmps169
   go_wp2_with fail
   go_quiet (fail)
   clear u1 u2 hj
   go_wp2_with fail
   have HD2:Hid (DSt ((w.alloc (.cells #[.int .i64 X, .int .i64 Y] 149)).drewN nq) B D gp gr kad kn kcap W H n rc (ds.set j 0) (rs.set j v) L):=Lib.hid (by
     rw [set_same HDOT.out (by have:=HDL.out;omega),set_same HV.out (by have:=HD.out.rest.len;omega)]
     exact (HD.out.alloc _).drewN nq)
   have HKW:=Lib.hid (((Keep.refl (Trio D gp gr) w).alloc (.cells #[.int .i64 X, .int .i64 Y] 149)).drewN nq)
   have KB:=Lib.hid ((Blk.new w 149 #[.int .i64 X, .int .i64 Y]).drewN nq)
   obtain ⟨wo,hwo⟩: ∃wo:World,wo=((w.alloc (.cells #[.int .i64 X, .int .i64 Y] 149)).drewN nq):=⟨_,rfl⟩
   rw [←hwo] at HD2 HKW KB⊢
   have hE1:-1000000≤v:=by omega
   have hE2:v≤1000000:=by omega
   clear hwo
   clear c0 cc1 cc2 c3 c4 c5 g1 g2 p1 p2
   obtain ⟨dl2,c0,cc1,cc2,c3,c4,c5⟩:=HD2.out.c6
   have rl2:=HD2.out.rest.lt
   have g1:=HD2.out.rest.cell hjn
   have HRL:=Lib.hid HD2.out.rest.len
   rw [getD_set _ _ _ _ (by have:=HRL.out;simp at this;omega),if_pos rfl] at g1
   have u2:IntKind.i64.wrap (j:Int)=(j:Int):=IntWalk.i64_in _ (by omega)
   have u4:(0:Int)≤(j:Int):=by omega
   have u5:(j:Int)<(n:Int):=by omega
   go_region_held3 (fun u=>u.cell? ⟨D,0,none⟩=some (.slice kad kn kcap)∧u.cell? ⟨D,4,none⟩=some (.slice (some ⟨gr,0,none⟩) n rc)∧u.cell? ⟨gr,j,none⟩=some (.int .i64 v))
     (first | exact ⟨c0,c4,g1⟩ | exact ⟨(hb.cell dl2).trans c0,(hb.cell dl2).trans c4,(hb.cell rl2).trans g1⟩)
     (first
       | (go_at_call 200;((with_reducible refine (impl_split _ _ _ ks _ _ HKL.out (by exact (HKR.out _ HKW.out.drew)) hkc HKO.out hE1 hE2).mono ?_);rintro e w3 ⟨a,m,c,rfl,ho,hm,hb⟩)))
   clear c0 cc1 cc2 c3 c4 c5 g1
   have HO:=Lib.hid ho
   obtain rfl:m=kn:=by
     have h:=HO.out.len
     rw [sharesG_len,HKL.out] at h
     exact h.symm
   have HD3:=Lib.hid (HD2.out.drew.below hb)
   have HK3:=Lib.hid (HKW.out.drew.trans (Keep.ofBelow hb))
   have KB3:=Lib.hid (KB.out.drew.below' hb)
   have HTB:=Lib.hid (show∀i,Trio D gp gr i→i<wo.drew.heap.size from HD2.out.drew.trioLt)
   have HSL:Hid ((sharesG ks (wtTo ks m) v).length=m):=Lib.hid HO.out.len
   clear ho hb hm
   go_wp2_with fail
   go_loopw [58] (fun i wr=> ∃k:Nat,k≤m∧i= .int .i64 k∧DSt wr B D gp gr kad m kcap W H n rc (ds.set j 0) (gives (slotQ ks W H X Y way) (sharesG ks (wtTo ks m) v) (rs.set j v,L) k).1 (gives (slotQ ks W H X Y way) (sharesG ks (wtTo ks m) v) (rs.set j v,L) k).2∧Keep (Trio D gp gr) w3 wr) (fun i _=>m - (intOf i).toNat)
   case atStart=>exact ⟨0,Nat.zero_le _,rfl,HD3.out,Keep.refl _ _⟩
   case round=>
     obtain ⟨k,hk,rfl,hdr,hkp⟩:=hrel
     have HDR:=Lib.hid hdr
     have HKP:=Lib.hid hkp
     have HKA:=Lib.hid (HK3.out.trans hkp)
     clear hdr hkp
     by_cases hlt:k<m
     · obtain ⟨ba,oa,hae,hal,hac⟩:=(HKP.out.ownA HO.out HTB.out).rd.at (by have:=HSL.out;omega)
       subst hae
       have a1:=hac k (by have:=HSL.out;omega)
       clear hac
       obtain ⟨bk,ok,hke,hkl2,q0,q1,q2⟩:=rd_part (HKR.out _ HKA.out) (k:=k) (by have:=HKL.out;omega)
       subst hke
       obtain ⟨dl4,d0,_,_,_,_,_⟩:=HDR.out.c6
       have kb:=HKP.out.blk KB3.out (fun h=>by have:=HTL.out _ h;omega)
       have b0:=kb.cell 0
       have b1:=kb.cell 1
       have bl:=kb.lt
       simp only [List.getElem?_toArray,List.getElem?_cons_zero,List.getElem?_cons_succ] at b0 b1
       obtain ⟨S,hS⟩: ∃S,(sharesG ks (wtTo ks m) v).getD k 0=S:=⟨_,rfl⟩
       have sb:=share_bd (e:=v) HKL.out k1 k2 HK.out k hlt
       obtain ⟨gl1,gl2,gv⟩:=HG.out k hlt
       have HSQ:Hid (slotQ ks W H X Y way k=slotOf W H (X+way*(prt ks k).dx) (Y+(prt ks k).dy)):=Lib.hid rfl
       have pb:=partOk_bd (kern_part HK.out hlt).1
       obtain ⟨p,hp⟩: ∃p,prt ks k=p:=⟨_,rfl⟩
       rw [hp] at q0 q1 q2 HSQ pb
       rw [hS] at a1 sb
       obtain ⟨PX,PY,PT⟩:=p
       dsimp only at q0 q1 q2 HSQ pb
       obtain ⟨pb1,pb2,pb3,pb4,_⟩:=pb
       obtain ⟨M,hM⟩: ∃M,way*PX=M:=⟨_,rfl⟩
       have m1:-4≤M∧M≤4:=by rcases hway with h | h <;>(rw [h] at hM;omega)
       obtain ⟨m1,m2⟩:=m1
       rw [hM] at HSQ
       have HS:=Lib.hid hS
       have HGS:Hid (gives (slotQ ks W H X Y way) (sharesG ks (wtTo ks m) v) (rs.set j v,L) (k+1)=give (gives (slotQ ks W H X Y way) (sharesG ks (wtTo ks m) v) (rs.set j v,L) k) (slotOf W H (X+M) (Y+PY)) S):=Lib.hid (by rw [gives,hS,HSQ.out])
       rw [HSQ.out] at gv
       obtain ⟨G,hG⟩: ∃G,gives (slotQ ks W H X Y way) (sharesG ks (wtTo ks m) v) (rs.set j v,L) k=G:=⟨_,rfl⟩
       rw [hG] at HDR HGS gl1 gl2 gv
       obtain ⟨GR,GL⟩:=G
       dsimp only at HDR gl1 gl2 gv
       have GV:=Lib.hid gv
       clear gv hp hS hG kb
       have s1:-1000000≤S:=by omega
       have s2:S≤1000000:=by omega
       go_wp2_with fail
       refine (impl_plus X Y M PY _ (by omega) (by omega) (by omega) (by omega) (by omega) (by omega) (by omega) (by omega)).mono ?_
       rintro e w4 ⟨rfl,hb4⟩
       have HDR4:=Lib.hid ((HDR.out.alloc (.cells #[.int .i64 PX, .int .i64 PY, .int .i64 PT] 135)).below hb4)
       have HKP4:=Lib.hid ((HKP.out.alloc (.cells #[.int .i64 PX, .int .i64 PY, .int .i64 PT] 135)).trans (Keep.ofBelow hb4))
       clear hb4 hM a1 q0 q1 q2 d0 b0 b1
       go_wp2_with fail
       refine (impl_give B D gp gr _ m kcap W H n rc _ GR GL S (X+M) (Y+PY) _ HDR4.out w1 w2 h1 h2 HNN.out hn2 (by omega) (by omega) (by omega) (by omega) s1 s2 (by omega) (by omega) (fun i hi=>by have:=GV.out i hi;omega)).mono ?_
       rintro e w5 ⟨rfl,hd5,hk5⟩
       have HD5:=Lib.hid hd5
       have HK5:=Lib.hid (HKP4.out.trans hk5)
       clear hd5 hk5
       go_wp2_with fail
       go_roundw
       case rel=>exact ⟨k+1,by omega,by go_num,by rw [HGS.out];exact HD5.out,HK5.out⟩
       case measure=>simp [intOf];omega
     · obtain rfl:m=k:=by omega
       go_wp2_with fail
       go_end0
       exact ⟨rfl,HDR.out,HKA.out⟩
end Go.Proofs.YtanccoopbgamdaaGreatDoor
