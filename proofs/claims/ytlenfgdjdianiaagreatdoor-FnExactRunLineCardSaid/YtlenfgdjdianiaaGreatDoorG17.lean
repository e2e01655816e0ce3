/- Facts on which this claim rests, 17. -/
import Derived.Test.YtlenfgdjdianiaaGreatDoorG16
set_option linter.all false
set_option maxHeartbeats 6400000
namespace Go.Proofs.YtlenfgdjdianiaaGreatDoor
open Go.RowKit Tq Go.Proofs.Tryz
variable {B D T cap g gp gr j n : Nat} {H V W X Y e s side v way x y : Int} {S2 : Nat → Prop} {a : Addr} {ad : Option Addr} {cs : Array Value} {w : World} {xs : List Int}
structure Keep (S:Nat->Prop) (w w':World):Prop where
 os:w'.os=w.os
 tape:w'.tape=w.tape
 output:w'.output=w.output
 size:w.heap.size<=w'.heap.size
 block: ∀i,i<w.heap.size-> ¬S i->w'.heap[i]? =w.heap[i]?
namespace Keep
variable {S : Nat → Prop} {w w' w2 : World}
theorem refl (S:Nat->Prop) (w:World):Keep S w w:=⟨rfl,rfl,rfl,nI,fun _ _ _=>rfl⟩
theorem trans (h:Keep S w w') (k:Keep S w' w2):Keep S w w2:=
 ⟨k.os.trans h.os,k.tape.trans h.tape,k.output.trans h.output,Yx h.size k.size,fun i hi b=>(k.block i (Yb hi h.size) b).trans (h.block i hi b)⟩
theorem zF (h:Below w w w'):Keep S w w':=⟨h.os,h.tape,h.output,h.size,fun i hi _=>h.block i hi⟩
theorem below (h:Keep S w w') (b: ∀i,S i->B<=i) (f:B<=w.heap.size):Below B w w':=
 ⟨h.os,h.tape,h.output,h.size,fun i hi=>h.block i om (fun c=>by have:=b i c;omega)⟩
theorem set (h:Keep S w w') (ha:S a.block) (u:Value):Keep S w (w'.setCell a u):=
 ⟨h.os,h.tape,h.output,by simpa [World.setCell] using h.size,fun i hi b=>(Below.heap_setCell w' a u i (fun e=>b (by rw [e];exact ha))).trans (h.block i hi b)⟩
theorem alloc (h:Keep S w w') (o:Obj):Keep S w (w'.alloc o):=h.trans (zF (Joins.below_alloc1 w' o))
theorem drewN (h:Keep S w w') (n:Nat):Keep S w (w'.drewN n):=⟨h.os,h.tape,h.output,h.size,h.block⟩
theorem drew (h:Keep S w w'):Keep S w w'.drew:=⟨h.os,h.tape,h.output,h.size,h.block⟩
theorem mono (h:Keep S w w') (b: ∀i,S i->S2 i):Keep S2 w w':=⟨h.os,h.tape,h.output,h.size,fun i hi h2=>h.block i hi (fun h3=>h2 (b i h3))⟩
theorem blk (h:Keep S w w') (hb:Blk w g T cs) (b: ¬S g):Blk w' g T cs:=hb.of_block (h.block g hb.lt b)
theorem own (h:Keep S w w') (hb:Own w g n cap xs) (b: ¬S g):Own w' g n cap xs:=hb.of_block (h.block g hb.lt b)
theorem ownA (h:Keep S w w') (hb:OwnA w B ad n cap xs) (b: ∀i,S i->i<B):OwnA w' B ad n cap xs:=by
 rcases hb with hb | ⟨g,h1,h2,hb⟩
 exact .inl hb;exact .inr ⟨g,h1,h2,h.own hb (fun e=>by have:=b g e;omega)⟩
end Keep
theorem RowA.toOwn (h:RowA w 3 1 B ad n cap xs):OwnA w B ad n cap xs:=by
 rcases h with h | ⟨g,h1,h2,h3,b,h4,f,i,k,c⟩
 exact .inl h;exact .inr ⟨g,h1,h2,om,b,h4,f,i,om,by rw [Nat.mul_one] at c;exact c⟩
theorem PG:(prog.info? 3).map (fun i=>(i.zero,i.size,i.bytes))=some (some ↑Z0,1,8):=zK
set_option maxRecDepth 100000 in
theorem QF (b off n cap:Nat) (xs:List Int) (w:World) (hn:xs.length=n) (ha:Rd w (some ↑(b,off)) xs) (h1:1<=n) (hl:n<=1048576):
 Calls prog 69 #[.slice (some ↑(b,off)) n cap] w fun e w'=> ∃g c,e= .returned (.slice (some ⟨g,0,none⟩) n c)/\Own w' g n c xs/\w.heap.size<=g/\Below w w w':=by
 have o:=Jh hn;have A:=Jh ha;clear hn ha;have z:=fun v:World=>Lib.run_eql_slice_nil (P:=prog) v (t:=22) (e:=3) (a:=some ↑(b,off)) n cap 0 0 underlying22;go_in;go_wp2_with (at_builtin;refine NZ _ rfl 22 3 1 8 ↑Z0 underlying22 PG rfl dC dC (.tmp 5) (.tmp 6) rfl w 0 _ rfl (RowA.mk (Hq w 3 1) nI) b off n cap xs rfl (oh o) (fun j I=>by obtain ⟨b2,J,h3,h4,E⟩:=(A.Z.alloc (.cells #[] 3)).at (oh o);cases h3;exact E j (oh o)) hl sI ?_;intro u f G l i);have m:=Jh ((Joins.below_alloc1 w (.cells #[] 3)).grown i sI (fun k hk=>by simp [zO] at hk;omega));have q:=Jh l.toOwn;clear l i
 obtain ⟨g,hg,F,hr⟩: ∃g,u=some ⟨g,0,none⟩/\w.heap.size<=g/\Own G g n f xs:=by
  rcases q.Z with ⟨_,h,_,_⟩ | h
  omega;exact h
 subst hg;have C:=Jh hr;clear hr;go_ret;exact ⟨_,_,rfl,C.Z,F,m.Z⟩
structure DSt (w:World) (B D gp gr:Nat) (kad:Option Addr) (kn kcap:Nat) (W H:Int) (n rc:Nat) (dots rs:List Int) (L:Int):Prop where
 hD:B<=D
 hp:B<=gp
 hr:B<=gr
 n1:D≠gp
 n2:D≠gr
 n3:gp≠gr
 box:Blk w D 185 #[.slice kad kn kcap, .int .i64 W, .int .i64 H, .slice (some ⟨gp,0,none⟩) n n, .slice (some ⟨gr,0,none⟩) n rc, .int .i64 L]
 dots:Own w gp n n dots
 rest:Own w gr n rc rs
def kE (D gp gr:Nat) (i:Nat):Prop:=i=D\/i=gp\/i=gr
namespace DSt
variable {w w' : World} {B D gp gr : Nat} {kad : Option Addr} {kn kcap : Nat} {W H : Int} {n rc : Nat} {ds rs : List Int} {L : Int}
theorem below (h:DSt w B D gp gr kad kn kcap W H n rc ds rs L) (hb:Below w w w'):DSt w' B D gp gr kad kn kcap W H n rc ds rs L:=
 ⟨h.hD,h.hp,h.hr,h.n1,h.n2,h.n3,h.box.zA hb,h.dots.below hb h.dots.lt,h.rest.below hb h.rest.lt⟩
theorem alloc (h:DSt w B D gp gr kad kn kcap W H n rc ds rs L) (o:Obj):DSt (w.alloc o) B D gp gr kad kn kcap W H n rc ds rs L:=h.below (Joins.below_alloc1 w o)
theorem drewN (h:DSt w B D gp gr kad kn kcap W H n rc ds rs L) (m:Nat):DSt (w.drewN m) B D gp gr kad kn kcap W H n rc ds rs L:=
 ⟨h.hD,h.hp,h.hr,h.n1,h.n2,h.n3,h.box.drewN m,h.dots.drewN m,h.rest.drewN m⟩
theorem drew (h:DSt w B D gp gr kad kn kcap W H n rc ds rs L):DSt w.drew B D gp gr kad kn kcap W H n rc ds rs L:=h.drewN 1
theorem setDot (h:DSt w B D gp gr kad kn kcap W H n rc ds rs L) (j:Nat) (v:Int):DSt (w.setCell (gp,j) ↑v) B D gp gr kad kn kcap W H n rc (ds.set j v) rs L:=
 ⟨h.hD,h.hp,h.hr,h.n1,h.n2,h.n3,h.box.other (by simp;exact fun e=>h.n1 e.symm) _,h.dots.set j v,h.rest.other (by simp;exact h.n3) _⟩
theorem setRest (h:DSt w B D gp gr kad kn kcap W H n rc ds rs L) (j:Nat) (v:Int):DSt (w.setCell (gr,j) ↑v) B D gp gr kad kn kcap W H n rc ds (rs.set j v) L:=
 ⟨h.hD,h.hp,h.hr,h.n1,h.n2,h.n3,h.box.other (by simp;exact fun e=>h.n2 e.symm) _,h.dots.other (by simp;exact fun e=>h.n3 e.symm) _,h.rest.set j v⟩
theorem setLost (h:DSt w B D gp gr kad kn kcap W H n rc ds rs L) (v:Int):DSt (w.setCell (D,5) ↑v) B D gp gr kad kn kcap W H n rc ds rs v:=
 ⟨h.hD,h.hp,h.hr,h.n1,h.n2,h.n3,h.box.set 5 _,h.dots.other (by simp;exact h.n1) _,h.rest.other (by simp;exact h.n2) _⟩
theorem c6 (h:DSt w B D gp gr kad kn kcap W H n rc ds rs L):D<w.heap.size/\JB w D (.slice kad kn kcap) W H (Jc w (D,3) (.slice ↑gp n n)/\Jc w (D,4) (.slice ↑gr n rc)/\Jc w (D,5) L):=
 ⟨h.box.lt,by rw [h.box.cell];rfl,by rw [h.box.cell];rfl,by rw [h.box.cell];rfl,by rw [h.box.cell];rfl,by rw [h.box.cell];rfl,by rw [h.box.cell];rfl⟩
theorem trio (h:DSt w B D gp gr kad kn kcap W H n rc ds rs L): ∀i,kE D gp gr i->B<=i:=by
 have:=h.hD;have:=h.hp;have:=h.hr;rintro i (rfl | rfl | rfl) <;>assumption
theorem trioLt (h:DSt w B D gp gr kad kn kcap W H n rc ds rs L): ∀i,kE D gp gr i->i<w.heap.size:=by
 have:=h.box.lt;have:=h.dots.lt;have:=h.rest.lt;rintro i (rfl | rfl | rfl) <;>assumption
end DSt
theorem MR (X Y b c:Int) (w:World) (h1:-10000<=X) (h2:X<=10000) (h3:-10000<=Y) (h4:Y<=10000) (f:-10000<=b) (i:b<=10000) (k:-10000<=c) (l:c<=10000):
 Calls prog 181 #[.agg #[X,Y], .agg #[b,c]] w (zR (.agg #[.int .i64 (X+b), .int .i64 (Y+c)]) w):=by
 go_in
 go_wp2
 exact bodyPost_ret (v:= .agg #[.int .i64 (X+b), .int .i64 (Y+c)]) (Jr results181) rfl ⟨rfl,(by exact ((bR.alloc nI _).alloc sI _).alloc sO _)⟩
theorem aF {p:Prt} (h: ¬(0<=x+way*p.dx/\x+way*p.dx<W/\0<=y+p.dy/\y+p.dy<H)):tgt W H x y way p=none:=by unfold tgt;rw [if_neg h]
theorem zDN {p:Prt} (h:0<=x+way*p.dx/\x+way*p.dx<W/\0<=y+p.dy/\y+p.dy<H):tgt W H x y way p=some ((y+p.dy)*W+(x+way*p.dx)).toNat:=by unfold tgt;rw [if_pos h]
def Jl (s side:Int):Bool:=decide (0<=s/\s<side)
theorem YB (h1:0<=s) (h2:s<side):Jl s side=true:=decide_eq_true ⟨h1,h2⟩
theorem VJ (h: ¬(0<=s/\s<side)):Jl s side=false:=decide_eq_false h
theorem ZC (s side:Int) (w:World) (h1:1<=side) (h2:side<=64):
 Calls prog 182 #[s,Z1,side] w fun e w'=>e= .returned (.bool (Jl s side))/\w'=w:=by
 by_cases h:0<=s/\s<side
 rw [YB h.1 h.2];exact (wO s 1 side w h1 h2 om h.1 om).mono (fun e w' h=>⟨h.1,h.2.symm⟩);rw [VJ h];exact (ZN s 1 side w h1 h2 om om).mono (fun e w' h=>⟨h.1,h.2.symm⟩)
def Zg (W H X Y:Int):Option Nat:=if 0<=X/\X<W/\0<=Y/\Y<H then some (Y*W+X).toNat else none
theorem Hy (h: ¬(0<=X/\X<W/\0<=Y/\Y<H)):Zg W H X Y=none:=by unfold Zg;rw [if_neg h]
theorem ng (h:0<=X/\X<W/\0<=Y/\Y<H):Zg W H X Y=some (Y*W+X).toNat:=by unfold Zg;rw [if_pos h]
theorem kE.d:kE D gp gr D:= .inl rfl
theorem kE.p:kE D gp gr gp:= .inr (.inl rfl)
theorem kE.r:kE D gp gr gr:= .inr (.inr rfl)
set_option maxRecDepth 100000 in
theorem MQ (B D gp gr:Nat) (kad:Option Addr) (kn kcap:Nat) (W H:Int) (n rc:Nat) (ds rs:List Int) (L s X Y:Int) (w:World) (hd:DSt w B D gp gr kad kn kcap W H n rc ds rs L)
 (w1:1<=W) (w2:W<=64) (h1:1<=H) (h2:H<=64) (hn:(n:Int)=W*H) (F:n<=1024) (x1:-10000<=X) (x2:X<=10000) (y1:-10000<=Y) (y2:Y<=10000)
 (s1:-1000000<=s) (s2:s<=1000000) (R:-1000000<=L) (U:L<=1000000) (hv: ∀j,Zg W H X Y=some j->-1000000<=rs.getD j 0/\rs.getD j 0<=1000000):
 Calls prog 275 #[.pointer ↑D,s, .agg #[X,Y]] w fun e w'=>e= .returned (.tuple #[])/\DSt w' B D gp gr kad kn kcap W H n rc ds (qD (rs,L) (Zg W H X Y) s).1 (qD (rs,L) (Zg W H X Y) s).2/\Keep (kE D gp gr) w w':=by
 have k:=Jh hd;have q:=Jh hn;have M:=hd.box.lt;obtain ⟨J,c0,c1,c2,c3,c4,c5⟩:=hd.c6;have N:=hd.box.frozen 5;clear hd hn;by_cases o:0<=X/\X<W
 case neg=>
  rw [Hy (fun h=>o ⟨h.1,h.2.1⟩)];have A:=Jh o;clear o hv;go_in;go_wp2_with fail
  go_quiet ((go_at_call 182;refine Calls.quiet_of_same ((ZN X 1 W _ w1 w2 om (oh A)).mono (fun e w' h=>⟨h.1,h.2.symm⟩))))
  go_wp2_with fail;refine bodyPost_ret (results_none rfl _ _ _) rfl ?_;exact ⟨rfl,((k.Z.alloc _).drewN _).setLost (L+s),(((Keep.refl (kE D gp gr) w).alloc _).drewN _).set (show kE D gp gr D from kE.d) _⟩
 obtain ⟨b,c⟩:=o;by_cases m:0<=Y/\Y<H
 case neg=>
  rw [Hy (fun h=>m ⟨h.2.2.1,h.2.2.2⟩)];have A:=Jh m;have k1:=YB b c;have k2:=VJ m;clear m hv;go_in;go_wp2_with fail
  go_quiet ((go_at_call 182;exact Calls.quiet_of_same (ZC _ _ _ om om)))
  go_wp2_with fail;refine bodyPost_ret (results_none rfl _ _ _) rfl ?_;exact ⟨rfl,((k.Z.alloc _).drewN _).setLost (L+s),(((Keep.refl (kE D gp gr) w).alloc _).drewN _).set (show kE D gp gr D from kE.d) _⟩
 obtain ⟨f,i⟩:=m;rw [ng ⟨b,c,f,i⟩] at hv⊢;obtain ⟨G,z⟩:=wF b c f i;obtain ⟨V,E⟩: ∃V,Y*W=V:=⟨_,rfl⟩
 rw [E] at G z hv⊢;have r3:V+X<n:=by rw [q.Z];exact z
 obtain ⟨j,P⟩: ∃j:Nat,V+X=(j:Int):=⟨(V+X).toNat,om⟩
 have u:j<n:=om;have l:(V+X).toNat=j:=om;rw [l] at hv⊢;obtain ⟨I,v2⟩:=hv j rfl;have g1:=k.Z.rest.cell u;have g2:=k.Z.rest.frozen j;have O:=k.Z.rest.lt;obtain ⟨Q,t⟩: ∃Q,rs.getD j 0=Q:=⟨_,rfl⟩
 rw [t] at g1 I v2;have C:=Jh t;have u1:IntKind.i64.wrap V=V:=Yc _ om;have u2:IntKind.i64.wrap (j:Int)=(j:Int):=Yc _ om;have u3:IntKind.i64.wrap (Q+s)=Q+s:=Yc _ om;have u4:(0:Int)<=(j:Int):=om;have u5:(j:Int)<(n:Int):=om;have k1:=YB b c;have k2:=YB f i;clear t z l hv;go_in;go_wp2_with fail
 go_quiet ((go_at_call 182;exact Calls.quiet_of_same (ZC _ _ _ om om)))
 go_wp2
 go_region
 go_end0
 refine ⟨rfl,?_⟩;simp only [qD,C.Z];exact ⟨((k.Z.alloc _).drewN _).setRest j (Q+s),(((Keep.refl (kE D gp gr) w).alloc _).drewN _).set (show kE D gp gr gr from kE.r) _⟩
theorem zAB {a n:Int} (hn:1<=n):-((-a+n - 1)/n)=a/n:=by
 have h1:=Int.emod_add_mul_ediv a n;have h2:=Yg a (show n≠0 by omega);have h3:=Ye a (show 0<n by omega);have e:-a+n - 1=(n - 1 - a % n)+n*(-(a/n)):=by rw [Int.mul_neg];omega
 rw [e,Int.add_mul_ediv_left _ _ om,Int.ediv_eq_zero_of_lt om om];omega
theorem Ef (a n:Int) (w:World) (h1:1<=n) (h2:n<=100000) (h3:-100000000<=a) (h4:a<=100000000):
 Calls prog 295 #[a,n] w fun e w'=>e= .returned (.int .i64 (a/n))/\w=w':=by
 have b: ¬n=0:=om;have z2:(n==0)=false:=sO;by_cases ha:a<0
 . have b1:0<=(-a+n - 1)/n:=Yw om om
   have b2:(-a+n - 1)/n<=-a+n - 1:=Int.ediv_le_self _ om;go_in
   go_wp2
   go_ret;exact ⟨yh (zAB h1),rfl⟩
 have b1:0<=a/n:=Yw om om;have b2:a/n<=a:=Int.ediv_le_self _ om;go_in
 go_wp2
 go_ret;exact ⟨rfl,rfl⟩
theorem mo (b:1<=W):(V - V % W).tdiv W=V/W:=by
 have h1:=Int.emod_add_mul_ediv V W;rw [show V - V % W=W*(V/W) by omega];exact Int.mul_tdiv_cancel_left _ om
def WI (w:World) (xs:List Int) (e:Ending) (w':World):Prop:=
 ∃a n c,e= .returned (.slice a n c)/\OwnA w' w a n c xs/\n<=1048576/\Below w w w'
theorem Oh {f:Nat->Int} {ks:List Prt} (hn:ks.length=n) (h1:1<=n) (hv:v=(gen n (kZ ks W e)).getD 0 0+(e - kG ks W e n)):(gen n (kZ ks W e)).set 0 v=yR ks W e:=by
 subst hv;rw [yY _ _ _ om];unfold yR;rw [hn]
theorem Nn (ad:Option Addr) (n cap:Nat) (ks:List Prt) (W e:Int) (w:World) (hn:ks.length=n) (ha:Rd w ad (flat ks)) (h1:1<=n) (h2:n<=12) (hk:jL ks n=true) (hW:W=yL ks n) (q:-1000000<=e) (t:e<=1000000):
 Calls prog 151 #[.slice ad n cap,W,e] w (WI w (yR ks (yL ks n) e)):=by
 obtain ⟨HN,HA,R,m⟩:=JG hn ha hk hW;obtain ⟨w1,w2⟩:=Xf hk n nI;have J:1<=W:=om;have b8:W<=1200:=om;have z1: ¬W=0:=om;have z2:(W==0)=false:=sO;clear hn ha hk hW w1 w2;go_in
 go_wp2
 go_loopw [7,8,17] (fun o r i wr=> ∃(k:Nat) (l:Option Addr) (c:Nat),k<=n/\i=↑k/\o= .slice l k c/\r= .int .i64 (e - kG ks W e k)/\OwnA wr w l k c (gen k (kZ ks W e))/\Below w w wr) (fun _ _ i _=>n - (intOf i).toNat)
 exact ⟨0,_,_,nZ,rfl,rfl,by simp [kG],by first | exact OwnA.mk ⟨rfl,_,heap_alloc_new w _,nI,by unfold maxLen;omega,rfl,rfl⟩ nI | exact oN,by first | exact nJ | exact bR⟩;obtain ⟨k,l,c,hk,rfl,rfl,rfl,ho,hw⟩:=hrel;have U:=Jh ho;have G:=Jh hw;clear ho;have sw:=Jt (e:=e) R.Z q t k hk;rw [<-m.Z] at sw;by_cases b6:k<n
 . obtain ⟨ba,oa,b4,c4,c0,c1,c2⟩:=wm (HA.Z.below hw) (k:=k) (oh HN)
   subst b4;obtain ⟨p,hp⟩: ∃p,prt ks k=p:=⟨_,rfl⟩
   obtain ⟨q1,q2,P,q4⟩:=XA (e:=e) R.Z k b6 q t;have sq:=Jt (e:=e) R.Z q t (k+1) om;rw [<-m.Z] at P q4 sq;have F:Hd (kG ks W e (k+1)=kG ks W e k+kZ ks W e k):=Jh rfl;have E:Hd (kZ ks W e k=e*(prt ks k).wt/W):=Jh rfl;obtain ⟨Q,hQ⟩: ∃Q,kZ ks W e k=Q:=⟨_,rfl⟩
   rw [hp] at c0 c1 c2 q1 q2 E;rw [hQ] at F E P q4;rw [F.Z] at sq;obtain ⟨X,Y,T⟩:=p;dsimp only at c0 c1 c2 q1 q2 E;obtain ⟨S,C⟩: ∃S,kG ks W e k=S:=⟨_,rfl⟩
   rw [C] at sw sq F⊢;obtain ⟨V,A⟩: ∃V,e*T=V:=⟨_,rfl⟩
   obtain ⟨M,hM⟩: ∃M,V % W=M:=⟨_,rfl⟩
   have m1:=Yg V z1;have m2:=Ye V (show 0<W by omega);rw [A] at q1 q2 E;have hD:(V - M).tdiv W=Q:=by rw [<-hM,mo J];exact E.Z.symm
   rw [hM] at m1 m2;have b1:=Jh hQ;have b7:=Jh C;clear hp hw hQ E C;go_wp2_with fail;refine (Xr V W _ J om).mono ?_;rintro e2 w3 ⟨rfl,rfl⟩;go_wp2_with (at_builtin;refine qQ _ rfl (.tmp 32) (.tmp 34) rfl w k c l _ rfl ((U.Z.alloc _).alloc _) (wr.heap.size+1) Q rfl (by go_simp) om (oS G.Z.size) ?_;intro b3 I w5 O N);have b2:=Jh (((G.Z.alloc G.Z.size (.cells #[X,Y,T] 124)).alloc (oS G.Z.size) (.cells #[.int .i64 Q] 3)).grown N (oS G.Z.size) (fun b b5=>by have:=U.Z.bd b b5;omega));have b0:=Jh O;clear O N A hM hD;go_roundw
   . exact ⟨k+1,b3,I,om,by go_num,rfl,by rw [F.Z];go_num,by rw [<-vv,b1.Z];exact b0.Z,b2.Z⟩
   exact Jm
 obtain rfl:k=n:=om
 obtain ⟨g,hg,hB,u⟩: ∃g,l=some ⟨g,0,none⟩/\w.heap.size<=g/\Own wr g k c (gen k (kZ ks W e)):=by
  rcases U.Z with ⟨_,h,_,_⟩ | h
  omega;exact h
 subst hg;obtain ⟨V,A⟩: ∃V,(gen k (kZ ks W e)).getD 0 0=V:=⟨_,rfl⟩
 have q0:=u.cell (j:=0) om;have f0:=u.frozen 0;rw [A] at q0;have HV:=Jh A;have P:=(XA (e:=e) R.Z 0 om q t).2.2;rw [<-m.Z] at P;rw [yY _ _ _ om] at A;rw [A] at P;have z:=Jh (u.set 0 (V+(e - kG ks W e k)));obtain ⟨S,C⟩: ∃S,kG ks W e k=S:=⟨_,rfl⟩
 have F:=Jh C;rw [C] at sw z⊢;clear hw A u C
 go_wp2
 go_ret;refine ⟨_,_,_,rfl,OwnA.mk ?_ hB,om,G.Z.setCell hB _⟩;have h:=z.Z;rw [Oh (f:=kZ ks W e) HN.Z h1 (by rw [HV.Z,F.Z])] at h;rw [<-m.Z];exact h
theorem Gf (ad:Option Addr) (n cap:Nat) (ks:List Prt) (e:Int) (w:World) (hn:ks.length=n) (ha:Rd w ad (flat ks)) (I:n<=cap) (hk:kP ks=true) (l:-1000000<=e) (m:e<=1000000):
 Calls prog 274 #[.slice ad n cap,e] w (WI w (yR ks (yL ks n) e)):=by
 obtain ⟨h1,h2,C⟩:=XZ hn hk;obtain ⟨P,R,b1,O⟩:=JG hn ha hk C;obtain ⟨w1,w2⟩:=Xf C n nI;obtain ⟨W,hW⟩: ∃W,yL ks n=W:=⟨_,rfl⟩
 have b:Hd (W=yL ks n):=Jh hW.symm;rw [hW] at w1 w2⊢;have b3:1<=W:=om;have b6:W<=1200:=om;have z1: ¬W=0:=om;have z2:(W==0)=false:=sO;clear hn ha hk C hW w1 w2;go_in;go_wp2_with fail;refine (Na _ _ _ ks _ P.Z (by exact R.Z) om I).mono ?_;rw [Kw P.Z b1.Z,<-b.Z];rintro e2 w3 ⟨rfl,hb⟩;have HB:=Jh hb;have U:=Jh (R.Z.below hb);clear hb;go_wp2_with (at_make;refine uE _ rfl _ _ rfl .i64 .i64 n n n rfl rfl rfl rfl om ?_;intro M hM);obtain ⟨u,G,c⟩:=JF (hM.own w3) (zM HB.Z (.cells M 3)) HB.Z.size;obtain ⟨wo,J⟩:=zN (w3.alloc (.cells M 3):World);rw [<-J] at u G⊢;obtain ⟨g,hg⟩: ∃g,w3.heap.size=g:=⟨_,rfl⟩
 rw [hg] at u c⊢;clear J hM U
 go_loopw [7,18] (fun r i wr=> ∃(k:Nat),k<=n/\i=↑k/\r= .int .i64 (e - kG ks W e k)/\Own wr g n n (zy (gen n (kZ ks W e)) (List.replicate n 0) k)/\Below w w wr) (fun _ i _=>n - (intOf i).toNat)
 exact ⟨0,nZ,rfl,by simp [kG],by rw [xB];exact u.Z,G.Z⟩;obtain ⟨k,hk,rfl,rfl,t,hw⟩:=hrel;have HO:=Jh t;have HX:=Jh hw;have sw:=Jt (e:=e) O.Z l m k hk;rw [<-b.Z] at sw;by_cases o:k<n
 . obtain ⟨ba,oa,b4,b7,c0,c1,c2⟩:=wm (R.Z.below hw) (k:=k) (oh P)
   subst b4;obtain ⟨p,hp⟩: ∃p,prt ks k=p:=⟨_,rfl⟩
   obtain ⟨q1,q2,N,q4⟩:=XA (e:=e) O.Z k o l m;have sq:=Jt (e:=e) O.Z l m (k+1) om;rw [<-b.Z] at N q4 sq;have F:Hd (kG ks W e (k+1)=kG ks W e k+kZ ks W e k):=Jh rfl;have E:Hd (kZ ks W e k=e*(prt ks k).wt/W):=Jh rfl;obtain ⟨Q,hQ⟩: ∃Q,kZ ks W e k=Q:=⟨_,rfl⟩
   rw [hp] at c0 c1 c2 q1 q2 E;rw [hQ] at F E N q4;rw [F.Z] at sq;obtain ⟨X,Y,T⟩:=p;dsimp only at c0 c1 c2 q1 q2 E;obtain ⟨S,z⟩: ∃S,kG ks W e k=S:=⟨_,rfl⟩
   rw [z] at sw sq F⊢;obtain ⟨V,A⟩: ∃V,e*T=V:=⟨_,rfl⟩
   rw [A] at q1 q2 E;have hD:V/W=Q:=E.Z.symm;have hs:=t.set k Q;rw [yx (gen n (kZ ks W e)) _ k _ (by rw [zk];exact o) sO (by rw [yY _ _ _ o];exact hQ)] at hs;have b2:=Jh hs;have g2:=t.cell o;have g3:=t.frozen k;have gl:=t.lt;have b5:=Jh z;have b0:=Jh hD;clear hp hw hQ E z t hs hD;go_wp2_with fail;refine (Ef V W _ b3 om om om).mono ?_;rw [b0.Z];rintro e2 w4 ⟨rfl,rfl⟩
   go_wp2
   go_roundw
   . exact ⟨k+1,om,by go_num,by rw [F.Z];go_num,b2.Z.alloc _,zM (HX.Z.setCell c.Z _) _⟩
   exact Jm
 obtain rfl:k=n:=om;have hf:=t;rw [jC _ _ _ (zk _ _) sI] at hf;obtain ⟨V,A⟩: ∃V,(gen k (kZ ks W e)).getD 0 0=V:=⟨_,rfl⟩
 have q0:=hf.cell (j:=0) om;have f0:=hf.frozen 0;rw [A] at q0;have HV:=Jh A;have N:=(XA (e:=e) O.Z 0 om l m).2.2;rw [<-b.Z] at N;rw [yY _ _ _ om] at A;rw [A] at N;have q:=Jh (hf.set 0 (V+(e - kG ks W e k)));obtain ⟨S,z⟩: ∃S,kG ks W e k=S:=⟨_,rfl⟩
 have F:=Jh z;rw [z] at sw q⊢;clear hw A t hf z
 go_wp2
 go_ret;refine ⟨_,_,_,rfl,OwnA.mk ?_ c.Z,om,HX.Z.setCell c.Z _⟩;have h:=q.Z;rw [Oh (f:=kZ ks W e) P.Z h1 (by rw [HV.Z,F.Z])] at h;exact h
def uf (ks:List Prt) (W H X Y way:Int) (q:Nat):Option Nat:=Zg W H (X+way*(prt ks q).dx) (Y+(prt ks q).dy)
theorem WS (h:128<=v):ZK v=1/\yN v=v - 255:=by unfold yN ZK;rw [if_pos h];omega
theorem gu (h: ¬128<=v):ZK v=0/\yN v=v:=by unfold yN ZK;rw [if_neg h];omega
theorem FM (h:xs.getD j 0=v) (b:j<xs.length):xs.set j v=xs:=by
 apply List.ext_getElem?;intro i;rw [List.getElem?_set];by_cases e:j=i
 subst e;rw [if_pos rfl,if_pos b,Ya b];simpa [List.getD,b] using h.symm;rw [if_neg e]
set_option maxRecDepth 100000 in
theorem iO (B D gp gr:Nat) (kad:Option Addr) (kn kcap:Nat) (W H:Int) (n rc:Nat) (ds rs:List Int) (L X Y way v:Int) (j:Nat) (ks:List Prt) (w:World) (hd:DSt w B D gp gr kad kn kcap W H n rc ds rs L)
 (e7:ks.length=kn) (e8:kP ks=true) (f6:kn<=kcap) (g0: ∀u,Keep (kE D gp gr) w u->Rd u kad (flat ks))
 (w1:1<=W) (w2:W<=64) (h1:1<=H) (h2:H<=64) (hn:(n:Int)=W*H) (g3:n<=1024) (x1:0<=X) (x2:X<W) (y1:0<=Y) (y2:Y<H) (d2:way=1\/way=-1)
 (hj:Y*W+X=(j:Int)) (hv:rs.getD j 0=v) (v1:-300000<=v) (v2:v<=300000) (b6:ds.getD j 0=0)
 (hg: ∀k,k<kn->-300000<=(kT (uf ks W H X Y way) (yR ks (yL ks kn) (yN v)) (rs.set j (yN v),L) k).2/\(kT (uf ks W H X Y way) (yR ks (yL ks kn) (yN v)) (rs.set j (yN v),L) k).2<=300000/\ ∀i,uf ks W H X Y way k=some i->-300000<=(kT (uf ks W H X Y way) (yR ks (yL ks kn) (yN v)) (rs.set j (yN v),L) k).1.getD i 0/\(kT (uf ks W H X Y way) (yR ks (yL ks kn) (yN v)) (rs.set j (yN v),L) k).1.getD i 0<=300000):
 Calls prog 241 #[.pointer ↑D, .agg #[X,Y],way] w fun e w'=>e= .returned (.tuple #[])/\DSt w' B D gp gr kad kn kcap W H n rc (ds.set j (ZK v)) (kT (uf ks W H X Y way) (yR ks (yL ks kn) (yN v)) (rs.set j (yN v),L) kn).1 (kT (uf ks W H X Y way) (yR ks (yL ks kn) (yN v)) (rs.set j (yN v),L) kn).2/\Keep (kE D gp gr) w w':=by
 obtain ⟨k1,k2,k3⟩:=XZ e7 e8;obtain ⟨o,f2,HK,c8,f4⟩:=JI e7 e8 k3 g0 hn;obtain ⟨HG,HD,HV,f5⟩:=JG hg hd hv hd.trioLt;obtain ⟨r1,r2⟩:=wF x1 x2 y1 y2;have r3:Y*W+X<n:=by rw [hn];exact r2
 obtain ⟨V,hV⟩: ∃V,Y*W=V:=⟨_,rfl⟩
 rw [hV] at r1 r3 hj;have d1:j<n:=om;have dl:=hd.box.lt;have rl:=hd.rest.lt;have pl:=hd.dots.lt;have N1:D≠gp:=hd.n1;have N2:D≠gr:=hd.n2;have N3:gp≠gr:=hd.n3;obtain ⟨_,c0,E,F,c3,c4,c5⟩:=hd.c6;have g1:=hd.rest.cell d1;have g2:=hd.rest.frozen j;have p1:=hd.dots.cell d1;have p2:=hd.dots.frozen j;rw [hv] at g1;rw [b6] at p1;have g4:=Jh hd.dots.len;have f1:=Jh b6;have u1:IntKind.i64.wrap V=V:=Yc _ om;have u2:IntKind.i64.wrap (j:Int)=(j:Int):=Yc _ om;clear hd e7 e8 k3 g0 hn hg r2 hv b6;by_cases b4:128<=v
 case pos=>
  obtain ⟨e1,e2⟩:=WS b4;rw [e1];rw [e2] at HG⊢;clear e1 e2;go_in;go_wp2_with fail
  go_quiet (fail)
  go_wp2_with fail;obtain ⟨b,t,KB⟩:=JF ((((HD.Z.alloc (.cells #[X,Y] 176)).drewN nq).setDot j 1).setRest j (v - 255)) (((((Keep.refl (kE D gp gr) w).alloc (.cells #[X,Y] 176)).drewN nq).set (a:=↑(gp,j)) (show kE D gp gr gp from kE.p) ↑Z1).set (a:=↑(gr,j)) (show kE D gp gr gr from kE.r) (.int .i64 (v - 255))) ((((Blk.new w 176 #[X,Y]).drewN nq).other (a:=↑(gp,j)) sO ↑Z1).other (a:=↑(gr,j)) sO (.int .i64 (v - 255)));obtain ⟨wo,c1⟩:=zN (((((w.alloc (.cells #[X,Y] 176)).drewN nq).setCell (gp,j) ↑Z1).setCell (gr,j) (.int .i64 (v - 255))):World);rw [<-c1] at b t KB⊢;have e3:-1000000<=v - 255:=om;have e4:v - 255<=1000000:=om;clear c1 u1 u2 hj;clear c0 E F c3 c4 c5 g1 g2 p1 p2;obtain ⟨R,c0,E,F,c3,c4,c5⟩:=b.Z.c6;have f0:=b.Z.rest.lt;have g1:=b.Z.rest.cell d1;have d7:=Jh b.Z.rest.len;rw [vS _ _ _ _ (by have:=d7.Z;simp at this;omega),if_pos rfl] at g1;have u2:IntKind.i64.wrap (j:Int)=(j:Int):=Yc _ om;have u4:(0:Int)<=(j:Int):=om;have u5:(j:Int)<(n:Int):=om
  go_region_held3 (fun u=>Jc u D (.slice kad kn kcap)/\Jc u (D,4) (.slice ↑gr n rc)/\Jc u (gr,j) (.int .i64 (v - 255)))
   (first | exact ⟨c0,c4,g1⟩ | exact ⟨(hb.cell R).trans c0,(hb.cell R).trans c4,(hb.cell f0).trans g1⟩)
   (first
    | (go_at_call 274;((with_reducible refine (Gf _ _ _ ks _ _ o.Z (by exact (c8.Z _ t.Z.drew)) f6 f2.Z e3 e4).mono ?_);rintro e w3 ⟨a,m,c,rfl,ho,hm,hb⟩)))
  clear c0 E F c3 c4 c5 g1;have HO:=Jh ho
  obtain rfl:m=kn:=by
   have h:=HO.Z.len;rw [UQ,o.Z] at h;exact h.symm
  obtain ⟨d3,d5,e0,d8⟩:=JG (b.Z.drew.below hb) (t.Z.drew.trans (Keep.zF hb)) (KB.Z.drew.zA hb) (show∀i,kE D gp gr i->i<wo.drew.heap.size from b.Z.drew.trioLt);have P:Hd ((yR ks (yL ks m) (v - 255)).length=m):=Jh HO.Z.len;clear ho hb hm
  go_wp2
  go_loopw [58] (fun i wr=> ∃k:Nat,k<=m/\i= .int .i64 k/\DSt wr B D gp gr kad m kcap W H n rc (ds.set j 1) (kT (uf ks W H X Y way) (yR ks (yL ks m) (v - 255)) (rs.set j (v - 255),L) k).1 (kT (uf ks W H X Y way) (yR ks (yL ks m) (v - 255)) (rs.set j (v - 255),L) k).2/\Keep (kE D gp gr) w3 wr) (fun i _=>m - (intOf i).toNat)
  exact ⟨0,nZ,rfl,d3.Z,Keep.refl _ _⟩;obtain ⟨k,hk,rfl,b7,A⟩:=hrel;obtain ⟨f,q,N⟩:=JF b7 A (d5.Z.trans A);clear b7 A;by_cases C:k<m
  . obtain ⟨ba,oa,e5,g6,b3⟩:=(q.Z.ownA HO.Z d8.Z).rd.at (oh P)
    subst e5;have a1:=b3 k (oh P);clear b3;obtain ⟨bk,ok,e6,f8,q0,q1,q2⟩:=wm (c8.Z _ N.Z) (k:=k) (oh o);subst e6;obtain ⟨g5,d0,_,_,_,_,_⟩:=f.Z.c6;have kb:=q.Z.blk e0.Z (fun h=>by have:=f5.Z _ h;omega);have b0:=kb.cell 0;have b1:=kb.cell 1;have bl:=kb.lt;simp only [Yi,List.getElem?_cons_zero,List.getElem?_cons_succ] at b0 b1;obtain ⟨S,hS⟩: ∃S,(yR ks (yL ks m) (v - 255)).getD k 0=S:=⟨_,rfl⟩
    have sb:=FN (e:=(v - 255)) o.Z k1 k2 HK.Z k C;obtain ⟨U,b2,gv⟩:=HG.Z k C;have l:Hd (uf ks W H X Y way k=Zg W H (X+way*(prt ks k).dx) (Y+(prt ks k).dy)):=Jh rfl;have pb:=wC (qz HK.Z C).1;obtain ⟨p,hp⟩: ∃p,prt ks k=p:=⟨_,rfl⟩
    rw [hp] at q0 q1 q2 l pb;rw [hS] at a1 sb;obtain ⟨PX,Q,PT⟩:=p;dsimp only at q0 q1 q2 l pb;obtain ⟨g7,g8,h0,h3,_⟩:=pb;obtain ⟨M,hM⟩: ∃M,way*PX=M:=⟨_,rfl⟩
    have m1:-4<=M/\M<=4:=by rcases d2 with h | h <;>(rw [h] at hM;omega)
    obtain ⟨m1,m2⟩:=m1;rw [hM] at l;have HS:=Jh hS;have J:Hd (kT (uf ks W H X Y way) (yR ks (yL ks m) (v - 255)) (rs.set j (v - 255),L) (k+1)=qD (kT (uf ks W H X Y way) (yR ks (yL ks m) (v - 255)) (rs.set j (v - 255),L) k) (Zg W H (X+M) (Y+Q)) S):=Jh (by rw [kT,hS,l.Z]);rw [l.Z] at gv;obtain ⟨G,hG⟩: ∃G,kT (uf ks W H X Y way) (yR ks (yL ks m) (v - 255)) (rs.set j (v - 255),L) k=G:=⟨_,rfl⟩
    rw [hG] at f J U b2 gv;obtain ⟨GR,GL⟩:=G;dsimp only at f U b2 gv;have GV:=Jh gv;clear gv hp hS hG kb;have s1:-1000000<=S:=om;have s2:S<=1000000:=om;go_wp2_with fail;refine (MR X Y M Q _ om om om om om om om om).mono ?_;rintro e w4 ⟨rfl,z⟩;have I:=Jh ((f.Z.alloc (.cells #[PX,Q,PT] 124)).below z);have O:=Jh ((q.Z.alloc (.cells #[PX,Q,PT] 124)).trans (Keep.zF z));clear z hM a1 q0 q1 q2 d0 b0 b1;go_wp2_with fail;refine (MQ B D gp gr _ m kcap W H n rc _ GR GL S (X+M) (Y+Q) _ I.Z w1 w2 h1 h2 f4.Z g3 om om om om s1 s2 om om (fun i hi=>by have:=GV.Z i hi;omega)).mono ?_;rintro e w5 ⟨rfl,b5,b8⟩;have d4:=Jh b5;have d6:=Jh (O.Z.trans b8);clear b5 b8
    go_wp2
    go_roundw
    . exact ⟨k+1,om,by go_num,by rw [J.Z];exact d4.Z,d6.Z⟩
    exact Jm
  obtain rfl:m=k:=om
  go_wp2
  go_end0
  exact ⟨rfl,f.Z,N.Z⟩
 obtain ⟨e1,e2⟩:=gu b4;rw [e1];rw [e2] at HG⊢;clear e1 e2;go_in;go_wp2_with fail
 go_quiet (fail)
 clear u1 u2 hj;go_wp2_with fail
 have b:Hd (DSt ((w.alloc (.cells #[X,Y] 176)).drewN nq) B D gp gr kad kn kcap W H n rc (ds.set j 0) (rs.set j v) L):=Jh (by
  rw [FM f1.Z (oh g4),FM HV.Z (og HD.Z.rest.len)]
  exact (HD.Z.alloc _).drewN nq)
 have t:=Jh (((Keep.refl (kE D gp gr) w).alloc (.cells #[X,Y] 176)).drewN nq);have KB:=Jh ((Blk.new w 176 #[X,Y]).drewN nq);obtain ⟨wo,c1⟩:=zN (((w.alloc (.cells #[X,Y] 176)).drewN nq):World);rw [<-c1] at b t KB⊢;have e3:-1000000<=v:=om;have e4:v<=1000000:=om;clear c1;clear c0 E F c3 c4 c5 g1 g2 p1 p2;obtain ⟨R,c0,E,F,c3,c4,c5⟩:=b.Z.c6;have f0:=b.Z.rest.lt;have g1:=b.Z.rest.cell d1;have d7:=Jh b.Z.rest.len;rw [vS _ _ _ _ (by have:=d7.Z;simp at this;omega),if_pos rfl] at g1;have u2:IntKind.i64.wrap (j:Int)=(j:Int):=Yc _ om;have u4:(0:Int)<=(j:Int):=om;have u5:(j:Int)<(n:Int):=om
 go_region_held3 (fun u=>Jc u D (.slice kad kn kcap)/\Jc u (D,4) (.slice ↑gr n rc)/\Jc u (gr,j) v)
  (first | exact ⟨c0,c4,g1⟩ | exact ⟨(hb.cell R).trans c0,(hb.cell R).trans c4,(hb.cell f0).trans g1⟩)
  (first
   | (go_at_call 274;((with_reducible refine (Gf _ _ _ ks _ _ o.Z (by exact (c8.Z _ t.Z.drew)) f6 f2.Z e3 e4).mono ?_);rintro e w3 ⟨a,m,c,rfl,ho,hm,hb⟩)))
 clear c0 E F c3 c4 c5 g1;have HO:=Jh ho
 obtain rfl:m=kn:=by
  have h:=HO.Z.len;rw [UQ,o.Z] at h;exact h.symm
 obtain ⟨d3,d5,e0,d8⟩:=JG (b.Z.drew.below hb) (t.Z.drew.trans (Keep.zF hb)) (KB.Z.drew.zA hb) (show∀i,kE D gp gr i->i<wo.drew.heap.size from b.Z.drew.trioLt);have P:Hd ((yR ks (yL ks m) v).length=m):=Jh HO.Z.len;clear ho hb hm
 go_wp2
 go_loopw [58] (fun i wr=> ∃k:Nat,k<=m/\i= .int .i64 k/\DSt wr B D gp gr kad m kcap W H n rc (ds.set j 0) (kT (uf ks W H X Y way) (yR ks (yL ks m) v) (rs.set j v,L) k).1 (kT (uf ks W H X Y way) (yR ks (yL ks m) v) (rs.set j v,L) k).2/\Keep (kE D gp gr) w3 wr) (fun i _=>m - (intOf i).toNat)
 exact ⟨0,nZ,rfl,d3.Z,Keep.refl _ _⟩;obtain ⟨k,hk,rfl,b7,A⟩:=hrel;obtain ⟨f,q,N⟩:=JF b7 A (d5.Z.trans A);clear b7 A;by_cases C:k<m
 . obtain ⟨ba,oa,e5,g6,b3⟩:=(q.Z.ownA HO.Z d8.Z).rd.at (oh P)
   subst e5;have a1:=b3 k (oh P);clear b3;obtain ⟨bk,ok,e6,f8,q0,q1,q2⟩:=wm (c8.Z _ N.Z) (k:=k) (oh o);subst e6;obtain ⟨g5,d0,_,_,_,_,_⟩:=f.Z.c6;have kb:=q.Z.blk e0.Z (fun h=>by have:=f5.Z _ h;omega);have b0:=kb.cell 0;have b1:=kb.cell 1;have bl:=kb.lt;simp only [Yi,List.getElem?_cons_zero,List.getElem?_cons_succ] at b0 b1;obtain ⟨S,hS⟩: ∃S,(yR ks (yL ks m) v).getD k 0=S:=⟨_,rfl⟩
   have sb:=FN (e:=v) o.Z k1 k2 HK.Z k C;obtain ⟨U,b2,gv⟩:=HG.Z k C;have l:Hd (uf ks W H X Y way k=Zg W H (X+way*(prt ks k).dx) (Y+(prt ks k).dy)):=Jh rfl;have pb:=wC (qz HK.Z C).1;obtain ⟨p,hp⟩: ∃p,prt ks k=p:=⟨_,rfl⟩
   rw [hp] at q0 q1 q2 l pb;rw [hS] at a1 sb;obtain ⟨PX,Q,PT⟩:=p;dsimp only at q0 q1 q2 l pb;obtain ⟨g7,g8,h0,h3,_⟩:=pb;obtain ⟨M,hM⟩: ∃M,way*PX=M:=⟨_,rfl⟩
   have m1:-4<=M/\M<=4:=by rcases d2 with h | h <;>(rw [h] at hM;omega)
   obtain ⟨m1,m2⟩:=m1;rw [hM] at l;have HS:=Jh hS;have J:Hd (kT (uf ks W H X Y way) (yR ks (yL ks m) v) (rs.set j v,L) (k+1)=qD (kT (uf ks W H X Y way) (yR ks (yL ks m) v) (rs.set j v,L) k) (Zg W H (X+M) (Y+Q)) S):=Jh (by rw [kT,hS,l.Z]);rw [l.Z] at gv;obtain ⟨G,hG⟩: ∃G,kT (uf ks W H X Y way) (yR ks (yL ks m) v) (rs.set j v,L) k=G:=⟨_,rfl⟩
   rw [hG] at f J U b2 gv;obtain ⟨GR,GL⟩:=G;dsimp only at f U b2 gv;have GV:=Jh gv;clear gv hp hS hG kb;have s1:-1000000<=S:=om;have s2:S<=1000000:=om;go_wp2_with fail;refine (MR X Y M Q _ om om om om om om om om).mono ?_;rintro e w4 ⟨rfl,z⟩;have I:=Jh ((f.Z.alloc (.cells #[PX,Q,PT] 124)).below z);have O:=Jh ((q.Z.alloc (.cells #[PX,Q,PT] 124)).trans (Keep.zF z));clear z hM a1 q0 q1 q2 d0 b0 b1;go_wp2_with fail;refine (MQ B D gp gr _ m kcap W H n rc _ GR GL S (X+M) (Y+Q) _ I.Z w1 w2 h1 h2 f4.Z g3 om om om om s1 s2 om om (fun i hi=>by have:=GV.Z i hi;omega)).mono ?_;rintro e w5 ⟨rfl,b5,b8⟩;have d4:=Jh b5;have d6:=Jh (O.Z.trans b8);clear b5 b8
   go_wp2
   go_roundw
   . exact ⟨k+1,om,by go_num,by rw [J.Z];exact d4.Z,d6.Z⟩
   exact Jm
 obtain rfl:m=k:=om
 go_wp2
 go_end0
 exact ⟨rfl,f.Z,N.Z⟩
end Go.Proofs.YtlenfgdjdianiaaGreatDoor
