/- Facts on which this claim rests, 16. -/
import Derived.Test.YtlenfgdjdianiaaGreatDoorF15
set_option linter.all false
set_option maxHeartbeats 6400000
namespace Go.Proofs.YtlenfgdjdianiaaGreatDoor
open Go.RowKit Tq Go.Proofs.Tryz
variable {B D T cap g gp gr j n : Nat} {H V W X Y e s side v way x y : Int} {S2 : Nat → Prop} {a : Addr} {ad : Option Addr} {cs : Array Value} {w : World} {xs : List Int}
structure Keep (S:Nat->Prop) (w w':World):Prop where
 os:w'.os=w.os
 tape:w'.tape=w.tape
 output:w'.output=w.output
 size:w.heap.size<=w'.heap.size
 block: ∀i,i<w.heap.size-> ¬S i->w'.heap[i]? =w.heap[i]?
namespace Keep
variable {S : Nat → Prop} {w w' w2 : World}
theorem refl (S:Nat->Prop) (w:World):Keep S w w:=⟨rfl,rfl,rfl,nI,fun _ _ _=>rfl⟩
theorem trans (h:Keep S w w') (k:Keep S w' w2):Keep S w w2:=
 ⟨k.os.trans h.os,k.tape.trans h.tape,k.output.trans h.output,Yx h.size k.size,fun i hi b=>(k.block i (Yb hi h.size) b).trans (h.block i hi b)⟩
theorem zE (h:Below w w w'):Keep S w w':=⟨h.os,h.tape,h.output,h.size,fun i hi _=>h.block i hi⟩
theorem below (h:Keep S w w') (c: ∀i,S i->B<=i) (f:B<=w.heap.size):Below B w w':=
 ⟨h.os,h.tape,h.output,h.size,fun i hi=>h.block i om (fun b=>by have:=c i b;omega)⟩
theorem set (h:Keep S w w') (ha:S a.block) (u:Value):Keep S w (w'.setCell a u):=
 ⟨h.os,h.tape,h.output,by simpa [World.setCell] using h.size,fun i hi b=>(Below.heap_setCell w' a u i (fun e=>b (by rw [e];exact ha))).trans (h.block i hi b)⟩
theorem alloc (h:Keep S w w') (o:Obj):Keep S w (w'.alloc o):=h.trans (zE (Joins.below_alloc1 w' o))
theorem drewN (h:Keep S w w') (n:Nat):Keep S w (w'.drewN n):=⟨h.os,h.tape,h.output,h.size,h.block⟩
theorem drew (h:Keep S w w'):Keep S w w'.drew:=⟨h.os,h.tape,h.output,h.size,h.block⟩
theorem mono (h:Keep S w w') (b: ∀i,S i->S2 i):Keep S2 w w':=⟨h.os,h.tape,h.output,h.size,fun i hi h2=>h.block i hi (fun h3=>h2 (b i h3))⟩
theorem blk (h:Keep S w w') (hb:Blk w g T cs) (b: ¬S g):Blk w' g T cs:=hb.of_block (h.block g hb.lt b)
theorem own (h:Keep S w w') (hb:Own w g n cap xs) (b: ¬S g):Own w' g n cap xs:=hb.of_block (h.block g hb.lt b)
theorem ownA (h:Keep S w w') (hb:OwnA w B ad n cap xs) (b: ∀i,S i->i<B):OwnA w' B ad n cap xs:=by
 rcases hb with hb | ⟨g,h1,h2,hb⟩
 exact .inl hb;exact .inr ⟨g,h1,h2,h.own hb (fun e=>by have:=b g e;omega)⟩
end Keep
theorem RowA.toOwn (h:RowA w 3 1 B ad n cap xs):OwnA w B ad n cap xs:=by
 rcases h with h | ⟨g,h1,h2,h3,b,h4,i,f,k,c⟩
 exact .inl h;exact .inr ⟨g,h1,h2,om,b,h4,i,f,om,by rw [Nat.mul_one] at c;exact c⟩
theorem zFD:(prog.info? 3).map (fun i=>(i.zero,i.size,i.bytes))=some (some ↑Z0,1,8):=zK
set_option maxRecDepth 100000 in
theorem Kt (b off n cap:Nat) (xs:List Int) (w:World) (hn:xs.length=n) (ha:Rd w (some ↑(b,off)) xs) (h1:1<=n) (hl:n<=1048576):
 Calls prog 69 #[.slice (some ↑(b,off)) n cap] w fun e w'=> ∃g c,e= .returned (.slice (some ⟨g,0,none⟩) n c)/\Own w' g n c xs/\w.heap.size<=g/\Below w w w':=by
 have o:=Jh hn;have E:=Jh ha;clear hn ha;have z:=fun v:World=>Lib.run_eql_slice_nil (P:=prog) v (t:=22) (e:=3) (a:=some ↑(b,off)) n cap 0 0 underlying22;go_in
 go_wp2_with (at_builtin;refine zDm _ rfl 22 3 1 8 ↑Z0 underlying22 zFD rfl dC dC (.tmp 5) (.tmp 6) rfl w 0 _ rfl (RowA.mk (zBV w 3 1) nI) b off n cap xs rfl (oh o) (fun j I=>by
  obtain ⟨b2,J,h3,h4,C⟩:=(E.Z.alloc (.cells #[] 3)).at (oh o);cases h3
  exact C j (oh o)) hl sI ?_;intro m l G f i)
 have u:=Jh ((Joins.below_alloc1 w (.cells #[] 3)).grown i sI (fun k hk=>by simp [zL] at hk;omega));have q:=Jh f.toOwn;clear f i
 obtain ⟨g,hg,A,hr⟩: ∃g,m=some ⟨g,0,none⟩/\w.heap.size<=g/\Own G g n l xs:=by
  rcases q.Z with ⟨_,h,_,_⟩ | h
  omega;exact h
 subst hg;have F:=Jh hr;clear hr;go_ret;exact ⟨_,_,rfl,F.Z,A,u.Z⟩
structure DSt (w:World) (B D gp gr:Nat) (kad:Option Addr) (kn kcap:Nat) (W H:Int) (n rc:Nat) (dots rs:List Int) (L:Int):Prop where
 hD:B<=D
 hp:B<=gp
 hr:B<=gr
 n1:D≠gp
 n2:D≠gr
 n3:gp≠gr
 box:Blk w D 185 #[.slice kad kn kcap, .int .i64 W, .int .i64 H, .slice (some ⟨gp,0,none⟩) n n, .slice (some ⟨gr,0,none⟩) n rc, .int .i64 L]
 dots:Own w gp n n dots
 rest:Own w gr n rc rs
def yy (D gp gr:Nat) (i:Nat):Prop:=i=D\/i=gp\/i=gr
namespace DSt
variable {w w' : World} {B D gp gr : Nat} {kad : Option Addr} {kn kcap : Nat} {W H : Int} {n rc : Nat} {ds rs : List Int} {L : Int}
theorem below (h:DSt w B D gp gr kad kn kcap W H n rc ds rs L) (hb:Below w w w'):DSt w' B D gp gr kad kn kcap W H n rc ds rs L:=
 ⟨h.hD,h.hp,h.hr,h.n1,h.n2,h.n3,h.box.zA hb,h.dots.below hb h.dots.lt,h.rest.below hb h.rest.lt⟩
theorem alloc (h:DSt w B D gp gr kad kn kcap W H n rc ds rs L) (o:Obj):DSt (w.alloc o) B D gp gr kad kn kcap W H n rc ds rs L:=h.below (Joins.below_alloc1 w o)
theorem drewN (h:DSt w B D gp gr kad kn kcap W H n rc ds rs L) (m:Nat):DSt (w.drewN m) B D gp gr kad kn kcap W H n rc ds rs L:=
 ⟨h.hD,h.hp,h.hr,h.n1,h.n2,h.n3,h.box.drewN m,h.dots.drewN m,h.rest.drewN m⟩
theorem drew (h:DSt w B D gp gr kad kn kcap W H n rc ds rs L):DSt w.drew B D gp gr kad kn kcap W H n rc ds rs L:=h.drewN 1
theorem setDot (h:DSt w B D gp gr kad kn kcap W H n rc ds rs L) (j:Nat) (v:Int):DSt (w.setCell (gp,j) ↑v) B D gp gr kad kn kcap W H n rc (ds.set j v) rs L:=
 ⟨h.hD,h.hp,h.hr,h.n1,h.n2,h.n3,h.box.other (by simp;exact fun e=>h.n1 e.symm) _,h.dots.set j v,h.rest.other (by simp;exact h.n3) _⟩
theorem setRest (h:DSt w B D gp gr kad kn kcap W H n rc ds rs L) (j:Nat) (v:Int):DSt (w.setCell (gr,j) ↑v) B D gp gr kad kn kcap W H n rc ds (rs.set j v) L:=
 ⟨h.hD,h.hp,h.hr,h.n1,h.n2,h.n3,h.box.other (by simp;exact fun e=>h.n2 e.symm) _,h.dots.other (by simp;exact fun e=>h.n3 e.symm) _,h.rest.set j v⟩
theorem setLost (h:DSt w B D gp gr kad kn kcap W H n rc ds rs L) (v:Int):DSt (w.setCell (D,5) ↑v) B D gp gr kad kn kcap W H n rc ds rs v:=
 ⟨h.hD,h.hp,h.hr,h.n1,h.n2,h.n3,h.box.set 5 _,h.dots.other (by simp;exact h.n1) _,h.rest.other (by simp;exact h.n2) _⟩
theorem c6 (h:DSt w B D gp gr kad kn kcap W H n rc ds rs L):D<w.heap.size/\JB w D (.slice kad kn kcap) W H (Jc w (D,3) (.slice ↑gp n n)/\Jc w (D,4) (.slice ↑gr n rc)/\Jc w (D,5) L):=
 ⟨h.box.lt,by rw [h.box.cell];rfl,by rw [h.box.cell];rfl,by rw [h.box.cell];rfl,by rw [h.box.cell];rfl,by rw [h.box.cell];rfl,by rw [h.box.cell];rfl⟩
theorem trio (h:DSt w B D gp gr kad kn kcap W H n rc ds rs L): ∀i,yy D gp gr i->B<=i:=by
 have:=h.hD;have:=h.hp;have:=h.hr;rintro i (rfl | rfl | rfl) <;>assumption
theorem trioLt (h:DSt w B D gp gr kad kn kcap W H n rc ds rs L): ∀i,yy D gp gr i->i<w.heap.size:=by
 have:=h.box.lt;have:=h.dots.lt;have:=h.rest.lt;rintro i (rfl | rfl | rfl) <;>assumption
end DSt
theorem zDB (X Y c b:Int) (w:World) (h1:-10000<=X) (h2:X<=10000) (h3:-10000<=Y) (h4:Y<=10000) (k:-10000<=c) (i:c<=10000) (f:-10000<=b) (l:b<=10000):
 Calls prog 181 #[.agg #[X,Y], .agg #[c,b]] w (zR (.agg #[.int .i64 (X+c), .int .i64 (Y+b)]) w):=by
 go_in;go_wp2_with fail;exact bodyPost_ret (v:= .agg #[.int .i64 (X+c), .int .i64 (Y+b)]) (Jr results181) rfl ⟨rfl,(by exact ((bR.alloc nI _).alloc sI _).alloc sO _)⟩
theorem zII {p:Prt} (h: ¬(0<=x+way*p.dx/\x+way*p.dx<W/\0<=y+p.dy/\y+p.dy<H)):tgt W H x y way p=none:=by unfold tgt;rw [if_neg h]
theorem zQm {p:Prt} (h:0<=x+way*p.dx/\x+way*p.dx<W/\0<=y+p.dy/\y+p.dy<H):tgt W H x y way p=some ((y+p.dy)*W+(x+way*p.dx)).toNat:=by unfold tgt;rw [if_pos h]
def Zy (s side:Int):Bool:=decide (0<=s/\s<side)
theorem ut (h1:0<=s) (h2:s<side):Zy s side=true:=decide_eq_true ⟨h1,h2⟩
theorem YP (h: ¬(0<=s/\s<side)):Zy s side=false:=decide_eq_false h
theorem uF (s side:Int) (w:World) (h1:1<=side) (h2:side<=64):
 Calls prog 182 #[s,Z1,side] w fun e w'=>e= .returned (.bool (Zy s side))/\w'=w:=by
 by_cases h:0<=s/\s<side
 rw [ut h.1 h.2];exact (vv s 1 side w h1 h2 om h.1 om).mono (fun e w' h=>⟨h.1,h.2.symm⟩);rw [YP h];exact (uN s 1 side w h1 h2 om om).mono (fun e w' h=>⟨h.1,h.2.symm⟩)
def ub (W H X Y:Int):Option Nat:=if 0<=X/\X<W/\0<=Y/\Y<H then some (Y*W+X).toNat else none
theorem zBa (h: ¬(0<=X/\X<W/\0<=Y/\Y<H)):ub W H X Y=none:=by unfold ub;rw [if_neg h]
theorem zMD (h:0<=X/\X<W/\0<=Y/\Y<H):ub W H X Y=some (Y*W+X).toNat:=by unfold ub;rw [if_pos h]
theorem yy.d:yy D gp gr D:= .inl rfl
theorem yy.p:yy D gp gr gp:= .inr (.inl rfl)
theorem yy.r:yy D gp gr gr:= .inr (.inr rfl)
set_option maxRecDepth 100000 in
theorem zDA (B D gp gr:Nat) (kad:Option Addr) (kn kcap:Nat) (W H:Int) (n rc:Nat) (ds rs:List Int) (L s X Y:Int) (w:World) (hd:DSt w B D gp gr kad kn kcap W H n rc ds rs L)
 (w1:1<=W) (w2:W<=64) (h1:1<=H) (h2:H<=64) (hn:(n:Int)=W*H) (F:n<=1024) (R:-10000<=X) (x2:X<=10000) (y1:-10000<=Y) (O:Y<=10000)
 (s1:-1000000<=s) (s2:s<=1000000) (l1:-1000000<=L) (l2:L<=1000000) (hv: ∀j,ub W H X Y=some j->-1000000<=rs.getD j 0/\rs.getD j 0<=1000000):
 Calls prog 275 #[.pointer ↑D,s, .agg #[X,Y]] w fun e w'=>e= .returned (.tuple #[])/\DSt w' B D gp gr kad kn kcap W H n rc ds (ju (rs,L) (ub W H X Y) s).1 (ju (rs,L) (ub W H X Y) s).2/\Keep (yy D gp gr) w w':=by
 have k:=Jh hd;have u:=Jh hn;have dl:=hd.box.lt;obtain ⟨P,c0,c1,c2,c3,c4,c5⟩:=hd.c6;have f5:=hd.box.frozen 5;clear hd hn;by_cases o:0<=X/\X<W
 case neg=>
  rw [zBa (fun h=>o ⟨h.1,h.2.1⟩)];have A:=Jh o;clear o hv;go_in;go_wp2_with fail
  go_quiet ((go_at_call 182;refine Calls.quiet_of_same ((uN X 1 W _ w1 w2 om (oh A)).mono (fun e w' h=>⟨h.1,h.2.symm⟩))))
  go_wp2_with fail;refine bodyPost_ret (results_none rfl _ _ _) rfl ?_;exact ⟨rfl,((k.Z.alloc _).drewN _).setLost (L+s),(((Keep.refl (yy D gp gr) w).alloc _).drewN _).set (show yy D gp gr D from yy.d) _⟩
 obtain ⟨b,c⟩:=o;by_cases l:0<=Y/\Y<H
 case neg=>
  rw [zBa (fun h=>l ⟨h.2.2.1,h.2.2.2⟩)];have A:=Jh l;have k1:=ut b c;have k2:=YP l;clear l hv;go_in;go_wp2_with fail
  go_quiet ((go_at_call 182;exact Calls.quiet_of_same (uF _ _ _ om om)))
  go_wp2_with fail;refine bodyPost_ret (results_none rfl _ _ _) rfl ?_;exact ⟨rfl,((k.Z.alloc _).drewN _).setLost (L+s),(((Keep.refl (yy D gp gr) w).alloc _).drewN _).set (show yy D gp gr D from yy.d) _⟩
 obtain ⟨f,i⟩:=l;rw [zMD ⟨b,c,f,i⟩] at hv⊢;obtain ⟨C,q⟩:=ve b c f i;obtain ⟨V,E⟩: ∃V,Y*W=V:=⟨_,rfl⟩
 rw [E] at C q hv⊢;have r3:V+X<n:=by rw [u.Z];exact q
 obtain ⟨j,U⟩: ∃j:Nat,V+X=(j:Int):=⟨(V+X).toNat,om⟩
 have z:j<n:=om;have m:(V+X).toNat=j:=om;rw [m] at hv⊢;obtain ⟨I,v2⟩:=hv j rfl;have g1:=k.Z.rest.cell z;have g2:=k.Z.rest.frozen j;have M:=k.Z.rest.lt;obtain ⟨Q,t⟩: ∃Q,rs.getD j 0=Q:=⟨_,rfl⟩
 rw [t] at g1 I v2;have G:=Jh t;have u1:IntKind.i64.wrap V=V:=Yc _ om;have J:IntKind.i64.wrap (j:Int)=(j:Int):=Yc _ om;have u3:IntKind.i64.wrap (Q+s)=Q+s:=Yc _ om;have N:(0:Int)<=(j:Int):=om;have u5:(j:Int)<(n:Int):=om;have k1:=ut b c;have k2:=ut f i;clear t q m hv;go_in;go_wp2_with fail
 go_quiet ((go_at_call 182;exact Calls.quiet_of_same (uF _ _ _ om om)))
 go_wp2_with fail
 go_region
 go_end0
 refine ⟨rfl,?_⟩;simp only [ju,G.Z];exact ⟨((k.Z.alloc _).drewN _).setRest j (Q+s),(((Keep.refl (yy D gp gr) w).alloc _).drewN _).set (show yy D gp gr gr from yy.r) _⟩
theorem zNh {a n:Int} (hn:1<=n):-((-a+n - 1)/n)=a/n:=by
 have h1:=Int.emod_add_mul_ediv a n;have h2:=Yg a (show n≠0 by omega);have h3:=Ye a (show 0<n by omega);have e:-a+n - 1=(n - 1 - a % n)+n*(-(a/n)):=by rw [Int.mul_neg];omega
 rw [e,Int.add_mul_ediv_left _ _ om,Int.ediv_eq_zero_of_lt om om];omega
theorem Qo (a n:Int) (w:World) (h1:1<=n) (h2:n<=100000) (h3:-100000000<=a) (h4:a<=100000000):
 Calls prog 295 #[a,n] w fun e w'=>e= .returned (.int .i64 (a/n))/\w=w':=by
 have b: ¬n=0:=om;have z2:(n==0)=false:=sO;by_cases ha:a<0
 . have b1:0<=(-a+n - 1)/n:=Yw om om
   have b2:(-a+n - 1)/n<=-a+n - 1:=Int.ediv_le_self _ om;go_in;go_wp2_with fail;go_ret;exact ⟨yf (zNh h1),rfl⟩
 have b1:0<=a/n:=Yw om om;have b2:a/n<=a:=Int.ediv_le_self _ om;go_in;go_wp2_with fail;go_ret;exact ⟨rfl,rfl⟩
theorem zLl (b:1<=W):(V - V % W).tdiv W=V/W:=by
 have h1:=Int.emod_add_mul_ediv V W;rw [show V - V % W=W*(V/W) by omega];exact Int.mul_tdiv_cancel_left _ om
def zHb (w:World) (xs:List Int) (e:Ending) (w':World):Prop:=
 ∃a n c,e= .returned (.slice a n c)/\OwnA w' w a n c xs/\n<=1048576/\Below w w w'
theorem zEn {f:Nat->Int} {ks:List Prt} (hn:ks.length=n) (h1:1<=n) (hv:v=(gen n (xQ ks W e)).getD 0 0+(e - xB ks W e n)):(gen n (xQ ks W e)).set 0 v=yI ks W e:=by
 subst hv;rw [yN _ _ _ om];unfold yI;rw [hn]
theorem zDz (ad:Option Addr) (n cap:Nat) (ks:List Prt) (W e:Int) (w:World) (hn:ks.length=n) (ha:Rd w ad (flat ks)) (h1:1<=n) (h2:n<=12) (hk:xg ks n=true) (hW:W=yB ks n) (q:-1000000<=e) (m:e<=1000000):
 Calls prog 151 #[.slice ad n cap,W,e] w (zHb w (yI ks (yB ks n) e)):=by
 have HN:=Jh hn;have HA:=Jh ha;have R:=Jh hk;have t:=Jh hW;obtain ⟨w1,w2⟩:=wA hk n nI;have J:1<=W:=om;have b7:W<=1200:=om;have z1: ¬W=0:=om;have z2:(W==0)=false:=sO;clear hn ha hk hW w1 w2;go_in;go_wp2_with fail
 go_loopw [7,8,17] (fun o r i wr=> ∃(k:Nat) (l:Option Addr) (c:Nat),k<=n/\i=↑k/\o= .slice l k c/\r= .int .i64 (e - xB ks W e k)/\OwnA wr w l k c (gen k (xQ ks W e))/\Below w w wr) (fun _ _ i _=>n - (intOf i).toNat)
 case atStart=>exact ⟨0,_,_,nZ,rfl,rfl,by simp [xB],by first | exact OwnA.mk ⟨rfl,_,heap_alloc_new w _,nI,by unfold maxLen;omega,rfl,rfl⟩ nI | exact oN,by first | exact nJ | exact bR⟩
 obtain ⟨k,l,c,hk,rfl,rfl,rfl,ho,hw⟩:=hrel;have HO:=Jh ho;have E:=Jh hw;clear ho;have sw:=YE (e:=e) R.Z q m k hk;rw [<-t.Z] at sw;by_cases b3:k<n
 . obtain ⟨ba,oa,b4,b8,c0,c1,c2⟩:=uC (HA.Z.below hw) (k:=k) (oh HN)
   subst b4;obtain ⟨p,hp⟩: ∃p,prt ks k=p:=⟨_,rfl⟩
   obtain ⟨q1,q2,O,q4⟩:=qT (e:=e) R.Z k b3 q m;have sq:=YE (e:=e) R.Z q m (k+1) om;rw [<-t.Z] at O q4 sq;have F:Hd (xB ks W e (k+1)=xB ks W e k+xQ ks W e k):=Jh rfl;have G:Hd (xQ ks W e k=e*(prt ks k).wt/W):=Jh rfl;obtain ⟨Q,hQ⟩: ∃Q,xQ ks W e k=Q:=⟨_,rfl⟩
   rw [hp] at c0 c1 c2 q1 q2 G;rw [hQ] at F G O q4;rw [F.Z] at sq;obtain ⟨X,Y,T⟩:=p;dsimp only at c0 c1 c2 q1 q2 G;obtain ⟨S,C⟩: ∃S,xB ks W e k=S:=⟨_,rfl⟩
   rw [C] at sw sq F⊢;obtain ⟨V,z⟩: ∃V,e*T=V:=⟨_,rfl⟩
   obtain ⟨M,hM⟩: ∃M,V % W=M:=⟨_,rfl⟩
   have m1:=Yg V z1;have m2:=Ye V (show 0<W by omega);rw [z] at q1 q2 G;have hD:(V - M).tdiv W=Q:=by rw [<-hM,zLl J];exact G.Z.symm
   rw [hM] at m1 m2;have b1:=Jh hQ;have b6:=Jh C;clear hp hw hQ G C;go_wp2_with fail;refine (wN V W _ J om).mono ?_;rintro e2 w3 ⟨rfl,rfl⟩;go_wp2_with (at_builtin;refine vH _ rfl (.tmp 32) (.tmp 34) rfl w k c l _ rfl ((HO.Z.alloc _).alloc _) (wr.heap.size+1) Q rfl (by go_simp) om (oS E.Z.size) ?_;intro U N w5 I P);have b5:=Jh (((E.Z.alloc E.Z.size (.cells #[X,Y,T] 124)).alloc (oS E.Z.size) (.cells #[.int .i64 Q] 3)).grown P (oS E.Z.size) (fun b b0=>by have:=HO.Z.bd b b0;omega));have b2:=Jh I;clear I P z hM hD;go_roundw
   case rel=>exact ⟨k+1,U,N,om,by go_num,rfl,by rw [F.Z];go_num,by rw [<-jG,b1.Z];exact b2.Z,b5.Z⟩
   exact Jm
 obtain rfl:k=n:=om
 obtain ⟨g,hg,hB,u⟩: ∃g,l=some ⟨g,0,none⟩/\w.heap.size<=g/\Own wr g k c (gen k (xQ ks W e)):=by
  rcases HO.Z with ⟨_,h,_,_⟩ | h
  omega;exact h
 subst hg;obtain ⟨V,z⟩: ∃V,(gen k (xQ ks W e)).getD 0 0=V:=⟨_,rfl⟩
 have q0:=u.cell (j:=0) om;have f0:=u.frozen 0;rw [z] at q0;have HV:=Jh z;have O:=(qT (e:=e) R.Z 0 om q m).2.2;rw [<-t.Z] at O;rw [yN _ _ _ om] at z;rw [z] at O;have A:=Jh (u.set 0 (V+(e - xB ks W e k)));obtain ⟨S,C⟩: ∃S,xB ks W e k=S:=⟨_,rfl⟩
 have F:=Jh C;rw [C] at sw A⊢;clear hw z u C;go_wp2_with fail;go_ret;refine ⟨_,_,_,rfl,OwnA.mk ?_ hB,om,E.Z.setCell hB _⟩;have h:=A.Z;rw [zEn (f:=xQ ks W e) HN.Z h1 (by rw [HV.Z,F.Z])] at h;rw [<-t.Z];exact h
theorem zAv (ad:Option Addr) (n cap:Nat) (ks:List Prt) (e:Int) (w:World) (hn:ks.length=n) (ha:Rd w ad (flat ks)) (J:n<=cap) (hk:xF ks=true) (m:-1000000<=e) (b:e<=1000000):
 Calls prog 274 #[.slice ad n cap,e] w (zHb w (yI ks (yB ks n) e)):=by
 obtain ⟨h1,h2,z⟩:=qv hn hk;have O:=Jh hn;have HA:=Jh ha;have b0:=Jh hk;have P:=Jh z;obtain ⟨w1,w2⟩:=wA z n nI;obtain ⟨W,hW⟩: ∃W,yB ks n=W:=⟨_,rfl⟩
 have o:Hd (W=yB ks n):=Jh hW.symm;rw [hW] at w1 w2⊢;have b2:1<=W:=om;have b6:W<=1200:=om;have z1: ¬W=0:=om;have z2:(W==0)=false:=sO;clear hn ha hk z hW w1 w2;go_in;go_wp2_with fail;refine (zDo _ _ _ ks _ O.Z (by exact HA.Z) om J).mono ?_;rw [ZU O.Z b0.Z,<-o.Z];rintro e2 w3 ⟨rfl,hb⟩;have HB:=Jh hb;have U:=Jh (HA.Z.below hb);clear hb;go_wp2_with (at_make;refine jU _ rfl _ _ rfl .i64 .i64 n n n rfl rfl rfl rfl om ?_;intro M hM);have u:=Jh (hM.own w3);have G:=Jh (zJ HB.Z (.cells M 3));have c:=Jh HB.Z.size;obtain ⟨wo,I⟩:=zN (w3.alloc (.cells M 3):World);rw [<-I] at u G⊢;obtain ⟨g,hg⟩: ∃g,w3.heap.size=g:=⟨_,rfl⟩
 rw [hg] at u c⊢;clear I hM U
 go_loopw [7,18] (fun r i wr=> ∃(k:Nat),k<=n/\i=↑k/\r= .int .i64 (e - xB ks W e k)/\Own wr g n n (zn (gen n (xQ ks W e)) (List.replicate n 0) k)/\Below w w wr) (fun _ i _=>n - (intOf i).toNat)
 case atStart=>exact ⟨0,nZ,rfl,by simp [xB],by rw [yh];exact u.Z,G.Z⟩
 obtain ⟨k,hk,rfl,rfl,q,hw⟩:=hrel;have HO:=Jh q;have HX:=Jh hw;have sw:=YE (e:=e) P.Z m b k hk;rw [<-o.Z] at sw;by_cases l:k<n
 . obtain ⟨ba,oa,b3,b7,c0,c1,c2⟩:=uC (HA.Z.below hw) (k:=k) (oh O)
   subst b3;obtain ⟨p,hp⟩: ∃p,prt ks k=p:=⟨_,rfl⟩
   obtain ⟨q1,q2,N,q4⟩:=qT (e:=e) P.Z k l m b;have R:=YE (e:=e) P.Z m b (k+1) om;rw [<-o.Z] at N q4 R;have E:Hd (xB ks W e (k+1)=xB ks W e k+xQ ks W e k):=Jh rfl;have F:Hd (xQ ks W e k=e*(prt ks k).wt/W):=Jh rfl;obtain ⟨Q,hQ⟩: ∃Q,xQ ks W e k=Q:=⟨_,rfl⟩
   rw [hp] at c0 c1 c2 q1 q2 F;rw [hQ] at E F N q4;rw [E.Z] at R;obtain ⟨X,Y,T⟩:=p;dsimp only at c0 c1 c2 q1 q2 F;obtain ⟨S,C⟩: ∃S,xB ks W e k=S:=⟨_,rfl⟩
   rw [C] at sw R E⊢;obtain ⟨V,A⟩: ∃V,e*T=V:=⟨_,rfl⟩
   rw [A] at q1 q2 F;have hD:V/W=Q:=F.Z.symm;have hs:=q.set k Q;rw [yd (gen n (xQ ks W e)) _ k _ (by rw [zZ];exact l) sO (by rw [yN _ _ _ l];exact hQ)] at hs;have b1:=Jh hs;have g2:=q.cell l;have g3:=q.frozen k;have gl:=q.lt;have b5:=Jh C;have b4:=Jh hD;clear hp hw hQ F C q hs hD;go_wp2_with fail;refine (Qo V W _ b2 om om om).mono ?_;rw [b4.Z];rintro e2 w4 ⟨rfl,rfl⟩;go_wp2_with fail;go_roundw
   case rel=>exact ⟨k+1,om,by go_num,by rw [E.Z];go_num,b1.Z.alloc _,zJ (HX.Z.setCell c.Z _) _⟩
   exact Jm
 obtain rfl:k=n:=om;have hf:=q;rw [xY _ _ _ (zZ _ _) sI] at hf;obtain ⟨V,A⟩: ∃V,(gen k (xQ ks W e)).getD 0 0=V:=⟨_,rfl⟩
 have q0:=hf.cell (j:=0) om;have f0:=hf.frozen 0;rw [A] at q0;have HV:=Jh A;have N:=(qT (e:=e) P.Z 0 om m b).2.2;rw [<-o.Z] at N;rw [yN _ _ _ om] at A;rw [A] at N;have t:=Jh (hf.set 0 (V+(e - xB ks W e k)));obtain ⟨S,C⟩: ∃S,xB ks W e k=S:=⟨_,rfl⟩
 have E:=Jh C;rw [C] at sw t⊢;clear hw A q hf C;go_wp2_with fail;go_ret;refine ⟨_,_,_,rfl,OwnA.mk ?_ c.Z,om,HX.Z.setCell c.Z _⟩;have h:=t.Z;rw [zEn (f:=xQ ks W e) O.Z h1 (by rw [HV.Z,E.Z])] at h;exact h
def jf (ks:List Prt) (W H X Y way:Int) (q:Nat):Option Nat:=ub W H (X+way*(prt ks q).dx) (Y+(prt ks q).dy)
theorem zHk (h:128<=v):uK v=1/\yD v=v - 255:=by unfold yD uK;rw [if_pos h];omega
theorem zKU (h: ¬128<=v):uK v=0/\yD v=v:=by unfold yD uK;rw [if_neg h];omega
theorem zAJ (h:xs.getD j 0=v) (b:j<xs.length):xs.set j v=xs:=by
 apply List.ext_getElem?;intro i;rw [List.getElem?_set];by_cases e:j=i
 subst e;rw [if_pos rfl,if_pos b,Ya b];simpa [List.getD,b] using h.symm;rw [if_neg e]
set_option maxRecDepth 100000 in
theorem zKl (B D gp gr:Nat) (kad:Option Addr) (kn kcap:Nat) (W H:Int) (n rc:Nat) (ds rs:List Int) (L X Y way v:Int) (j:Nat) (ks:List Prt) (w:World) (hd:DSt w B D gp gr kad kn kcap W H n rc ds rs L)
 (d3:ks.length=kn) (d4:xF ks=true) (f2:kn<=kcap) (f4: ∀u,Keep (yy D gp gr) w u->Rd u kad (flat ks))
 (w1:1<=W) (w2:W<=64) (h1:1<=H) (h2:H<=64) (hn:(n:Int)=W*H) (f6:n<=1024) (x1:0<=X) (x2:X<W) (y1:0<=Y) (y2:Y<H) (d1:way=1\/way=-1)
 (hj:Y*W+X=(j:Int)) (hv:rs.getD j 0=v) (v1:-300000<=v) (v2:v<=300000) (U:ds.getD j 0=0)
 (hg: ∀k,k<kn->-300000<=(xM (jf ks W H X Y way) (yI ks (yB ks kn) (yD v)) (rs.set j (yD v),L) k).2/\(xM (jf ks W H X Y way) (yI ks (yB ks kn) (yD v)) (rs.set j (yD v),L) k).2<=300000/\ ∀i,jf ks W H X Y way k=some i->-300000<=(xM (jf ks W H X Y way) (yI ks (yB ks kn) (yD v)) (rs.set j (yD v),L) k).1.getD i 0/\(xM (jf ks W H X Y way) (yI ks (yB ks kn) (yD v)) (rs.set j (yD v),L) k).1.getD i 0<=300000):
 Calls prog 241 #[.pointer ↑D, .agg #[X,Y],way] w fun e w'=>e= .returned (.tuple #[])/\DSt w' B D gp gr kad kn kcap W H n rc (ds.set j (uK v)) (xM (jf ks W H X Y way) (yI ks (yB ks kn) (yD v)) (rs.set j (yD v),L) kn).1 (xM (jf ks W H X Y way) (yI ks (yB ks kn) (yD v)) (rs.set j (yD v),L) kn).2/\Keep (yy D gp gr) w w':=by
 obtain ⟨k1,k2,k3⟩:=qv d3 d4;have o:=Jh d3;have f0:=Jh d4;have HK:=Jh k3;have c8:=Jh f4;have f5:=Jh hn;have HG:=Jh hg;have HD:=Jh hd;have HV:=Jh hv;have f8:=Jh hd.trioLt;obtain ⟨r1,r2⟩:=ve x1 x2 y1 y2;have r3:Y*W+X<n:=by rw [hn];exact r2
 obtain ⟨V,hV⟩: ∃V,Y*W=V:=⟨_,rfl⟩
 rw [hV] at r1 r3 hj;have c1:j<n:=om;have dl:=hd.box.lt;have rl:=hd.rest.lt;have pl:=hd.dots.lt;have N1:D≠gp:=hd.n1;have N2:D≠gr:=hd.n2;have N3:gp≠gr:=hd.n3;obtain ⟨_,c0,E,F,c3,c4,c5⟩:=hd.c6;have g1:=hd.rest.cell c1;have g2:=hd.rest.frozen j;have p1:=hd.dots.cell c1;have p2:=hd.dots.frozen j;rw [hv] at g1;rw [U] at p1;have h0:=Jh hd.dots.len;have f1:=Jh U;have u1:IntKind.i64.wrap V=V:=Yc _ om;have u2:IntKind.i64.wrap (j:Int)=(j:Int):=Yc _ om;clear hd d3 d4 k3 f4 hn hg r2 hv U;by_cases b7:128<=v
 case pos=>
  obtain ⟨e1,e2⟩:=zHk b7;rw [e1];rw [e2] at HG⊢;clear e1 e2;go_in;go_wp2_with fail
  go_quiet (fail)
  go_wp2_with fail;have b:=Jh ((((HD.Z.alloc (.cells #[X,Y] 176)).drewN nq).setDot j 1).setRest j (v - 255));have q:=Jh (((((Keep.refl (yy D gp gr) w).alloc (.cells #[X,Y] 176)).drewN nq).set (a:=↑(gp,j)) (show yy D gp gr gp from yy.p) ↑Z1).set (a:=↑(gr,j)) (show yy D gp gr gr from yy.r) (.int .i64 (v - 255)));have KB:=Jh ((((Blk.new w 176 #[X,Y]).drewN nq).other (a:=↑(gp,j)) sO ↑Z1).other (a:=↑(gr,j)) sO (.int .i64 (v - 255)));obtain ⟨wo,N⟩:=zN (((((w.alloc (.cells #[X,Y] 176)).drewN nq).setCell (gp,j) ↑Z1).setCell (gr,j) (.int .i64 (v - 255))):World);rw [<-N] at b q KB⊢;have e4:-1000000<=v - 255:=om;have d8:v - 255<=1000000:=om;clear N u1 u2 hj;clear c0 E F c3 c4 c5 g1 g2 p1 p2;obtain ⟨I,c0,E,F,c3,c4,c5⟩:=b.Z.c6;have d6:=b.Z.rest.lt;have g1:=b.Z.rest.cell c1;have d5:=Jh b.Z.rest.len;rw [kw _ _ _ _ (by have:=d5.Z;simp at this;omega),if_pos rfl] at g1;have u2:IntKind.i64.wrap (j:Int)=(j:Int):=Yc _ om;have u4:(0:Int)<=(j:Int):=om;have u5:(j:Int)<(n:Int):=om
  go_region_held3 (fun u=>Jc u D (.slice kad kn kcap)/\Jc u (D,4) (.slice ↑gr n rc)/\Jc u (gr,j) (.int .i64 (v - 255)))
   (first | exact ⟨c0,c4,g1⟩ | exact ⟨(hb.cell I).trans c0,(hb.cell I).trans c4,(hb.cell d6).trans g1⟩)
   (first
    | (go_at_call 274;((with_reducible refine (zAv _ _ _ ks _ _ o.Z (by exact (c8.Z _ q.Z.drew)) f2 f0.Z e4 d8).mono ?_);rintro e w3 ⟨a,m,c,rfl,ho,hm,hb⟩)))
  clear c0 E F c3 c4 c5 g1;have HO:=Jh ho
  obtain rfl:m=kn:=by
   have h:=HO.Z.len;rw [Xo,o.Z] at h;exact h.symm
  have e3:=Jh (b.Z.drew.below hb);have e0:=Jh (q.Z.drew.trans (Keep.zE hb));have e5:=Jh (KB.Z.drew.zA hb);have e8:=Jh (show∀i,yy D gp gr i->i<wo.drew.heap.size from b.Z.drew.trioLt);have Q:Hd ((yI ks (yB ks m) (v - 255)).length=m):=Jh HO.Z.len;clear ho hb hm;go_wp2_with fail
  go_loopw [58] (fun i wr=> ∃k:Nat,k<=m/\i= .int .i64 k/\DSt wr B D gp gr kad m kcap W H n rc (ds.set j 1) (xM (jf ks W H X Y way) (yI ks (yB ks m) (v - 255)) (rs.set j (v - 255),L) k).1 (xM (jf ks W H X Y way) (yI ks (yB ks m) (v - 255)) (rs.set j (v - 255),L) k).2/\Keep (yy D gp gr) w3 wr) (fun i _=>m - (intOf i).toNat)
  case atStart=>exact ⟨0,nZ,rfl,e3.Z,Keep.refl _ _⟩
  obtain ⟨k,hk,rfl,O,C⟩:=hrel;have f:=Jh O;have t:=Jh C;have b2:=Jh (e0.Z.trans C);clear O C;by_cases z:k<m
  . obtain ⟨ba,oa,e7,g4,R⟩:=(t.Z.ownA HO.Z e8.Z).rd.at (oh Q)
    subst e7;have a1:=R k (oh Q);clear R;obtain ⟨bk,ok,e6,g0,q0,q1,q2⟩:=uC (c8.Z _ b2.Z) (k:=k) (oh o);subst e6;obtain ⟨g6,d0,_,_,_,_,_⟩:=f.Z.c6;have kb:=t.Z.blk e5.Z (fun h=>by have:=f8.Z _ h;omega);have b0:=kb.cell 0;have b1:=kb.cell 1;have bl:=kb.lt;simp only [Yi,List.getElem?_cons_zero,List.getElem?_cons_succ] at b0 b1;obtain ⟨S,hS⟩: ∃S,(yI ks (yB ks m) (v - 255)).getD k 0=S:=⟨_,rfl⟩
    have sb:=zAK (e:=(v - 255)) o.Z k1 k2 HK.Z k z;obtain ⟨b6,b3,gv⟩:=HG.Z k z;have l:Hd (jf ks W H X Y way k=ub W H (X+way*(prt ks k).dx) (Y+(prt ks k).dy)):=Jh rfl;have pb:=vc (vZ HK.Z z).1;obtain ⟨p,hp⟩: ∃p,prt ks k=p:=⟨_,rfl⟩
    rw [hp] at q0 q1 q2 l pb;rw [hS] at a1 sb;obtain ⟨PX,PY,PT⟩:=p;dsimp only at q0 q1 q2 l pb;obtain ⟨g5,g3,g7,g8,_⟩:=pb;obtain ⟨M,hM⟩: ∃M,way*PX=M:=⟨_,rfl⟩
    have m1:-4<=M/\M<=4:=by rcases d1 with h | h <;>(rw [h] at hM;omega)
    obtain ⟨m1,m2⟩:=m1;rw [hM] at l;have HS:=Jh hS;have b5:Hd (xM (jf ks W H X Y way) (yI ks (yB ks m) (v - 255)) (rs.set j (v - 255),L) (k+1)=ju (xM (jf ks W H X Y way) (yI ks (yB ks m) (v - 255)) (rs.set j (v - 255),L) k) (ub W H (X+M) (Y+PY)) S):=Jh (by rw [xM,hS,l.Z]);rw [l.Z] at gv;obtain ⟨G,hG⟩: ∃G,xM (jf ks W H X Y way) (yI ks (yB ks m) (v - 255)) (rs.set j (v - 255),L) k=G:=⟨_,rfl⟩
    rw [hG] at f b5 b6 b3 gv;obtain ⟨GR,GL⟩:=G;dsimp only at f b6 b3 gv;have GV:=Jh gv;clear gv hp hS hG kb;have s1:-1000000<=S:=om;have s2:S<=1000000:=om;go_wp2_with fail;refine (zDB X Y M PY _ om om om om om om om om).mono ?_;rintro e w4 ⟨rfl,A⟩;have P:=Jh ((f.Z.alloc (.cells #[PX,PY,PT] 124)).below A);have b8:=Jh ((t.Z.alloc (.cells #[PX,PY,PT] 124)).trans (Keep.zE A));clear A hM a1 q0 q1 q2 d0 b0 b1;go_wp2_with fail;refine (zDA B D gp gr _ m kcap W H n rc _ GR GL S (X+M) (Y+PY) _ P.Z w1 w2 h1 h2 f5.Z f6 om om om om s1 s2 om om (fun i hi=>by have:=GV.Z i hi;omega)).mono ?_;rintro e w5 ⟨rfl,J,b4⟩;have d7:=Jh J;have d2:=Jh (b8.Z.trans b4);clear J b4;go_wp2_with fail;go_roundw
    case rel=>exact ⟨k+1,om,by go_num,by rw [b5.Z];exact d7.Z,d2.Z⟩
    exact Jm
  obtain rfl:m=k:=om;go_wp2_with fail
  go_end0
  exact ⟨rfl,f.Z,b2.Z⟩
 obtain ⟨e1,e2⟩:=zKU b7;rw [e1];rw [e2] at HG⊢;clear e1 e2;go_in;go_wp2_with fail
 go_quiet (fail)
 clear u1 u2 hj;go_wp2_with fail
 have b:Hd (DSt ((w.alloc (.cells #[X,Y] 176)).drewN nq) B D gp gr kad kn kcap W H n rc (ds.set j 0) (rs.set j v) L):=Jh (by
  rw [zAJ f1.Z (oh h0),zAJ HV.Z (og HD.Z.rest.len)]
  exact (HD.Z.alloc _).drewN nq)
 have q:=Jh (((Keep.refl (yy D gp gr) w).alloc (.cells #[X,Y] 176)).drewN nq);have KB:=Jh ((Blk.new w 176 #[X,Y]).drewN nq);obtain ⟨wo,N⟩:=zN (((w.alloc (.cells #[X,Y] 176)).drewN nq):World);rw [<-N] at b q KB⊢;have e4:-1000000<=v:=om;have d8:v<=1000000:=om;clear N;clear c0 E F c3 c4 c5 g1 g2 p1 p2;obtain ⟨I,c0,E,F,c3,c4,c5⟩:=b.Z.c6;have d6:=b.Z.rest.lt;have g1:=b.Z.rest.cell c1;have d5:=Jh b.Z.rest.len;rw [kw _ _ _ _ (by have:=d5.Z;simp at this;omega),if_pos rfl] at g1;have u2:IntKind.i64.wrap (j:Int)=(j:Int):=Yc _ om;have u4:(0:Int)<=(j:Int):=om;have u5:(j:Int)<(n:Int):=om
 go_region_held3 (fun u=>Jc u D (.slice kad kn kcap)/\Jc u (D,4) (.slice ↑gr n rc)/\Jc u (gr,j) v)
  (first | exact ⟨c0,c4,g1⟩ | exact ⟨(hb.cell I).trans c0,(hb.cell I).trans c4,(hb.cell d6).trans g1⟩)
  (first
   | (go_at_call 274;((with_reducible refine (zAv _ _ _ ks _ _ o.Z (by exact (c8.Z _ q.Z.drew)) f2 f0.Z e4 d8).mono ?_);rintro e w3 ⟨a,m,c,rfl,ho,hm,hb⟩)))
 clear c0 E F c3 c4 c5 g1;have HO:=Jh ho
 obtain rfl:m=kn:=by
  have h:=HO.Z.len;rw [Xo,o.Z] at h;exact h.symm
 have e3:=Jh (b.Z.drew.below hb);have e0:=Jh (q.Z.drew.trans (Keep.zE hb));have e5:=Jh (KB.Z.drew.zA hb);have e8:=Jh (show∀i,yy D gp gr i->i<wo.drew.heap.size from b.Z.drew.trioLt);have Q:Hd ((yI ks (yB ks m) v).length=m):=Jh HO.Z.len;clear ho hb hm;go_wp2_with fail
 go_loopw [58] (fun i wr=> ∃k:Nat,k<=m/\i= .int .i64 k/\DSt wr B D gp gr kad m kcap W H n rc (ds.set j 0) (xM (jf ks W H X Y way) (yI ks (yB ks m) v) (rs.set j v,L) k).1 (xM (jf ks W H X Y way) (yI ks (yB ks m) v) (rs.set j v,L) k).2/\Keep (yy D gp gr) w3 wr) (fun i _=>m - (intOf i).toNat)
 case atStart=>exact ⟨0,nZ,rfl,e3.Z,Keep.refl _ _⟩
 obtain ⟨k,hk,rfl,O,C⟩:=hrel;have f:=Jh O;have t:=Jh C;have b2:=Jh (e0.Z.trans C);clear O C;by_cases z:k<m
 . obtain ⟨ba,oa,e7,g4,R⟩:=(t.Z.ownA HO.Z e8.Z).rd.at (oh Q)
   subst e7;have a1:=R k (oh Q);clear R;obtain ⟨bk,ok,e6,g0,q0,q1,q2⟩:=uC (c8.Z _ b2.Z) (k:=k) (oh o);subst e6;obtain ⟨g6,d0,_,_,_,_,_⟩:=f.Z.c6;have kb:=t.Z.blk e5.Z (fun h=>by have:=f8.Z _ h;omega);have b0:=kb.cell 0;have b1:=kb.cell 1;have bl:=kb.lt;simp only [Yi,List.getElem?_cons_zero,List.getElem?_cons_succ] at b0 b1;obtain ⟨S,hS⟩: ∃S,(yI ks (yB ks m) v).getD k 0=S:=⟨_,rfl⟩
   have sb:=zAK (e:=v) o.Z k1 k2 HK.Z k z;obtain ⟨b6,b3,gv⟩:=HG.Z k z;have l:Hd (jf ks W H X Y way k=ub W H (X+way*(prt ks k).dx) (Y+(prt ks k).dy)):=Jh rfl;have pb:=vc (vZ HK.Z z).1;obtain ⟨p,hp⟩: ∃p,prt ks k=p:=⟨_,rfl⟩
   rw [hp] at q0 q1 q2 l pb;rw [hS] at a1 sb;obtain ⟨PX,PY,PT⟩:=p;dsimp only at q0 q1 q2 l pb;obtain ⟨g5,g3,g7,g8,_⟩:=pb;obtain ⟨M,hM⟩: ∃M,way*PX=M:=⟨_,rfl⟩
   have m1:-4<=M/\M<=4:=by rcases d1 with h | h <;>(rw [h] at hM;omega)
   obtain ⟨m1,m2⟩:=m1;rw [hM] at l;have HS:=Jh hS;have b5:Hd (xM (jf ks W H X Y way) (yI ks (yB ks m) v) (rs.set j v,L) (k+1)=ju (xM (jf ks W H X Y way) (yI ks (yB ks m) v) (rs.set j v,L) k) (ub W H (X+M) (Y+PY)) S):=Jh (by rw [xM,hS,l.Z]);rw [l.Z] at gv;obtain ⟨G,hG⟩: ∃G,xM (jf ks W H X Y way) (yI ks (yB ks m) v) (rs.set j v,L) k=G:=⟨_,rfl⟩
   rw [hG] at f b5 b6 b3 gv;obtain ⟨GR,GL⟩:=G;dsimp only at f b6 b3 gv;have GV:=Jh gv;clear gv hp hS hG kb;have s1:-1000000<=S:=om;have s2:S<=1000000:=om;go_wp2_with fail;refine (zDB X Y M PY _ om om om om om om om om).mono ?_;rintro e w4 ⟨rfl,A⟩;have P:=Jh ((f.Z.alloc (.cells #[PX,PY,PT] 124)).below A);have b8:=Jh ((t.Z.alloc (.cells #[PX,PY,PT] 124)).trans (Keep.zE A));clear A hM a1 q0 q1 q2 d0 b0 b1;go_wp2_with fail;refine (zDA B D gp gr _ m kcap W H n rc _ GR GL S (X+M) (Y+PY) _ P.Z w1 w2 h1 h2 f5.Z f6 om om om om s1 s2 om om (fun i hi=>by have:=GV.Z i hi;omega)).mono ?_;rintro e w5 ⟨rfl,J,b4⟩;have d7:=Jh J;have d2:=Jh (b8.Z.trans b4);clear J b4;go_wp2_with fail;go_roundw
   case rel=>exact ⟨k+1,om,by go_num,by rw [b5.Z];exact d7.Z,d2.Z⟩
   exact Jm
 obtain rfl:m=k:=om;go_wp2_with fail
 go_end0
 exact ⟨rfl,f.Z,b2.Z⟩
end Go.Proofs.YtlenfgdjdianiaaGreatDoor
