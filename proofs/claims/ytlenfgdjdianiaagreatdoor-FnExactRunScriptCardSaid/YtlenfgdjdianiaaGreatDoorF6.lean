/- Facts on which this claim rests, 6. -/
import Derived.Test.YtlenfgdjdianiaaGreatDoorF4
import Derived.Test.YtlenfgdjdianiaaGreatDoorF5
set_option linter.all false
set_option maxHeartbeats 6400000
namespace Go.Proofs.YtlenfgdjdianiaaGreatDoor
section
variable {b : Nat → Int} {m : Nat}
open Tq Go.Proofs.Tryz
def yc (L:List Pic):Bool:=decide (1<=L.length/\L.length<=4) && L.all (fun p=>zP p.W p.H p.ink 1 && decide (p.W=(L.getD 0 yb).W/\p.H=(L.getD 0 yb).H))
theorem XF {L:List Pic} (h:yc L=true):1<=L.length/\L.length<=4/\ ∀k,k<L.length->zP (L.getD k yb).W (L.getD k yb).H (L.getD k yb).ink 1=true/\(L.getD k yb).W=(L.getD 0 yb).W/\(L.getD k yb).H=(L.getD 0 yb).H:=by
 unfold yc at h;simp only [Bool.and_eq_true,decide_eq_true_eq,Yp] at h;refine ⟨h.1.1,h.1.2,fun k hk=>?_⟩;have hm:L.getD k yb ∈ L:=by simp [List.getD,Ya hk]
 exact h.2 _ hm
theorem zOY {L:List Pic} (h1:1<=L.length) (h2:L.length<=4) (h: ∀k,k<L.length->zP (L.getD k yb).W (L.getD k yb).H (L.getD k yb).ink 1=true/\(L.getD k yb).W=(L.getD 0 yb).W/\(L.getD k yb).H=(L.getD 0 yb).H):yc L=true:=by
 unfold yc;simp only [Bool.and_eq_true,decide_eq_true_eq,Yp];refine ⟨⟨h1,h2⟩,fun p hp=>?_⟩;obtain ⟨k,hk,rfl⟩:=List.mem_iff_getElem.1 hp;have:=h k hk;simp only [List.getD,Ya hk,Yz] at this⊢;exact this
def kh (b:Nat->Int):Nat->Int
 | 0=>0
 | k+1=>kh b k+b k*2^k
theorem zNv (k:Nat):1<=(2:Int)^k:=by
 induction k with
 | zero=>simp
 | succ k i=>rw [Int.pow_succ];omega
theorem zKE (h: ∀k,k<m->b k=0\/b k=1):0<=kh b m/\kh b m<2^m:=by
 induction m with
 | zero=>simp [kh]
 | succ m i=>
  have a:=i (fun k hk=>h k om);have p:=zNv m;unfold kh;rw [Int.pow_succ];rcases h m om with e | e <;>rw [e] <;>omega
def jD (L:List Pic) (i:Nat):Int:=kh (fun k=>(L.getD k yb).ink.getD i 0) L.length
def wF (f:Nat->Int) (r:Int):Nat->Int
 | 0=>0
 | n+1=>wF f r n+(if f n=r then 1 else 0)
theorem zBp (f:Nat->Int) (r:Int) (n:Nat):0<=wF f r n/\wF f r n<=n:=by
 induction n with
 | zero=>simp [wF]
 | succ n i=>unfold wF;split <;>omega
def yt (L:List Pic):List Int:=if yc L=true then gen (2^L.length) (fun r=>wF (jD L) r (L.getD 0 yb).ink.length) else []
end
section
open Go.RowKit Tq Go.Proofs.Tryz
variable {B T cap g k n : Nat} {H W x y : Int} {a b c e f h : Value} {ad : Option Addr} {cs : Array Value} {w w' : World} {xs : List Int}
theorem Blk.c7 {d:Value} (k:Blk w g T #[a,b,c,d,e,f,h]):g<w.heap.size/\JB w g a b c (Jc w (g,3) d/\Jc w (g,4) e/\Jc w (g,5) f/\Jc w (g,6) h):=
 ⟨k.lt,by rw [k.cell];rfl,by rw [k.cell];rfl,by rw [k.cell];rfl,by rw [k.cell];rfl,by rw [k.cell];rfl,by rw [k.cell];rfl,by rw [k.cell];rfl⟩
theorem Blk.f7 (h:Blk w g T cs):w.frozen? g=false/\w.frozen? (g,1)=false/\w.frozen? (g,2)=false/\w.frozen? (g,3)=false/\w.frozen? (g,4)=false/\w.frozen? (g,5)=false/\w.frozen? (g,6)=false:=
 ⟨h.frozen 0,h.frozen 1,h.frozen 2,h.frozen 3,h.frozen 4,h.frozen 5,h.frozen 6⟩
section
variable {w : World} {g T : Nat} {a b c d e f h : Value}
theorem Blk.putP (k:Blk w g T #[a,b,c,d,e,f,h]) (x y z:Value):Blk (((w.setCell g x).setCell (g,1) y).setCell (g,2) z) g T #[x,y,z,d,e,f,h]:=by
 have:=((k.set 0 x).set 1 y).set 2 z;simpa using this
theorem Blk.putM (k:Blk w g T #[a,b,c,d,e,f,h]) (x y z:Value):Blk (((w.setCell (g,3) x).setCell (g,4) y).setCell (g,5) z) g T #[a,b,c,x,y,z,h]:=by
 have:=((k.set 3 x).set 4 y).set 5 z;simpa using this
theorem Blk.putR (k:Blk w g T #[a,b,c,d,e,f,h]) (z:Value):Blk (w.setCell (g,5) z) g T #[a,b,c,d,e,z,h]:=by
 have:=k.set 5 z;simpa using this
theorem Blk.putS (k:Blk w g T #[a,b,c,d,e,f,h]) (z:Value):Blk (w.setCell (g,6) z) g T #[a,b,c,d,e,f,z]:=by
 have:=k.set 6 z;simpa using this
theorem Blk.put7 (k:Blk w g T #[a,b,c,d,e,f,h]) (i j t q o s l:Value):Blk (((((((w.setCell g i).setCell (g,1) j).setCell (g,2) t).setCell (g,3) q).setCell (g,4) o).setCell (g,5) s).setCell (g,6) l) g T #[i,j,t,q,o,s,l]:=by
 have:=((((((k.set 0 i).set 1 j).set 2 t).set 3 q).set 4 o).set 5 s).set 6 l;simpa using this
end
structure Dsk where
 P:PV
 M:PV
 a:Option Addr
 n:Nat
 c:Nat
 ps:List PV
def JC (v:World) (a:Nat) (D:Dsk):Tq:=Tq.Z0
def JD (v:World) (a:Nat) (D:Dsk) (r:Prop):Tq:=Tq.Z0
instance (v:World) (a:Nat) (D:Dsk):CoeDep Tq (JC v a D) Prop:=⟨v.cell? ⟨a,0,none⟩=some (.int .i64 D.P.W)/\v.cell? ⟨a,1,none⟩=some (.int .i64 D.P.H)/\v.cell? ⟨a,2,none⟩=some (.slice D.P.a D.P.n D.P.c)/\v.cell? ⟨a,3,none⟩=some (.int .i64 D.M.W)/\v.cell? ⟨a,4,none⟩=some (.int .i64 D.M.H)/\v.cell? ⟨a,5,none⟩=some (.slice D.M.a D.M.n D.M.c)/\v.cell? ⟨a,6,none⟩=some (.slice D.a D.n D.c)⟩
instance (v:World) (a:Nat) (D:Dsk) (r:Prop):CoeDep Tq (JD v a D r) Prop:=⟨v.cell? ⟨a,0,none⟩=some (.int .i64 D.P.W)/\v.cell? ⟨a,1,none⟩=some (.int .i64 D.P.H)/\v.cell? ⟨a,2,none⟩=some (.slice D.P.a D.P.n D.P.c)/\v.cell? ⟨a,3,none⟩=some (.int .i64 D.M.W)/\v.cell? ⟨a,4,none⟩=some (.int .i64 D.M.H)/\v.cell? ⟨a,5,none⟩=some (.slice D.M.a D.M.n D.M.c)/\v.cell? ⟨a,6,none⟩=some (.slice D.a D.n D.c)/\r⟩
instance:Coe Dsk (Array Value):=⟨fun D=>#[.int .i64 D.P.W, .int .i64 D.P.H, .slice D.P.a D.P.n D.P.c, .int .i64 D.M.W, .int .i64 D.M.H, .slice D.M.a D.M.n D.M.c, .slice D.a D.n D.c]⟩
def Dsk.val (D:Dsk):Value:= .agg ↑D
def Dsk.cells (D:Dsk):Array Value:=↑D
def Dsk.dat (D:Dsk):Pic × Pic × List Pic:=(D.P.pic,D.M.pic,zS D.ps)
structure RdD (w:World) (D:Dsk):Prop where
 pl:D.P.ink.length=D.P.n
 pr:Rd w D.P.a D.P.ink
 ml:D.M.ink.length=D.M.n
 mr:Rd w D.M.a D.M.ink
 sl:D.ps.length=D.n
 sr:RdV w D.a D.ps
theorem RdD.below {w w':World} {D:Dsk} (h:RdD w D) (hb:Below w w w'):RdD w' D:=
 ⟨h.pl,h.pr.below hb,h.ml,h.mr.below hb,h.sl,h.sr.below hb⟩
theorem RdD.alloc {w:World} {D:Dsk} (h:RdD w D) (o:Obj):RdD (w.alloc o) D:=h.below (Joins.below_alloc1 w o)
structure jX (D:Dsk):Prop where
 p:D.P.n<=1048576
 m:D.M.n<=1048576
 n:D.n<=1048576
 s: ∀k,k<D.ps.length->(pv D.ps k).n<=1048576
theorem qS (h:OwnA w B ad n cap xs) (hg:g<B) (j l A t s z o:Value):
 OwnA (((((((w.setCell g j).setCell (g,1) l).setCell (g,2) A).setCell (g,3) t).setCell (g,4) s).setCell (g,5) z).setCell (g,6) o) B ad n cap xs:=by
 have q: ∀ {u:World} (k:OwnA u B ad n cap xs) (i:Nat) (v:Value),OwnA (u.setCell (g,i) v) B ad n cap xs:=fun k i v=>k.zF (fun e=>by have:=k.bd _ e;simp at this;omega) v;exact q (q (q (q (q (q (q h 0 j) 1 l) 2 A) 3 t) 4 s) 5 z) 6 o
theorem zc (h:Below B w w') (hg:B<=g) (i j t q o s l:Value):
 Below B w (((((((w'.setCell g i).setCell (g,1) j).setCell (g,2) t).setCell (g,3) q).setCell (g,4) o).setCell (g,5) s).setCell (g,6) l):=
 ((((((h.setCell hg _).setCell hg _).setCell hg _).setCell hg _).setCell hg _).setCell hg _).setCell hg _
structure yG (w:World) (B:Nat) (D:Dsk):Prop where
 p:OwnA w B D.P.a D.P.n D.P.c D.P.ink
 m:OwnA w B D.M.a D.M.n D.M.c D.M.ink
 s:OwnV w B D.a D.n D.c D.ps
 pm: ∀b,zL D.P.a=some b->zL D.M.a≠some b
 ps: ∀b,OwnV.blocks D.a D.ps b->zL D.P.a≠some b
 ms: ∀b,OwnV.blocks D.a D.ps b->zL D.M.a≠some b
theorem yG.rd {w:World} {B:Nat} {D:Dsk} (h:yG w B D):RdD w D:=
 ⟨h.p.len,h.p.rd,h.m.len,h.m.rd,h.s.len,h.s.rd⟩
theorem yG.below {w w':World} {B:Nat} {D:Dsk} (h:yG w B D) (hb:Below w w w'):yG w' B D:=
 ⟨h.p.zA hb,h.m.zA hb,h.s.below hb,h.pm,h.ps,h.ms⟩
theorem yG.mono {w:World} {B B':Nat} {D:Dsk} (h:yG w B D) (i:B'<=B):yG w B' D:=
 ⟨h.p.mono i,h.m.mono i,h.s.mono i,h.pm,h.ps,h.ms⟩
theorem yG.alloc {w:World} {B:Nat} {D:Dsk} (h:yG w B D) (o:Obj):yG (w.alloc o) B D:=h.below (Joins.below_alloc1 w o)
theorem OwnV.other {L:List PV} (h:OwnV w B ad n cap L) {a:Addr} (ha:a.block<B) (u:Value):OwnV (w.setCell a u) B ad n cap L:=by
 have hk:KeepT (fun i=>i=a.block) w (w.setCell a u):=KeepT.set (S:=fun i=>i=a.block) (KeepT.refl _ w) rfl u;exact hk.ownV h (fun i hb e=>by have:=h.bd i hb;omega)
theorem yG.other {w:World} {B:Nat} {D:Dsk} (h:yG w B D) {a:Addr} (ha:a.block<B) (u:Value):yG (w.setCell a u) B D:=
 ⟨h.p.zF (fun e=>by have:=h.p.bd _ e;omega) u,h.m.zF (fun e=>by have:=h.m.bd _ e;omega) u,h.s.other ha u,h.pm,h.ps,h.ms⟩
def Dsk.blocks (D:Dsk) (b:Nat):Prop:=zL D.P.a=some b\/zL D.M.a=some b\/OwnV.blocks D.a D.ps b
theorem yG.bd {w:World} {B:Nat} {D:Dsk} (h:yG w B D): ∀b,D.blocks b->B<=b/\b<w.heap.size:=by
 intro b hb;rcases hb with hb | hb | hb
 exact h.p.bd b hb;exact h.m.bd b hb;exact h.s.bd b hb
def yX (d:Pic × Pic × List Pic):Bool:=
 zP d.1.W d.1.H d.1.ink 255 && zq d.2.1.W d.2.1.H d.2.1.ink && (decide (d.2.2.length=0) || (yc d.2.2 && decide ((d.2.2.getD 0 yb).W=d.1.W/\(d.2.2.getD 0 yb).H=d.1.H)))
theorem zEa {d:Pic × Pic × List Pic} (h: ¬zP d.1.W d.1.H d.1.ink 255=true):yX d=false:=by
 unfold yX;simp [h]
theorem zEZ {d:Pic × Pic × List Pic} (h: ¬zq d.2.1.W d.2.1.H d.2.1.ink=true):yX d=false:=by
 unfold yX;simp [h]
theorem zEY {d:Pic × Pic × List Pic} (h1:zP d.1.W d.1.H d.1.ink 255=true) (h2:zq d.2.1.W d.2.1.H d.2.1.ink=true) (h3:d.2.2.length=0):yX d=true:=by
 unfold yX;simp [h1,h2,h3]
theorem zEb {d:Pic × Pic × List Pic} (h1:zP d.1.W d.1.H d.1.ink 255=true) (h2:zq d.2.1.W d.2.1.H d.2.1.ink=true) (h3: ¬d.2.2.length=0):
 yX d=(yc d.2.2 && decide ((d.2.2.getD 0 yb).W=d.1.W/\(d.2.2.getD 0 yb).H=d.1.H)):=by
 unfold yX;simp [h1,h2,h3]
attribute [local go_sem ↓] Go.wp_at_zero Go.wp_at_succ
def zJB (a b:Int):Int:=wrap64 (wrap64 (2*bits BinOp.xor IntKind.i64 a b)+b)
theorem zKm (a b:Int) (w:World):
 Calls prog 195 #[a,b] w fun e w'=>e= .returned ↑(zJB a b)/\w=w':=by
 go_in
 go_wp2
 go_ret;exact ⟨rfl,rfl⟩
theorem zFW {a b:Int} (h1:0<=a) (h2:a<=1) (h3:0<=b) (h4:b<=1):zJB a b=qF a b:=by
 by_cases ha:a=0
 subst ha;by_cases hb:b=0
 subst hb;decide+kernel;obtain rfl:b=1:=om;decide+kernel;obtain rfl:a=1:=om;by_cases hb:b=0
 subst hb;decide+kernel;obtain rfl:b=1:=om;decide+kernel
theorem zHp (j:1<=W) (i:0<=x) (h1:x<2*W):0<=x/W/\x/W<=1:=by
 constructor;exact Yw i om;have:x/W<2:=Int.ediv_lt_of_lt_mul om om;omega
theorem zKS (hn:(n:Int)=W*H) (j:1<=W) (i:1<=H) (hk:k<4*n):
 0<=(k:Int) % (2*W)/\(k:Int) % (2*W)<2*W/\0<=(k:Int)/(2*W)/\(k:Int)/(2*W)<2*H/\(k:Int)/(2*W)<=k:=by
 refine ⟨Yg _ om,Ye _ om,Yw om om,?_,Int.ediv_le_self _ om⟩;refine Int.ediv_lt_of_lt_mul om ?_
 have e:2*H*(2*W)=4*(W*H):=by
  rw [Yq,Int.mul_left_comm H 2 W,<-Yq,Ys H W];rfl
 rw [e,<-hn];omega
theorem zEX (hn:(n:Int)=W*H) (j:1<=W) (i:1<=H) (hm:4*n<=256):yi (2*W) (2*H)=true/\((4*n:Nat):Int)=2*W*(2*H)/\W<=64/\H<=64:=by
 have e:2*W*(2*H)=4*(W*H):=by
  rw [Yq,Int.mul_left_comm W 2 H,<-Yq];rfl
 have l:W*1<=W*H:=YA i om;have o:1*H<=W*H:=Yo j om;refine ⟨JO om om (by rw [e];omega),by rw [e];omega,om,om⟩
theorem zEx (W H:Int) (ad:Option Addr) (n cap:Nat) (xs:List Int) (w:World) (hn:xs.length=n) (ha:Rd w ad xs) (Q:(n:Int)=W*H) (b1:1<=W) (b3:1<=H) (M:4*n<=256) (hi:inR xs n=true):
 Calls prog 143 #[.agg #[W,H, .slice ad n cap]] w (YK w (Qh ⟨W,H,xs⟩)):=by
 have L:=Jh hn;have HA:=Jh ha;clear hn ha;have V:=Jh Q;have HI:=Jh hi;obtain ⟨u,A,b2,b4⟩:=zEX Q b1 b3 M;have G:=Jh u;obtain ⟨m,hm⟩:=zN (4*n:Nat);have J:Hd ((m:Int)=2*W*(2*H)):=Jh (by rw [hm];exact A);have b7:m<=256:=om;have HM:Hd (m=4*n):=Jh hm;have e0:Qh ⟨W,H,xs⟩=⟨2*W,2*H,gen m (jg W H xs)⟩:=by unfold Qh;simp only [L.Z];rw [HM.Z]
 rw [e0];have c4:n<=64:=om;clear e0 Q hi u A hm;go_in;go_wp2_with fail;refine (uf (2*W) (2*H) m _ G.Z J.Z).mono ?_;rintro e w2 ⟨g,rfl,hg,l,hb⟩;have s:=Jh (nV.trans (hb.mono sO));have C:=Jh (((Blk.new w 32 #[W,H, .slice ad n cap]).alloc _).zA hb)
 have D:Hd (Blk w2 (w.heap.size+1) 32 ↑Zp):=by
  have h:=(Blk.new (w.alloc (.cells #[W,H, .slice ad n cap] 32)) 32 ↑Zp).zA hb;exact Jh (by simpa using h)
 have F:=Jh l;have o:Hd (w.heap.size+1+1<=g):=Jh (by simpa using hg);clear hb l hg;go_wp2_with fail
 go_loopw [17] (fun i wr=> ∃k:Nat,k<=m/\i=↑k/\Own wr g m m (zn (gen m (jg W H xs)) (List.replicate m 0) k)/\(w2.alloc (.cells #[.int .i64 (2*W), .int .i64 (2*H), .slice ↑g m m] 32)).grownBy wr (some g)) (fun i _=>m - (intOf i).toNat)
 case atStart=>exact ⟨0,nZ,rfl,by rw [yh];exact F.Z.alloc _,yR _ _⟩
 obtain ⟨k,hk,rfl,l,hg⟩:=hrel;have E:=Jh ((s.Z.alloc s.Z.size _).grown hg (oS s.Z.size) (by intro k hk;cases hk;have:=o.Z;omega));have KO:=Jh ((Blk.new w2 32 #[.int .i64 (2*W), .int .i64 (2*H), .slice ↑g m m]).grown hg (oS F.Z.lt));obtain ⟨l0,o0,o1,X⟩:=KO.Z.c3;have KP:=Jh ((C.Z.alloc _).grown hg (oT o.Z C.Z.lt));obtain ⟨t,N,R,P⟩:=KP.Z.c3;by_cases q:k<m
 . obtain ⟨x0,x1,y0,y1,y2⟩:=zKS V.Z b1 b3 (by have:=HM.Z;omega:k<4*n)
   obtain ⟨a0,a1⟩:=zHp b1 x0 x1;obtain ⟨c0,c1⟩:=zHp b3 y0 y1;obtain ⟨r0,Y⟩:=Vz L.Z V.Z b1 b3 HI.Z ((k:Int) % (2*W)) ((k:Int)/(2*W));obtain ⟨q0,q1⟩:=zJG ((k:Int) % (2*W)/W) ((k:Int)/(2*W)/H);have g2:wr.cell? (g,k)=some ↑((zn (gen m (jg W H xs)) (List.replicate m 0) k).getD k 0):=l.cell q;have g3:wr.frozen? (g,k)=false:=l.frozen k;have I:=l.lt;have O:=Jh l;clear l;have N1:g≠w.heap.size:=by have:=o.Z;omega
   have N2:g≠w2.heap.size:=by have:=F.Z.lt;omega
   have b6: ¬2*W=0:=om;have b5: ¬W=0:=om;have hH2: ¬H=0:=om;have b0:(W==0)=false:=sO;have b8:(H==0)=false:=sO;go_wp2_with fail
   go_quiet (fail)
   go_wp2_with fail
   go_region_held3 (fun v=>JB v w W H (.slice ad n cap) (Jc v (w2,2) (.slice ↑g m m)))
    (first | exact ⟨N,R,P,X⟩ | exact ⟨(j.cell t).trans N,(j.cell t).trans R,(j.cell t).trans P,(j.cell l0).trans X⟩ | exact ⟨zY z0 N1,zY z1 N1,zY z2 N1,zY z3 N2⟩)
    (first
     | (go_at_call 194;((with_reducible refine (uO W H ad n cap xs _ _ _ L.Z (by exact (HA.Z.below E.Z).of_heap rfl) V.Z b1 b3 om om om).mono ?_);rintro e v1 ⟨rfl,j⟩;have z0:=(j.cell t).trans N;have z1:=(j.cell t).trans R;have z2:=(j.cell t).trans P;have z3:=(j.cell l0).trans X;have t2:=(j.cell I).trans g2;have t3:=(j.frozen I).trans g3))
     | (go_at_call 195;((with_reducible refine (zKm _ _ _).mono ?_);rintro e v9 ⟨rfl,rfl⟩)))
   go_wp2_with fail;go_roundw
   case rel=>
    have z:Below wr wr v1:=⟨j.os,j.tape,j.output,j.size,j.block⟩
    have hv:(gen m (jg W H xs)).getD k 0=wrap64 (4*jA W H xs ((k:Int) % (2*W)) ((k:Int)/(2*W))+zJB ((k:Int) % (2*W)/W) ((k:Int)/(2*W)/H)):=by
     rw [yN _ _ _ q,zFW a0 a1 c0 c1,IntWalk.wrap64_in _ om];rfl
    have hs:=(O.Z.below z I).set k (wrap64 (4*jA W H xs ((k:Int) % (2*W)) ((k:Int)/(2*W))+zJB ((k:Int) % (2*W)/W) ((k:Int)/(2*W)/H)));rw [yd (gen m (jg W H xs)) _ k _ (by rw [zZ];exact q) sO hv] at hs;exact ⟨k+1,om,by go_num,hs,yO (zU hg (yl (row:=some g) z)) _⟩
   exact Jm
 obtain rfl:m=k:=om;have KR:=Jh ((D.Z.alloc _).grown hg (oT o.Z D.Z.lt));obtain ⟨r0,Y,r2,r3⟩:=KR.Z.c3;obtain ⟨q0,q1,q2⟩:=KR.Z.f3;rw [xY (gen m (jg W H xs)) _ m (by rw [zZ]) sI] at l;have U:=Jh l;clear l;go_wp2_with fail
 exact bodyPost_ret (v:= .agg #[.int .i64 (2*W), .int .i64 (2*H), .slice ↑g m m]) (by simp [results,results143,go_sem,Y,r2,r3]) rfl
  ⟨_,_,_,rfl,OwnA.mk (((U.Z.other (oS o.Z) _).other (oS o.Z) _).other (oS o.Z) _) (oh o),om,
   ((E.Z.setCell sD _).setCell sD _).setCell sD _⟩
theorem zAh (i:0<=x) (h1:x<W):x/W=0:=Int.ediv_eq_zero_of_lt i h1
theorem zAg (l:1<=W) (i:x<2*W) (h1: ¬x<W):x/W=1:=by
 have j:1<=x/W:=(Int.le_ediv_iff_mul_le om).2 om;have o:x/W<2:=Int.ediv_lt_of_lt_mul om om;omega
theorem zJC (s:1<=W) (q:1<=H) (i:0<=x) (o:x<W) (j:0<=y) (l:y<H):qF (x/W) (y/H)=0:=by rw [zAh i o,zAh j l];rfl
theorem zJD (s:1<=W) (i:1<=H) (j:0<=x) (q:x<W) (l:y<2*H) (o: ¬y<H):qF (x/W) (y/H)=3:=by rw [zAh j q,zAg i l o];rfl
theorem zJE (l:1<=W) (s:1<=H) (i:x<2*W) (q: ¬x<W) (j:0<=y) (o:y<H):qF (x/W) (y/H)=2:=by rw [zAg l i q,zAh j o];rfl
theorem zJF (o:1<=W) (i:1<=H) (j:x<2*W) (s: ¬x<W) (l:y<2*H) (q: ¬y<H):qF (x/W) (y/H)=1:=by rw [zAg o j s,zAg i l q];rfl
theorem zFo (W H:Int) (ad:Option Addr) (n cap:Nat) (xs:List Int) (w:World) (hn:xs.length=n) (ha:Rd w ad xs) (hq:(n:Int)=W*H) (b1:1<=W) (b3:1<=H) (c1:4*n<=256) (hi:inR xs n=true):
 Calls prog 102 #[.agg #[W,H, .slice ad n cap]] w (YK w (Qh ⟨W,H,xs⟩)):=by
 have HN:=Jh hn;have HA:=Jh ha;clear hn ha;have HQ:=Jh hq;have HI:=Jh hi;obtain ⟨b0,b8,b2,b4⟩:=zEX hq b1 b3 c1;have c5:=Jh b0;obtain ⟨m,hm⟩:=zN (4*n:Nat);have c8:Hd ((m:Int)=2*W*(2*H)):=Jh (by rw [hm];exact b8);have d2:m<=256:=om;have HM:Hd (m=4*n):=Jh hm;have e0:Qh ⟨W,H,xs⟩=⟨2*W,2*H,gen m (jg W H xs)⟩:=by unfold Qh;simp only [HN.Z];rw [HM.Z]
 rw [e0];have d3:n<=64:=om;clear e0 hq hi b0 b8 hm;go_in;go_wp2_with fail
 go_loopw [4] (fun i wr=> ∃(k:Nat) (D:Option Addr) (C:Nat),k<=m/\i=↑k/\OwnA wr (w.heap.size+2+1) D k C (gen k (jg W H xs))/\Blk wr (w.heap.size+2) 32 #[.int .i64 (2*W), .int .i64 (2*H), .slice D k C]/\Below (w.heap.size+2) ((w.alloc (.cells #[W,H, .slice ad n cap] 32)).alloc (.cells ↑Zp 32)) wr) (fun i _=>m - (intOf i).toNat)
 case atStart=>exact ⟨0,none,0,nZ,rfl,oN,by first | exact Blk.new _ _ _ | exact Blk.zD _ _ sI,by first | exact nJ | exact bR.alloc sI _⟩
 obtain ⟨k,D,C,hk,rfl,ho,b6,b5⟩:=hrel;have HO:=Jh ho;have KB:=Jh b6;have HW:=Jh b5;obtain ⟨l0,o0,o1,o2⟩:=KB.Z.c3;clear ho b6 b5;have KP:=Jh (((Blk.new w 32 #[W,H, .slice ad n cap]).alloc (.cells ↑Zp 32)).below HW.Z sI);obtain ⟨U,s0,s1,s2⟩:=KP.Z.c3;have P:=Jh ((Joins.below_alloc2 w _ _).trans (HW.Z.mono sI));by_cases d1:k<m
 . have b7:(k:Int)<4*(n:Int):=by have:=HM.Z;omega
   obtain ⟨x0,x1,N,O,Q⟩:=zKS HQ.Z b1 b3 (by have:=HM.Z;omega:k<4*n);obtain ⟨r0,r1⟩:=Vz HN.Z HQ.Z b1 b3 HI.Z ((k:Int) % (2*W)) ((k:Int)/(2*W));have d0: ¬2*W=0:=om;have NP:w.heap.size+2≠w.heap.size:=om;have LP:w.heap.size<w.heap.size+2:=om;by_cases hx:(k:Int) % (2*W)<W
   . by_cases hy:(k:Int)/(2*W)<H
     . have J:=Jh (zJC b1 b3 x0 hx N hy)
       go_wp2_with fail;refine zh 12 (fun v=>Jc v w W/\Jc v (JE w 1) H/\Jc v (JE w 2) (.slice ad n cap)/\Jc v (JE (w.heap.size+2) 2) (.slice D k C)) zK ⟨s0,s1,s2,o2⟩ ?_;intro l;refine zM 0 ?_;refine zM 1 ?_;refine zM 2 ?_;refine zM 3 ?_;refine zM 4 ?_;refine zM 7 ?_;refine zW 5 (fun K hK=>?_);go_simp
       go_at_call 88
       ((with_reducible refine (vG W H ad n cap xs _ _ _ HN.Z (by exact (HA.Z.below P.Z).of_heap rfl) HQ.Z b1 b3 om om om).mono ?_);rintro e v1 ⟨rfl,j⟩);have N:=(j.cell U).trans s0;have O:=(j.cell U).trans s1;have Q:=(j.cell U).trans s2;have V:=(j.cell l0).trans o2;have u:=Jh (HO.Z.drew.zA j);have A:=Jh (KB.Z.drew.zA j);have lv:=A.Z.lt;go_wp2_with fail;refine hK.out _ _ (fun _=>⟨N,O,Q,V⟩) (fun hH2=>?_);clear hK K l;have l:=hH2 dC;clear hH2;refine zM 6 ?_;refine zM 8 ?_;refine zW 9 (fun K hK=>?_);go_simp;refine hK.out _ _ (fun _=>⟨zw N,zw O,zw Q,zw V⟩) (fun hH2=>?_);clear hK K l hH2;refine zW 10 (fun K hK=>?_);refine vo _ (by rfl) (.tmp 65) (.tmp 73) (by rfl) (w.heap.size+2+1) k C D (gen k (jg W H xs)) (by rfl) (u.Z.alloc _) v1.heap.size _ (by rfl) (vC _ _ _) om (oS A.Z.lt) ?_;intro s q Y E z;have F:=Jh (jI u.Z z (KP.Z.drew.zA j) om);obtain ⟨l6,z0,X,z2⟩:=F.Z.c3;have t:=Jh (jI u.Z z A.Z om);obtain ⟨l5,t0,t1,t2⟩:=t.Z.c3;obtain ⟨f0,f1,f2⟩:=t.Z.f3;refine hK.out _ _ (fun _=>⟨z0,X,z2,t2⟩) (fun hH2=>?_);clear hK K hH2;refine zW 11 (fun K hK=>?_);go_simp;refine hK.out _ _ (fun _=>⟨z0,X,z2,t2⟩) (fun hH2=>?_);clear hK K hH2;refine zW 12 (fun K hK=>?_);go_simp;refine hK.out _ _ (fun h=>absurd h dC) (fun hH2=>?_);clear hK K hH2;refine zx zK ?_ _;(try go_simp);have L:=Jh (HW.Z.trans ((xJ j).mono (by have:=KB.Z.lt;have e0:wr.drew.heap.size=wr.heap.size:=rfl;omega)));have M:=Jh (vV u.Z z L.Z om (og A.Z.lt));have I:Hd (OwnA Y (w.heap.size+2+1) s (k+1) q (gen (k+1) (jg W H xs))):=Jh (by rw [<-jG];refine cast (congrArg (fun (v:Int)=>OwnA Y (w.heap.size+2+1) s (k+1) q (gen k (jg W H xs)++ [v])) ?_) E;(unfold jg;rw [J.Z,Yc (4*jA W H xs ((k:Int) % (2*W)) ((k:Int)/(2*W))) om,Yc _ om];try omega));clear E z;go_wp2_with fail;go_roundw
       case rel=>exact ⟨k+1,s,q,om,by go_num,I.Z.other sI _,by first | exact t.Z.set 2 _ | (have h:=t.Z.set 2 (.slice s (k+1) q);simpa using h),M.Z.setCell sI _⟩
       exact Jm
     have J:=Jh (zJD b1 b3 x0 hx O hy);have c4:H<=(k:Int)/(2*W):=om;clear hy;go_wp2_with fail;refine zh 12 (fun v=>Jc v w W/\Jc v (JE w 1) H/\Jc v (JE w 2) (.slice ad n cap)/\Jc v (JE (w.heap.size+2) 2) (.slice D k C)) zK ⟨s0,s1,s2,o2⟩ ?_;intro l;refine zM 0 ?_;refine zM 1 ?_;refine zM 2 ?_;refine zM 3 ?_;refine zM 4 ?_;refine zM 7 ?_;refine zW 5 (fun K hK=>?_);go_simp
     go_at_call 88
     ((with_reducible refine (vG W H ad n cap xs _ _ _ HN.Z (by exact (HA.Z.below P.Z).of_heap rfl) HQ.Z b1 b3 om om om).mono ?_);rintro e v1 ⟨rfl,j⟩);have N:=(j.cell U).trans s0;have O:=(j.cell U).trans s1;have Q:=(j.cell U).trans s2;have V:=(j.cell l0).trans o2;have u:=Jh (HO.Z.drew.zA j);have A:=Jh (KB.Z.drew.zA j);have lv:=A.Z.lt;go_wp2_with fail;refine hK.out _ _ (fun _=>⟨N,O,Q,V⟩) (fun hH2=>?_);clear hK K l;have l:=hH2 dC;clear hH2;refine zM 6 ?_;refine zM 8 ?_;refine zW 9 (fun K hK=>?_);go_simp;refine hK.out _ _ (fun _=>⟨zw N,zw O,zw Q,zw V⟩) (fun hH2=>?_);clear hK K l hH2;refine zW 10 (fun K hK=>?_);refine vo _ (by rfl) (.tmp 65) (.tmp 73) (by rfl) (w.heap.size+2+1) k C D (gen k (jg W H xs)) (by rfl) (u.Z.alloc _) v1.heap.size _ (by rfl) (vC _ _ _) om (oS A.Z.lt) ?_;intro s q Y E z;have F:=Jh (jI u.Z z (KP.Z.drew.zA j) om);obtain ⟨l6,z0,X,z2⟩:=F.Z.c3;have t:=Jh (jI u.Z z A.Z om);obtain ⟨l5,t0,t1,t2⟩:=t.Z.c3;obtain ⟨f0,f1,f2⟩:=t.Z.f3;refine hK.out _ _ (fun _=>⟨z0,X,z2,t2⟩) (fun hH2=>?_);clear hK K hH2;refine zW 11 (fun K hK=>?_);go_simp;refine hK.out _ _ (fun _=>⟨z0,X,z2,t2⟩) (fun hH2=>?_);clear hK K hH2;refine zW 12 (fun K hK=>?_);go_simp;refine hK.out _ _ (fun h=>absurd h dC) (fun hH2=>?_);clear hK K hH2;refine zx zK ?_ _;(try go_simp);have L:=Jh (HW.Z.trans ((xJ j).mono (by have:=KB.Z.lt;have e0:wr.drew.heap.size=wr.heap.size:=rfl;omega)));have M:=Jh (vV u.Z z L.Z om (og A.Z.lt));have I:Hd (OwnA Y (w.heap.size+2+1) s (k+1) q (gen (k+1) (jg W H xs))):=Jh (by rw [<-jG];refine cast (congrArg (fun (v:Int)=>OwnA Y (w.heap.size+2+1) s (k+1) q (gen k (jg W H xs)++ [v])) ?_) E;(unfold jg;rw [J.Z,Yc (4*jA W H xs ((k:Int) % (2*W)) ((k:Int)/(2*W))) om,Yc _ om];try omega));clear E z;go_wp2_with fail;go_roundw
     case rel=>exact ⟨k+1,s,q,om,by go_num,I.Z.other sI _,by first | exact t.Z.set 2 _ | (have h:=t.Z.set 2 (.slice s (k+1) q);simpa using h),M.Z.setCell sI _⟩
     exact Jm
   by_cases hy:(k:Int)/(2*W)<H
   . have J:=Jh (zJE b1 b3 x1 hx N hy)
     have c0:W<=(k:Int) % (2*W):=om;clear hx;go_wp2_with fail;refine zh 12 (fun v=>Jc v w W/\Jc v (JE w 1) H/\Jc v (JE w 2) (.slice ad n cap)/\Jc v (JE (w.heap.size+2) 2) (.slice D k C)) zK ⟨s0,s1,s2,o2⟩ ?_;intro l;refine zM 0 ?_;refine zM 1 ?_;refine zM 2 ?_;refine zM 3 ?_;refine zM 4 ?_;refine zM 7 ?_;refine zW 5 (fun K hK=>?_);go_simp
     go_at_call 88
     ((with_reducible refine (vG W H ad n cap xs _ _ _ HN.Z (by exact (HA.Z.below P.Z).of_heap rfl) HQ.Z b1 b3 om om om).mono ?_);rintro e v1 ⟨rfl,j⟩);have N:=(j.cell U).trans s0;have O:=(j.cell U).trans s1;have Q:=(j.cell U).trans s2;have V:=(j.cell l0).trans o2;have u:=Jh (HO.Z.drew.zA j);have A:=Jh (KB.Z.drew.zA j);have lv:=A.Z.lt;go_wp2_with fail;refine hK.out _ _ (fun _=>⟨N,O,Q,V⟩) (fun hH2=>?_);clear hK K l;have l:=hH2 dC;clear hH2;refine zM 6 ?_;refine zM 8 ?_;refine zW 9 (fun K hK=>?_);go_simp;refine hK.out _ _ (fun _=>⟨zw N,zw O,zw Q,zw V⟩) (fun hH2=>?_);clear hK K l hH2;refine zW 10 (fun K hK=>?_);refine vo _ (by rfl) (.tmp 65) (.tmp 73) (by rfl) (w.heap.size+2+1) k C D (gen k (jg W H xs)) (by rfl) (u.Z.alloc _) v1.heap.size _ (by rfl) (vC _ _ _) om (oS A.Z.lt) ?_;intro s q Y E z;have F:=Jh (jI u.Z z (KP.Z.drew.zA j) om);obtain ⟨l6,z0,X,z2⟩:=F.Z.c3;have t:=Jh (jI u.Z z A.Z om);obtain ⟨l5,t0,t1,t2⟩:=t.Z.c3;obtain ⟨f0,f1,f2⟩:=t.Z.f3;refine hK.out _ _ (fun _=>⟨z0,X,z2,t2⟩) (fun hH2=>?_);clear hK K hH2;refine zW 11 (fun K hK=>?_);go_simp;refine hK.out _ _ (fun _=>⟨z0,X,z2,t2⟩) (fun hH2=>?_);clear hK K hH2;refine zW 12 (fun K hK=>?_);go_simp;refine hK.out _ _ (fun h=>absurd h dC) (fun hH2=>?_);clear hK K hH2;refine zx zK ?_ _;(try go_simp);have L:=Jh (HW.Z.trans ((xJ j).mono (by have:=KB.Z.lt;have e0:wr.drew.heap.size=wr.heap.size:=rfl;omega)));have M:=Jh (vV u.Z z L.Z om (og A.Z.lt));have I:Hd (OwnA Y (w.heap.size+2+1) s (k+1) q (gen (k+1) (jg W H xs))):=Jh (by rw [<-jG];refine cast (congrArg (fun (v:Int)=>OwnA Y (w.heap.size+2+1) s (k+1) q (gen k (jg W H xs)++ [v])) ?_) E;(unfold jg;rw [J.Z,Yc (4*jA W H xs ((k:Int) % (2*W)) ((k:Int)/(2*W))) om,Yc _ om];try omega));clear E z;go_wp2_with fail;go_roundw
     case rel=>exact ⟨k+1,s,q,om,by go_num,I.Z.other sI _,by first | exact t.Z.set 2 _ | (have h:=t.Z.set 2 (.slice s (k+1) q);simpa using h),M.Z.setCell sI _⟩
     exact Jm
   have J:=Jh (zJF b1 b3 x1 hx O hy);have c0:W<=(k:Int) % (2*W):=om;have c4:H<=(k:Int)/(2*W):=om;clear hx hy;go_wp2_with fail;refine zh 12 (fun v=>Jc v w W/\Jc v (JE w 1) H/\Jc v (JE w 2) (.slice ad n cap)/\Jc v (JE (w.heap.size+2) 2) (.slice D k C)) zK ⟨s0,s1,s2,o2⟩ ?_;intro l;refine zM 0 ?_;refine zM 1 ?_;refine zM 2 ?_;refine zM 3 ?_;refine zM 4 ?_;refine zM 7 ?_;refine zW 5 (fun K hK=>?_);go_simp
   go_at_call 88
   ((with_reducible refine (vG W H ad n cap xs _ _ _ HN.Z (by exact (HA.Z.below P.Z).of_heap rfl) HQ.Z b1 b3 om om om).mono ?_);rintro e v1 ⟨rfl,j⟩);have N:=(j.cell U).trans s0;have O:=(j.cell U).trans s1;have Q:=(j.cell U).trans s2;have V:=(j.cell l0).trans o2;have u:=Jh (HO.Z.drew.zA j);have A:=Jh (KB.Z.drew.zA j);have lv:=A.Z.lt;go_wp2_with fail;refine hK.out _ _ (fun _=>⟨N,O,Q,V⟩) (fun hH2=>?_);clear hK K l;have l:=hH2 dC;clear hH2;refine zM 6 ?_;refine zM 8 ?_;refine zW 9 (fun K hK=>?_);go_simp;refine hK.out _ _ (fun _=>⟨zw N,zw O,zw Q,zw V⟩) (fun hH2=>?_);clear hK K l hH2;refine zW 10 (fun K hK=>?_);refine vo _ (by rfl) (.tmp 65) (.tmp 73) (by rfl) (w.heap.size+2+1) k C D (gen k (jg W H xs)) (by rfl) (u.Z.alloc _) v1.heap.size _ (by rfl) (vC _ _ _) om (oS A.Z.lt) ?_;intro s q Y E z;have F:=Jh (jI u.Z z (KP.Z.drew.zA j) om);obtain ⟨l6,z0,X,z2⟩:=F.Z.c3;have t:=Jh (jI u.Z z A.Z om);obtain ⟨l5,t0,t1,t2⟩:=t.Z.c3;obtain ⟨f0,f1,f2⟩:=t.Z.f3;refine hK.out _ _ (fun _=>⟨z0,X,z2,t2⟩) (fun hH2=>?_);clear hK K hH2;refine zW 11 (fun K hK=>?_);go_simp;refine hK.out _ _ (fun _=>⟨z0,X,z2,t2⟩) (fun hH2=>?_);clear hK K hH2;refine zW 12 (fun K hK=>?_);go_simp;refine hK.out _ _ (fun h=>absurd h dC) (fun hH2=>?_);clear hK K hH2;refine zx zK ?_ _;(try go_simp);have L:=Jh (HW.Z.trans ((xJ j).mono (by have:=KB.Z.lt;have e0:wr.drew.heap.size=wr.heap.size:=rfl;omega)));have M:=Jh (vV u.Z z L.Z om (og A.Z.lt));have I:Hd (OwnA Y (w.heap.size+2+1) s (k+1) q (gen (k+1) (jg W H xs))):=Jh (by rw [<-jG];refine cast (congrArg (fun (v:Int)=>OwnA Y (w.heap.size+2+1) s (k+1) q (gen k (jg W H xs)++ [v])) ?_) E;(unfold jg;rw [J.Z,Yc (4*jA W H xs ((k:Int) % (2*W)) ((k:Int)/(2*W))) om,Yc _ om];try omega));clear E z;go_wp2_with fail;go_roundw
   case rel=>exact ⟨k+1,s,q,om,by go_num,I.Z.other sI _,by first | exact t.Z.set 2 _ | (have h:=t.Z.set 2 (.slice s (k+1) q);simpa using h),M.Z.setCell sI _⟩
   exact Jm
 have b7: ¬(k:Int)<4*(n:Int):=by have:=HM.Z;omega
 obtain rfl:m=k:=om;have KR:Hd (Blk wr (w.heap.size+1) 32 ↑Zp):=Jh (Blk.below (Blk.zD _ _ sI) HW.Z sI);obtain ⟨r0,r1,r2,r3⟩:=KR.Z.c3;obtain ⟨q0,q1,q2⟩:=KR.Z.f3;go_wp2_with fail
 exact bodyPost_ret (v:= .agg #[.int .i64 (2*W), .int .i64 (2*H), .slice D _ C]) (by simp [results,results102,go_sem,r1,r2,r3]) rfl
  ⟨_,_,_,rfl,(((HO.Z.other (by simp;try omega) _).other (by simp;try omega) _).other (by simp;try omega) _).mono (by have:=P.Z.size;try simp;omega),om,
   ((P.Z.setCell sD _).setCell sD _).setCell sD _⟩
end
end Go.Proofs.YtlenfgdjdianiaaGreatDoor
