/- Facts on which this claim rests, 34. -/
import Derived.Test.YtlenfgdjdianiaaGreatDoorG9
import Derived.Test.YtlenfgdjdianiaaGreatDoorG12
set_option linter.all false
set_option maxHeartbeats 6400000
namespace Go.Proofs.YtlenfgdjdianiaaGreatDoor
section
variable {h n w x y : Nat} {xs : List Int}
open Tq Go.Proofs.Tryz
def Bl (w i:Nat):Nat:=w*(i/w)+(i % w+1) % w
def Gi (w i:Nat):Nat:=w*(i/w)+(i % w+(w - 1)) % w
def GI (w h i:Nat):Nat:=w*((i/w+1) % h)+i % w
def upI (w h i:Nat):Nat:=w*((i/w+(h - 1)) % h)+i % w
theorem Cv (e:x<w) (f:y<h):w*y+x<w*h:=by
 have:w*(y+1)<=w*h:=Nat.mul_le_mul_left w om;rw [Nat.mul_succ] at this;omega
theorem sP (e:x<w):(w*y+x)/w=y:=by
 rw [Nat.mul_add_div om,Nat.div_eq_of_lt e,Yy]
theorem sQ (e:x<w):(w*y+x) % w=x:=by
 rw [Nat.mul_add_mod,Nat.mod_eq_of_lt e]
section
variable {w h n i : Nat}
theorem Uj (hw:0<w) (hn:n=w*h) (hi:i<n):i % w<w/\i/w<h/\w*(i/w)+i % w=i:=
 ⟨Nat.mod_lt _ hw,by rw [Nat.div_lt_iff_lt_mul hw,Nat.mul_comm h w];omega,Nat.div_add_mod i w⟩
theorem zAZ (hw:0<w) (hn:n=w*h) (hi:i<n):Bl w i<n:=by
 obtain ⟨a,b,c⟩:=Uj hw hn hi;rw [hn];exact Cv (Nat.mod_lt _ hw) b
theorem zCE (hw:0<w) (hn:n=w*h) (hi:i<n):Gi w i<n:=by
 obtain ⟨a,b,c⟩:=Uj hw hn hi;rw [hn];exact Cv (Nat.mod_lt _ hw) b
theorem zBu (hw:0<w) (hn:n=w*h) (hi:i<n):GI w h i<n:=by
 obtain ⟨a,b,c⟩:=Uj hw hn hi;rw [hn];exact Cv a (Nat.mod_lt _ (Nat.lt_of_le_of_lt nZ b))
theorem zEA (hw:0<w) (hn:n=w*h) (hi:i<n):upI w h i<n:=by
 obtain ⟨a,b,c⟩:=Uj hw hn hi;rw [hn];exact Cv a (Nat.mod_lt _ (Nat.lt_of_le_of_lt nZ b))
end
def wT (w h:Nat) (xs:List Int) (i:Nat):Int:=xs.getD i 0+xs.getD (Bl w i) 0+xs.getD (Gi w i) 0+xs.getD (GI w h i) 0+xs.getD (upI w h i) 0
def qV (w h:Nat) (xs:List Int) (n:Nat) (m:Int):List Int:=gen n (fun i=>if m<=wT w h xs i then 1 else 0)
def aH (n:Nat) (xs:List Int):Prop:= ∀k,k<n->xs.getD k 0=0\/xs.getD k 0=1
theorem OX (hn:xs.length=n) (h:xM xs 1=true):aH n xs:=fun k hk=>by
 have:=jY h k om;simp only [Yh];omega
section
variable {w h n : Nat} {xs : List Int}
end
end
section
open Go.RowKit Tq Go.Proofs.Tryz
variable {B h i k n off : Nat} {E : Prop} {H W m : Int} {K : Act → World → Prop} {Q : Exit → Act → World → Prop} {a : Act} {b c w : World} {o : Oper} {ops : Array Oper} {row : Option Nat} {v : Value} {xs : List Int}
theorem bH (b1:1<=W) (b3:1<=H) (hq:(n:Int)=W*H) (hi:i<n):
 ∃P Q r R L D U d u:Int,(i:Int) % W=P/\(i:Int)/W=Q/\Q*W=r/\(P+1) % W=R/\(P - 1) % W=L/\(Q+1) % H=D/\(Q - 1) % H=U/\D*W=d/\U*W=u/\
  (0<=P/\P<W)/\(0<=Q/\Q<H)/\(0<=R/\R<W)/\(0<=L/\L<W)/\(0<=D/\D<H)/\(0<=U/\U<H)/\(0<=r/\r<=n)/\(0<=d/\d<=n)/\(0<=u/\u<=n)/\
  ((r+R).toNat=Bl W.toNat i/\r+R<n)/\((r+L).toNat=Gi W.toNat i/\r+L<n)/\((d+P).toNat=GI W.toNat H.toNat i/\d+P<n)/\((u+P).toNat=upI W.toNat H.toNat i/\u+P<n):=by
 obtain ⟨w,rfl⟩: ∃w:Nat,W=w:=⟨W.toNat,om⟩
 obtain ⟨h,rfl⟩: ∃h:Nat,H=h:=⟨H.toNat,om⟩
 have hn:n=w*h:=by have:((w*h:Nat):Int)=(w:Int)*(h:Int):=Int.natCast_mul _ _;omega
 obtain ⟨g1,g2,g3⟩:=Uj (by omega:0<w) hn hi;have e:=zAZ (by omega:0<w) hn hi;have f:=zCE (by omega:0<w) hn hi;have g:=zBu (by omega:0<w) hn hi;have j:=zEA (by omega:0<w) hn hi;have A:(i:Int) % (w:Int)=((i % w:Nat):Int):=nC;have C:(i:Int)/(w:Int)=((i/w:Nat):Int):=nC;unfold Bl at e⊢;unfold Gi at f⊢;unfold GI at g⊢;unfold upI at j⊢;simp only [Yu];obtain ⟨X,M⟩: ∃X,i % w=X:=⟨_,rfl⟩
 obtain ⟨Y,N⟩: ∃Y,i/w=Y:=⟨_,rfl⟩
 rw [M] at g1 A e f g j⊢;rw [N] at g2 C e f g j⊢;clear g3 M N;have O:(Y:Int)*(w:Int)=((w*Y:Nat):Int):=by rw [Nat.mul_comm];norm_cast
 have F:((X:Int)+1) % (w:Int)=(((X+1) % w:Nat):Int):=nC
 have z:((X:Int) - 1) % (w:Int)=(((X+(w - 1)) % w:Nat):Int):=by
  have h1:((X:Int) - 1) % (w:Int)=((X:Int) - 1+(w:Int)) % (w:Int):=by rw [Int.add_emod_right]
  have h2:(X:Int) - 1+(w:Int)=((X+(w - 1):Nat):Int):=om;rw [h1,h2];norm_cast
 have t:((Y:Int)+1) % (h:Int)=(((Y+1) % h:Nat):Int):=nC
 have G:((Y:Int) - 1) % (h:Int)=(((Y+(h - 1)) % h:Nat):Int):=by
  have h1:((Y:Int) - 1) % (h:Int)=((Y:Int) - 1+(h:Int)) % (h:Int):=by rw [Int.add_emod_right]
  have h2:(Y:Int) - 1+(h:Int)=((Y+(h - 1):Nat):Int):=om;rw [h1,h2];norm_cast
 have k1:=Nat.mod_lt (X+1) (show 0<w by omega);have k2:=Nat.mod_lt (X+(w - 1)) (show 0<w by omega);have k3:=Nat.mod_lt (Y+1) (show 0<h by omega);have k4:=Nat.mod_lt (Y+(h - 1)) (show 0<h by omega);obtain ⟨R,I⟩: ∃R,(X+1) % w=R:=⟨_,rfl⟩
 obtain ⟨L,hL⟩: ∃R,(X+(w - 1)) % w=R:=⟨_,rfl⟩
 obtain ⟨D,hD⟩: ∃R,(Y+1) % h=R:=⟨_,rfl⟩
 obtain ⟨U,J⟩: ∃R,(Y+(h - 1)) % h=R:=⟨_,rfl⟩
 rw [I] at F k1 e⊢;rw [hL] at z k2 f⊢;rw [hD] at t k3 g⊢;rw [J] at G k4 j⊢;have T:(D:Int)*(w:Int)=((w*D:Nat):Int):=by rw [Nat.mul_comm];norm_cast
 have V:(U:Int)*(w:Int)=((w*U:Nat):Int):=by rw [Nat.mul_comm];norm_cast
 clear I hL hD J;obtain ⟨a1,l⟩: ∃a,w*Y=a:=⟨_,rfl⟩
 obtain ⟨a2,q⟩: ∃a,w*D=a:=⟨_,rfl⟩
 obtain ⟨a3,s⟩: ∃a,w*U=a:=⟨_,rfl⟩
 rw [l] at O e f⊢;rw [q] at T g⊢;rw [s] at V j⊢;exact ⟨_,_,_,_,_,_,_,_,_,A,C,O,F,z,t,G,T,V,⟨om,om⟩,⟨om,om⟩,⟨om,om⟩,⟨om,om⟩,⟨om,om⟩,⟨om,om⟩,⟨om,om⟩,⟨om,om⟩,⟨om,om⟩,⟨om,om⟩,⟨om,om⟩,⟨om,om⟩,⟨om,om⟩⟩
theorem Vx (a n m:Int) (w:World) (h:1<=n) (h2:n<=64) (hm:a % n=m):
 Calls prog 144 #[a,n] w fun e w'=>e= .returned ↑m/\w=w':=by
 subst hm;exact Xr a n w h om
set_option maxRecDepth 100000 in
theorem Ta (W H:Int) (t:Option Addr) (n g:Nat) (xs:List Int) (i:Nat) (w:World) (hn:xs.length=n) (ha:Rd w t xs) (b1:1<=W) (b2:W<=64) (b3:1<=H) (b4:H<=64) (T:(n:Int)=W*H) (b0:n<=1024) (s:aH n xs) (hi:i<n):
 Calls prog 196 #[.agg #[W,H, .slice t n g],i] w fun e w'=>e= .returned ↑(wT W.toNat H.toNat xs i)/\Below w w w':=by
 obtain ⟨P,Q,r,R,L,D,U,d,u,z,J,er,M,I,G,N,ed,eu,⟨P0,P1⟩,⟨Q0,Q1⟩,⟨R0,R1⟩,⟨L0,L1⟩,⟨D0,D1⟩,⟨U0,U1⟩,⟨r0,r1⟩,⟨d0,d1⟩,⟨u0,u1⟩,⟨t1,l1⟩,⟨t2,l2⟩,⟨t3,l3⟩,⟨t4,l4⟩⟩:=bH b1 b3 T hi;obtain ⟨l,q,C,F,f⟩:=(ha.alloc (.cells #[W,H, .slice t n g] 31)).at om;have c0:=f i om;have c1:=f (r+R).toNat om;have c2:=f (r+L).toNat om;have c3:=f (d+P).toNat om;have c4:=f (u+P).toNat om;have x0:=s i hi;have x1:=s (r+R).toNat om;have x2:=s (r+L).toNat om;have x3:=s (d+P).toNat om;have x4:=s (u+P).toNat om;have E:Hd (wT W.toNat H.toNat xs i=xs.getD i 0+xs.getD (r+R).toNat 0+xs.getD (r+L).toNat 0+xs.getD (d+P).toNat 0+xs.getD (u+P).toNat 0):=Jh (by unfold wT;rw [t1,t2,t3,t4]);obtain ⟨V,O⟩: ∃V,wT W.toNat H.toNat xs i=V:=⟨_,rfl⟩
 rw [O] at E⊢;obtain ⟨v0,A⟩: ∃v,xs.getD i 0=v:=⟨_,rfl⟩
 obtain ⟨j,h1⟩: ∃v,xs.getD (r+R).toNat 0=v:=⟨_,rfl⟩
 obtain ⟨v2,h2⟩: ∃v,xs.getD (r+L).toNat 0=v:=⟨_,rfl⟩
 obtain ⟨v3,h3⟩: ∃v,xs.getD (d+P).toNat 0=v:=⟨_,rfl⟩
 obtain ⟨v4,h4⟩: ∃v,xs.getD (u+P).toNat 0=v:=⟨_,rfl⟩
 rw [A,h1,h2,h3,h4] at E;rw [A] at c0 x0;rw [h1] at c1 x1;rw [h2] at c2 x2;rw [h3] at c3 x3;rw [h4] at c4 x4;have y0:0<=v0/\v0<=1:=om;have y1:0<=j/\j<=1:=om;have y2:0<=v2/\v2<=1:=om;have y3:0<=v3/\v3<=1:=om;have y4:0<=v4/\v4<=1:=om;obtain ⟨d4,d5⟩:=y0;obtain ⟨d6,d7⟩:=y1;obtain ⟨d8,e0⟩:=y2;obtain ⟨e1,e2⟩:=y3;obtain ⟨e3,e4⟩:=y4;have ML:=Jh (fun v:World=>Vx (P - 1) W L v b1 b2 I);have MU:=Jh (fun v:World=>Vx (Q - 1) H U v b3 b4 N);have tR:(P+1).tmod W=R:=by rw [Yl om,M]
 have tD:(Q+1).tmod H=D:=by rw [Yl om,G]
 have k1:IntKind.i64.wrap (P+1)=P+1:=Yc _ om;have k2:IntKind.i64.wrap R=R:=Yc _ om;have k3:IntKind.i64.wrap (r+R)=r+R:=Yc _ om;have k4:IntKind.i64.wrap (P - 1)=P - 1:=Yc _ om;have k5:IntKind.i64.wrap (r+L)=r+L:=Yc _ om;have k6:IntKind.i64.wrap (Q+1)=Q+1:=Yc _ om;have k7:IntKind.i64.wrap D=D:=Yc _ om;have k8:IntKind.i64.wrap d=d:=Yc _ om;have k9:IntKind.i64.wrap (d+P)=d+P:=Yc _ om;have b5:IntKind.i64.wrap (Q - 1)=Q - 1:=Yc _ om;have b6:IntKind.i64.wrap u=u:=Yc _ om;have b7:IntKind.i64.wrap (u+P)=u+P:=Yc _ om;have b8:IntKind.i64.wrap (v0+j)=v0+j:=Yc _ om;have c5:IntKind.i64.wrap (v0+j+v2)=v0+j+v2:=Yc _ om;have c8:IntKind.i64.wrap (v0+j+v2+v3)=v0+j+v2+v3:=Yc _ om;have d2:IntKind.i64.wrap (v0+j+v2+v3+v4)=v0+j+v2+v3+v4:=Yc _ om;have z1: ¬W=0:=om;have z2:(W==0)=false:=sO;have z3: ¬H=0:=om;have z4:(H==0)=false:=sO;have g1:0<=r+R:=om;have g2:0<=r+L:=om;have g3:0<=d+P:=om;have g4:0<=u+P:=om;have i0:(0:Int)<=(i:Int):=om;have i1:(i:Int)<(n:Int):=om;subst C;have KP:=Jh (Blk.new w 31 #[W,H, .slice (some ↑(l,q)) n g]);obtain ⟨l0,X,o1,Y⟩:=KP.Z.c3;clear f x0 x1 x2 x3 x4 A h1 h2 h3 h4 O t1 t2 t3 t4 I N M G T ha hn s F;have w1:(i:Int) % W=P:=z;have w2:(i:Int)/W=Q:=J;have w3:(i:Int).tmod W=P:=by rw [Yl om,z]
 have d3:IntKind.i64.wrap P=P:=Yc _ om;clear z J;go_in;go_wp2_with fail;clear w1 w2 w3
 go_region_held3 (fun v=>Jc v w W/\Jc v (w,2) (.slice (some ↑(l,q)) n g)/\Jc v (l,q+i) v0/\Jc v (l,q+(r+R).toNat) j/\Jc v (l,q+(r+L).toNat) v2)
  (first | exact ⟨X,Y,c0,c1,c2⟩)
  (first | (go_at_call 144;((with_reducible refine (ML.Z _).mono ?_);rintro e v9 ⟨rfl,rfl⟩)))
 go_wp2
 go_region_held3 (fun v=>Jc v w W/\Jc v (w,1) H/\Jc v (w,2) (.slice (some ↑(l,q)) n g)/\Jc v (l,q+(d+P).toNat) v3/\Jc v (l,q+(u+P).toNat) v4)
  (first | exact ⟨X,o1,Y,c3,c4⟩)
  (first | (go_at_call 144;((with_reducible refine (MU.Z _).mono ?_);rintro e v9 ⟨rfl,rfl⟩)))
 go_wp2
 go_ret;exact ⟨yh (by rw [E.Z]),by first | exact nJ | exact nJ.drew | exact nJ.drew.drew⟩
def qE (m:Int) (W H:Int) (xs:List Int):Pic:=if zT W H xs 1=true then ⟨W,H,qV W.toNat H.toNat xs xs.length m⟩ else xF
theorem Oj (h: ¬zT W H xs 1=true):qE m W H xs=xF:=by unfold qE;rw [if_neg h]
theorem MO (hn:xs.length=n) (h:zT W H xs 1=true):qE m W H xs=⟨W,H,qV W.toNat H.toNat xs n m⟩:=by unfold qE;rw [if_pos h,hn]
theorem Sb {a:World} (h:a.grownBy b row) (hb:Below b b c):a.grownBy c row:=
 zY h ⟨hb.os,hb.tape,hb.output,hb.size,fun i hi _=>hb.block i hi⟩
theorem Ao (ys xs:List Int) (k:Nat) (hk:k<ys.length) (e:k<xs.length) (hv:ys.getD k 0=xs.getD k 0):zy ys xs k=zy ys xs (k+1):=by
 rw [<-yx ys xs k _ hk e rfl,hv];apply List.ext_getElem?;intro i;rw [List.getElem?_set];by_cases h:k=i
 subst h;rw [if_pos rfl,if_pos (by simp [zy];omega)];simp only [zy];rw [List.getElem?_append_right sO];simp only [Yj,Nat.min_eq_left (Nat.le_of_lt hk),Nat.sub_self,List.getElem?_drop,Yy];simp [List.getD,Ya e];rw [if_neg h]
theorem YP (w h:Nat) (xs:List Int) (n:Nat) (m:Int):(qV w h xs n m).length=n:=zk _ _
theorem MX {w:Nat} (hk:k<n):(qV w h xs n m).getD k 0=if m<=wT w h xs k then 1 else 0:=yY _ _ _ hk
theorem CB (W H:Int) (G:Option Addr) (n l:Nat) (xs:List Int) (f:Int) (w:World) (hn:xs.length=n) (ha:Rd w G xs) (hl:n<=↑Zn):
 Calls prog 145 #[.agg #[W,H, .slice G n l],f] w (uq w (qE f W H xs)):=by
 have I:=Jh hn;have P:=Jh ha;clear hn ha;by_cases hp:zT W H xs 1=true
 case neg=>
  have Y:zT W H xs 1=false:=by simpa using hp
  rw [Oj hp];clear hp;go_in;go_wp2_with fail;refine (jl _ _ _ _ _ xs _ I.Z (by exact (P.Z.alloc _).alloc _) hl).mono ?_;rintro e w1 ⟨rfl,hb⟩;have u:=Jh (nV.trans (hb.mono sO));have s:=Jh (((Blk.new w 31 #[W,H, .slice G n l]).alloc _).zA hb)
  have j:Hd (Blk w1 (w.heap.size+1) 31 ↑Zp):=by
   have h:=(Blk.new (w.alloc (.cells #[W,H, .slice G n l] 31)) 31 ↑Zp).zA hb;exact Jh (by simpa using h)
  obtain ⟨l1,c0,c1,c2⟩:=s.Z.c3;obtain ⟨m1,U,d1,d2⟩:=j.Z.c3;obtain ⟨f0,f1,f2⟩:=j.Z.f3;clear hb;rw [Y]
  go_wp2
  exact bodyPost_ret (v:= .agg ↑Zp) (by simp [results,results145,go_sem,U,d1,d2]) rfl ⟨none,0,0,rfl,oN,om,
   ((u.Z.setCell sD _).setCell sD _).setCell sD _⟩
 rw [MO I.Z hp];obtain ⟨t,hq,hi⟩:=yu I.Z hp;obtain ⟨b1,b2,b3,b4,b5,b6⟩:=yP t;obtain ⟨HQ,HI,HS⟩:=JF hq hi t;have b0:1<=n:=om;have X:n<=1024:=om;clear hq hi t;have HX:=Jh (OX I.Z HI.Z);go_in;go_wp2_with fail;refine (jl _ _ _ _ _ xs _ I.Z (by exact (P.Z.alloc _).alloc _) hl).mono ?_;rintro e w1 ⟨rfl,hb⟩;have u:=Jh (nV.trans (hb.mono sO));have s:=Jh (((Blk.new w 31 #[W,H, .slice G n l]).alloc _).zA hb)
 have j:Hd (Blk w1 (w.heap.size+1) 31 ↑Zp):=by
  have h:=(Blk.new (w.alloc (.cells #[W,H, .slice G n l] 31)) 31 ↑Zp).zA hb;exact Jh (by simpa using h)
 obtain ⟨l1,c0,c1,c2⟩:=s.Z.c3;obtain ⟨m1,U,d1,d2⟩:=j.Z.c3;obtain ⟨f0,f1,f2⟩:=j.Z.f3;clear hb;rw [hp];go_wp2_with fail;refine (qY W H n _ HS.Z HQ.Z).mono ?_;rintro e w2 ⟨g,rfl,hg,A,hb⟩;obtain ⟨C,M,N,HO⟩:=JG (u.Z.trans (hb.mono u.Z.size)) (s.Z.zA hb) (j.Z.zA hb) A;have D:Hd (w1.heap.size<=g):=Jh hg;clear hb hg A c0 c1 c2 U d1 d2 f0 f1 f2;obtain ⟨l2,c0,c1,c2⟩:=M.Z.c3
 go_wp2
 go_loopw [19] (fun i wr=> ∃k:Nat,k<=n/\i=↑k/\Own wr g n n (zy (qV W.toNat H.toNat xs n f) (List.replicate n 0) k)/\(w2.alloc (.cells #[W,H, .slice ↑g n n] 31)).grownBy wr (some g)) (fun i _=>n - (intOf i).toNat)
 exact ⟨0,nZ,rfl,by rw [xB];exact HO.Z.alloc _,yU _ _⟩;obtain ⟨k,hk,rfl,A,hg⟩:=hrel;have J:=Jh ((C.Z.alloc C.Z.size _).grown hg (oS C.Z.size) (by intro k hk;cases hk;have:=D.Z;omega));have KO:=Jh ((Blk.new w2 31 #[W,H, .slice ↑g n n]).grown hg (oS HO.Z.lt));obtain ⟨l0,o0,o1,o2⟩:=KO.Z.c3;have KP:=Jh ((M.Z.alloc _).grown hg (oT D.Z s.Z.lt));obtain ⟨l9,p0,p1,p2⟩:=KP.Z.c3;by_cases q:k<n
 . have CN:=Jh (Ta W H G n l xs k wr I.Z (P.Z.below J.Z) b1 b2 b3 b4 HQ.Z X HX.Z q)
   have O:=MX (w:=W.toNat) (h:=H.toNat) (xs:=xs) (m:=f) q;obtain ⟨V,hV⟩: ∃V,wT W.toNat H.toNat xs k=V:=⟨_,rfl⟩
   rw [hV] at CN O;clear hV;have HE:=Jh O;clear O;go_wp2_with fail;refine CN.Z.mono ?_;rintro e w5 ⟨rfl,hb⟩;obtain ⟨z,L,T⟩:=JF (A.below hb A.lt) (Sb hg hb) (KO.Z.zA hb);obtain ⟨l5,y0,y1,y2⟩:=T.Z.c3;clear hb A hg p0 p1 p2 o0 o1 o2 l0;by_cases le:f<=V
   . have g2:w5.cell? (g,k)=some ↑((zy (qV W.toNat H.toNat xs n f) (List.replicate n 0) k).getD k 0):=z.Z.cell q
     have g3:w5.frozen? (g,k)=false:=z.Z.frozen k;have t:=z.Z.set k 1;rw [yx (qV W.toNat H.toNat xs n f) _ k _ (by rw [YP];exact q) sO (by rw [HE.Z,if_pos le])] at t;have F:=Jh t;clear t
     go_wp2
     go_roundw
     . exact ⟨k+1,om,by go_num,by simpa using F.Z,yX L.Z _⟩
     exact Jm
   have t:=Ao (qV W.toNat H.toNat xs n f) (List.replicate n 0) k (by rw [YP];exact q) sO (by rw [HE.Z,if_neg le];simp [List.getD,q]);have F:Hd (Own w5 g n n (zy (qV W.toNat H.toNat xs n f) (List.replicate n 0) (k+1))):=Jh (by rw [<-t];exact z.Z);clear t
   go_wp2
   go_roundw
   . exact ⟨k+1,om,by go_num,F.Z,L.Z⟩
   exact Jm
 obtain rfl:n=k:=om;have KR:=Jh ((N.Z.alloc _).grown hg (oT D.Z N.Z.lt));obtain ⟨r0,r1,r2,r3⟩:=KR.Z.c3;obtain ⟨q0,q1,q2⟩:=KR.Z.f3;rw [jC (qV W.toNat H.toNat xs n f) _ n (by exact YP _ _ _ _ _) sI] at A;have R:=Jh A;clear A
 go_wp2
 exact bodyPost_ret (v:= .agg #[W,H, .slice ↑g n n]) (by simp [results,results145,go_sem,r1,r2,r3]) rfl
  ⟨_,_,_,rfl,OwnA.mk (((R.Z.other (oS D.Z) _).other (oS D.Z) _).other (oS D.Z) _) (oh D),om,
   ((J.Z.setCell sD _).setCell sD _).setCell sD _⟩
theorem LV (W H:Int) (l:Option Addr) (n f:Nat) (xs:List Int) (w:World) (hn:xs.length=n) (ha:Rd w l xs) (hl:n<=↑Zn):
 Calls prog 90 #[.agg #[W,H, .slice l n f]] w (uq w (qE 1 W H xs)):=by
 have z:=Jh hn;have u:=Jh ha;clear hn ha;go_in;go_wp2_with fail;refine (CB W H l n f xs 1 _ z.Z (by exact (u.Z.alloc _).alloc _) hl).mono ?_;rintro e w1 ⟨a,m,c,rfl,t,hm,hb⟩;obtain ⟨q,j,s⟩:=JF (zL (zM (zM (Below.refl w w) _) _) hb) ((Blk.zD (g:=w.heap.size+1) (w:=w.alloc (.cells #[W,H, .slice l n f] 31)) 31 ↑Zp sI).zA hb) t;obtain ⟨G,A,d1,d2⟩:=j.Z.c3;obtain ⟨C,D,F⟩:=j.Z.f3;clear t hb
 go_wp2
 exact bodyPost_ret (v:= .agg #[(qE 1 W H xs).W,(qE 1 W H xs).H, .slice a m c]) (by simp [results,results90,go_sem,A,d1,d2]) rfl
  ⟨a,m,c,rfl,(((s.Z.other sI _).other sI _).other sI _).mono sO,hm,((q.Z.setCell sD _).setCell sD _).setCell sD _⟩
theorem FV (W H:Int) (l:Option Addr) (n f:Nat) (xs:List Int) (w:World) (hn:xs.length=n) (ha:Rd w l xs) (hl:n<=↑Zn):
 Calls prog 91 #[.agg #[W,H, .slice l n f]] w (uq w (qE 5 W H xs)):=by
 have z:=Jh hn;have u:=Jh ha;clear hn ha;go_in;go_wp2_with fail;refine (CB W H l n f xs 5 _ z.Z (by exact (u.Z.alloc _).alloc _) hl).mono ?_;rintro e w1 ⟨a,m,c,rfl,t,hm,hb⟩;obtain ⟨q,j,s⟩:=JF (zL (zM (zM (Below.refl w w) _) _) hb) ((Blk.zD (g:=w.heap.size+1) (w:=w.alloc (.cells #[W,H, .slice l n f] 31)) 31 ↑Zp sI).zA hb) t;obtain ⟨G,A,d1,d2⟩:=j.Z.c3;obtain ⟨C,D,F⟩:=j.Z.f3;clear t hb
 go_wp2
 exact bodyPost_ret (v:= .agg #[(qE 5 W H xs).W,(qE 5 W H xs).H, .slice a m c]) (by simp [results,results91,go_sem,A,d1,d2]) rfl
  ⟨a,m,c,rfl,(((s.Z.other sI _).other sI _).other sI _).mono sO,hm,((q.Z.setCell sD _).setCell sD _).setCell sD _⟩
theorem Bh {b:Nat} (h:Rd w (some ↑(b,off)) xs) (s l:Nat):Rd w (some ↑(b,off+s)) ((xs.drop s).take l):=by
 intro k hk;rw [Yj,List.length_drop] at hk;obtain ⟨g,f,h1,h2,h3⟩:=h (s+k) om;have e:=Yd h1;simp only [Addr.mk.injEq] at e;obtain ⟨rfl,rfl,_⟩:=e;refine ⟨b,off+s,rfl,h2,?_⟩;rw [Nat.add_assoc,h3];congr 2;simp only [List.getD,List.getElem?_take,List.getElem?_drop];rw [if_pos om]
theorem Dk (b off n f s l:Nat) (S L:Int) (w:World) (g:S=(s:Int)) (hL:L=(l:Int)) (h1:1<=l) (h2:s+l<=n) (h3:n<=f) (h4:n<=1048576):
 Calls prog 247 #[.slice (some ↑(b,off)) n f,S,L] w fun e w'=>e= .returned (.slice (some ↑(b,off+s)) l l)/\w=w':=by
 subst g hL;have j:(0:Int)<=(s:Int):=om;have q:(s:Int)<=(s:Int)+(l:Int):=om;have t:(s:Int)+(l:Int)<=(f:Int):=om;have f3:(s:Int)+(l:Int)<=(s:Int)+(l:Int):=om;have u:((s:Int)+(l:Int)).toNat=s+l:=om;have z: ¬s+l=s:=om;go_in
 go_wp2
 go_ret;exact ⟨rfl,rfl⟩
theorem Oy (b off n f s:Nat) (S:Int) (w:World) (g:S=(s:Int)) (h2:s<=n) (h3:n<=f) (h4:n<=1048576):
 Calls prog 247 #[.slice (some ↑(b,off)) n f,S,Z0] w fun e w'=>e= .returned (.slice (some ↑(b,off)) 0 0)/\w=w':=by
 subst g;have j:(0:Int)<=(s:Int):=om;have l:(s:Int)<=(s:Int):=om;have q:(s:Int)<=(f:Int):=om;go_in
 go_wp2
 go_ret;exact ⟨rfl,rfl⟩
theorem Jo (W:Nat) (H:Int) (b off n f y:Nat) (Y:Int) (w:World) (l:Y=(y:Int)) (h1:1<=W) (t:y<=64) (s:W<=64) (h2:y*W+W<=n) (h3:n<=f) (h4:n<=1048576):
 Calls prog 205 #[.agg #[W,H, .slice (some ↑(b,off)) n f],Y] w (zR (.slice (some ↑(b,off+y*W)) W W) w):=by
 subst l;have g:((y:Int)*(W:Int))=((y*W:Nat):Int):=sI;have q:0<=(y:Int)*(W:Int):=Int.mul_nonneg om om;have b1:(y:Int)*(W:Int)<=1048576:=by rw [g];omega
 have j:=Jh g;clear g;go_in;go_wp2_with fail;refine (Dk b off n f (y*W) W _ _ _ j.Z rfl h1 h2 h3 h4).mono ?_;rintro e w2 ⟨rfl,rfl⟩
 go_wp2
 go_ret;exact ⟨rfl,nJ⟩
theorem IE (w:World)
 (u:o.guard=none) (s x:Operand) (A:o.op= .call {callee:= .builtin .append,args:=#[s,x],argTypes:=#[22,22]})
 (b off n b2 e m c2:Nat) (xs l:List Int) (F:a.eval s= .slice (some ↑(b,off)) n n) (G:a.eval x= .slice (some ↑(b2,e)) m c2) (hl:xs.length=n) (hm:l.length=m) (h1:1<=m) (hn:n+m<=1024)
 (hr: ∀j,j<n->w.cell? ⟨b,off+j,none⟩=some (.int .i64 (xs.getD j 0))) (I: ∀j,j<m->w.cell? ⟨b2,e+j,none⟩=some (.int .i64 (l.getD j 0)))
 (hK: ∀c w',OwnA w' w.heap.size ↑w (n+m) c (xs++l)->Below w w w'->K (a.put o.dst (.slice ↑w (n+m) c)) w'):
 if Region.wanted o (yielded ops a.tmps)=true then Oper.wp prog o a w K Q else E:=by
 have hw:Region.wanted o (yielded ops a.tmps)=true:=by simp [Region.wanted,u]
 rw [if_pos hw];obtain ⟨i,hi,C,g,D⟩:=info_parts YN
 have f:=run_append_grow (P:=prog) (w:=w) 22 o.type 3 i ↑Z0 underlying22 hi C ↑(b,off) n n (xs.map (Value.int .i64)) (by rw [g];simpa using hl) (fun j v hv=>by (have z:j<xs.length:=by have:=(List.getElem?_eq_some_iff.1 hv).1;simpa using this);rw [Addr.add_lit,hr j om,<-hv];simp [List.getD,z]) ↑(b2,e) m c2 (l.map (Value.int .i64)) (by rw [g];simpa using hm) (fun j v hv=>by (have z:j<l.length:=by have:=(List.getElem?_eq_some_iff.1 hv).1;simpa using this);rw [Addr.add_lit,I j om,<-hv];simp [List.getD,z]) om om (by
  rw [D];have:=nextslicecap_le (need:=n+m) (old:=n) om
  omega)
 unfold Oper.wp;simp [execOp,A,resolve,invoke,builtin,F,G,f,Result.andThen];have q:=grownCap_ge w (n+m) n 3;have t:=grownCap_le_maxLen w (n+m) n 3 (by unfold maxLen;omega);refine hK _ _ ?_ ?_;refine OwnA.mk ⟨sO,_,heap_alloc_new w.drew _,q,t,?_,?_⟩ nI;simp [Value.cells,Builtin.zeroCells];omega;simp [Value.cells];rw [<-List.append_assoc,List.take_append_of_le_length sO,Yk sO];exact zM bR.drew _
theorem Ac (w:World)
 (f:o.guard=none) (s x:Operand) (g:o.op= .call {callee:= .builtin .append,args:=#[s,x],argTypes:=#[22,22]})
 (A:Addr) (n c:Nat) (j:Addr) (c2:Nat) (l:a.eval s= .slice (some A) n c) (q:a.eval x= .slice (some j) 0 c2) (hc:n<=c)
 (hK:K (a.put o.dst (.slice (some A) n c)) w):
 if Region.wanted o (yielded ops a.tmps)=true then Oper.wp prog o a w K Q else E:=by
 have hw:Region.wanted o (yielded ops a.tmps)=true:=by simp [Region.wanted,f]
 rw [if_pos hw];obtain ⟨i,hi,t,u,z⟩:=info_parts YN
 have e:(Builtin.append_ #[22,22] o.type #[.slice (some A) n c, .slice (some j) 0 c2]).run prog w= .ok (.slice (some A) n c) w:=by
  simp [Builtin.append_,run_underlying underlying22,sizeOf,typeInfo,hi,Builtin.lenOf,Builtin.firstCells,hc,storeCells,loadCells,loadCellsFrom]
 unfold Oper.wp;simp [execOp,g,resolve,invoke,builtin,l,q,e,Result.andThen];exact hK
def YU (xs:List Int) (s:Nat):List Int:=xs.drop s++xs.take s
def rE (w:World) (n b:Nat) (xs:List Int) (e:Ending) (w':World):Prop:= ∃a c,e= .returned (.slice a n c)/\Rd w' a xs/\(∀x,zO a=some x->x=b\/w.heap.size<=x)/\Below w w w'
theorem Uq (b off n s l:Nat) (S:Int) (xs:List Int) (w:World) (hS:S=(s:Int)) (hn:xs.length=n) (hr:Rd w (some ↑(b,off)) xs) (h1:1<=n) (h2:n<=64) (V:n=s+l):
 Calls prog 245 #[.slice (some ↑(b,off)) n n,S] w (rE w n b (YU xs s)):=by
 subst hS;have D:=Jh hn;have X:=Jh hr;have k1:IntKind.i64.wrap ((n:Int) - (s:Int))=(l:Int):=by rw [show (n:Int) - (s:Int)=(l:Int) by omega];exact Yc _ om
 have f0:(0:Int)<=(s:Int):=om;have f1:(s:Int)<=(n:Int):=om;have q:=Jh V;have cs:s<=n:=om
 obtain ⟨t,T,A⟩: ∃t,(∀v:World,Calls prog 247 #[.slice (some ↑(b,off)) n n,s,l] v fun e w'=>e= .returned (.slice (some ⟨b,t,none⟩) l l)/\v=w')/\(1<=l->t=off+s):=by
  by_cases J:l=0
  subst J;exact ⟨off,fun v=>Oy b off n n s s v rfl cs nI om,fun h=>om⟩;exact ⟨off+s,fun v=>Dk b off n n s l s l v rfl rfl om om nI om,fun _=>rfl⟩
 have Y:=Jh T;have N:=Jh A;obtain ⟨b0,q0,O,lb,g⟩:=hr.at om;have P:=Yd O;simp only [Addr.mk.injEq] at P;obtain ⟨rfl,rfl,_⟩:=P;have M:=Jh g;clear hn hr V T A O g;go_in;go_upto_region 1 with fail;refine wp_region_held_drew (S:=fun v=>0<1) zK om ?_;intro f;refine zQ 0 ?_;refine zQ 1 ?_;refine zQ 2 ?_;refine zQ 3 ?_;refine zQ 4 ?_;refine zQ 5 ?_;refine zQ 7 ?_;refine zQ 8 ?_;refine zQ 9 ?_;refine yI 6 (fun K hK=>?_);go_simp
 go_at_call 247
 refine (Y.Z _).mono ?_;rintro e w2 ⟨rfl,rfl⟩;go_wp2_with fail;refine hK.out _ _ om (fun f=>?_);clear hK K;refine yI 10 (fun K hK=>?_);by_cases J:s=0
 case pos=>
  have z:l=n:=by have:=q.Z;omega
  subst J;refine Ac _ rfl (.tmp 11) (.tmp 14) rfl ⟨b,t,none⟩ l l ↑(b,off) n rfl (by rfl) nI ?_;(try simp only [List.getElem_toArray,List.getElem_cons_succ,List.getElem_cons_zero,Act.put,List.setIfInBounds_toArray,List.set_cons_zero,List.set_cons_succ]);refine hK.out _ _ om (fun f=>?_);clear hK K;refine zQ 11 ?_;(try simp only [List.getElem_toArray,List.getElem_cons_succ,List.getElem_cons_zero,Act.put,List.setIfInBounds_toArray,List.set_cons_zero,List.set_cons_succ]);refine wpAnyH_done zK ?_ _
  go_wp2
  go_ret;refine ⟨some ⟨b,t,none⟩,n,rfl,?_,fun x L=>Or.inl (by simpa [zO] using L.symm),bR.drew⟩;rw [N.Z om,Yy];unfold YU;simp only [List.drop_zero,List.take_zero,List.append_nil];exact X.Z.drew
 refine IE _ rfl (.tmp 11) (.tmp 14) rfl b t l b off s n (xs.drop s) (xs.take s) rfl rfl (by rw [List.length_drop];have:=D.Z;have:=q.Z;omega) (by rw [Yj];have:=D.Z;omega) om (oh q) (fun j U=>?_) (fun j U=>?_) ?_;rw [N.Z om,Nat.add_assoc];have:=M.Z (s+j) (zB D.Z q.Z);refine this.trans ?_;simp [List.getD,List.getElem?_drop];have:=M.Z j (zB D.Z q.Z);refine this.trans ?_;simp [List.getD,List.getElem?_take,U];intro c5 w5 C u;(try simp only [List.getElem_toArray,List.getElem_cons_succ,List.getElem_cons_zero,Act.put,List.setIfInBounds_toArray,List.set_cons_zero,List.set_cons_succ]);refine hK.out _ _ om (fun f=>?_);clear hK K;refine zQ 11 ?_;(try simp only [List.getElem_toArray,List.getElem_cons_succ,List.getElem_cons_zero,Act.put,List.setIfInBounds_toArray,List.set_cons_zero,List.set_cons_succ]);refine wpAnyH_done zK ?_ _;have I:=Jh C;have F:=Jh u;have z:l+s=n:=by have:=q.Z;omega
 clear C u
 go_wp2
 go_ret;exact ⟨some ↑w,c5,(show Ending.returned (Value.slice ↑w (l+s) c5)=Ending.returned (Value.slice ↑w n c5) by rw [z]),I.Z.rd,fun x L=>Or.inr (by simp only [zO,Option.some.injEq] at L;omega),bR.drew.trans F.Z⟩
theorem zDB:(prog.info? 5).map (fun i=>(i.zero,i.size,i.bytes))=some (some (.int .u8 0),1,1):=zK
def uK (w:World) (B:Nat) (v:Value) (n:Nat) (xs:List Int):Prop:=w.ownsRow B 5 1 v n (xs.map (Value.int .u8))
def Ug (xs:List Int):Prop:= ∀x,x ∈ xs->0<=x/\x<=255
theorem AA (w:World) {rest:List Oper}
 (l:o.guard=none) (s x:Operand) (q:o.op= .call {callee:= .builtin .append,args:=#[s,x],argTypes:=#[72,72]})
 (B n:Nat) (C:Value) (xs:List Int) (I:a.eval s=C) (G:uK w B C n xs) (g:Nat) (v:Int) (J:a.eval x= .slice ↑g 1 1)
 (hc:w.cell? g=some (.int .u8 v)) (hn:n<=1048576) (F:B<=w.heap.size)
 (hK: ∀f w',uK w' B f (n+1) (xs++ [v])->w.grownBy w' C.ownBlock->wpList prog ops Q rest (a.put o.dst f) w'):
 wpList prog ops Q (o::rest) a w:=by
 obtain ⟨i,hi,t,z,A⟩:=info_parts zDB;refine wpList_append_own w l s x 72 q B 5 i (.int .u8 0) 1 1 underlying72 hi t z A rfl dC _ n (xs.map (Value.int .u8)) I G ↑g 1 1 [.int .u8 v] J rfl ?_ ?_ (by unfold maxLen;omega) om F ?_;intro j u e
 match j,e with
 | 0,e=>simp at e;subst e;simpa [Addr.add] using hc
 intro u D;simp at D;subst D;rfl;intro f w' h2 h3 _;exact hK f w' (by unfold uK;simpa using h2) h3
theorem uK.new (w:World) (v:Int):uK (w.alloc (.cells #[.int .u8 v] 5)) w (.slice ↑w 1 1) 1 [v]:=
 ⟨sI, .inr ⟨w.heap.size,1,#[.int .u8 v],rfl,nI,heap_alloc_new w _,om,by unfold maxLen;omega,sI,sI⟩⟩
theorem uK.alloc {w:World} {B n:Nat} {v:Value} {xs:List Int} (h:uK w B v n xs) (o:Obj):uK (w.alloc o) B v n xs:=by
 obtain ⟨hl,h⟩:=h;refine ⟨hl,?_⟩;rcases h with h | ⟨g,e,f,j,l,hg,r⟩
 exact .inl h;exact .inr ⟨g,e,f,j,l,(Below.heap_alloc w o g (Array.getElem?_eq_some_iff.1 hg).1).trans hg,r⟩
theorem uK.rd (h:uK w B v n xs) (hb:Ug xs): ∃q e,v= .slice q n e/\xs.length=n/\RdU w w q xs:=by
 obtain ⟨hl,h⟩:=h;simp at hl;rcases h with ⟨rfl,rfl⟩ | ⟨g,e,f,rfl,s,hg,h1,h2,h3,h4⟩
 obtain rfl:xs=[]:=List.eq_nil_of_length_eq_zero hl;exact ⟨Option.none,0,rfl,rfl,fun k hk=>by simp at hk⟩;refine ⟨_,e,rfl,hl,fun k hk=>?_⟩;have j:=(Array.getElem?_eq_some_iff.1 hg).1;have hm:xs.getD k 0 ∈ xs:=by simp [List.getD,Ya hk]
 refine ⟨hb _ hm,g,0,rfl,j,j,?_⟩;rw [Nat.zero_add,cell_of_row w g k f 5 (0,0) hg];rw [Nat.mul_one] at h4;have l:(f.toList.take n)[k]? =(xs.map (Value.int .u8))[k]?:=by rw [h4]
 rw [List.getElem?_take,if_pos om] at l;simp only [Array.getElem?_toList] at l;rw [l];simp [List.getD,Ya hk]
theorem uK.own (h:uK w B v n xs): ∀b,v.ownBlock=some b->B<=b/\b<w.heap.size:=by
 obtain ⟨hl,h⟩:=h;intro b hb;rcases h with ⟨rfl,rfl⟩ | ⟨g,e,f,rfl,j,hg,r⟩
 simp [Value.ownBlock] at hb;simp only [Value.ownBlock,Option.some.injEq] at hb;subst hb;exact ⟨j,(Array.getElem?_eq_some_iff.1 hg).1⟩
theorem Ug.snoc {v:Int} (h:Ug xs) (e:0<=v) (h1:v<=255):Ug (xs++ [v]):=by
 intro x hx;rcases List.mem_append.1 hx with hx | hx
 exact h x hx;simp at hx;subst hx;exact ⟨e,h1⟩
end
end Go.Proofs.YtlenfgdjdianiaaGreatDoor
