/- Facts on which this claim rests, 33. -/
import Derived.Test.YtlenfgdjdianiaaGreatDoorF32
set_option linter.all false
set_option maxHeartbeats 6400000
namespace Go.Proofs.YtlenfgdjdianiaaGreatDoor
open Go.RowKit Tq Go.Proofs.Tryz
variable {B h i k n off : Nat} {E : Prop} {H W m : Int} {K : Act → World → Prop} {Q : Exit → Act → World → Prop} {a : Act} {b c w : World} {o : Oper} {ops : Array Oper} {row : Option Nat} {v : Value} {xs : List Int}
theorem zIn (b1:1<=W) (b3:1<=H) (T:(n:Int)=W*H) (hi:i<n):
 ∃P Q r R L D U d u:Int,(i:Int) % W=P/\(i:Int)/W=Q/\Q*W=r/\(P+1) % W=R/\(P - 1) % W=L/\(Q+1) % H=D/\(Q - 1) % H=U/\D*W=d/\U*W=u/\
  (0<=P/\P<W)/\(0<=Q/\Q<H)/\(0<=R/\R<W)/\(0<=L/\L<W)/\(0<=D/\D<H)/\(0<=U/\U<H)/\(0<=r/\r<=n)/\(0<=d/\d<=n)/\(0<=u/\u<=n)/\
  ((r+R).toNat=UD W.toNat i/\r+R<n)/\((r+L).toNat=zAy W.toNat i/\r+L<n)/\((d+P).toNat=zAj W.toNat H.toNat i/\d+P<n)/\((u+P).toNat=upI W.toNat H.toNat i/\u+P<n):=by
 obtain ⟨w,rfl⟩: ∃w:Nat,W=w:=⟨W.toNat,om⟩
 obtain ⟨h,rfl⟩: ∃h:Nat,H=h:=⟨H.toNat,om⟩
 have hn:n=w*h:=by have:((w*h:Nat):Int)=(w:Int)*(h:Int):=Int.natCast_mul _ _;omega
 obtain ⟨g1,g2,g3⟩:=KV (by omega:0<w) hn hi;have e:=zOF (by omega:0<w) hn hi;have f:=zPe (by omega:0<w) hn hi;have g:=zPW (by omega:0<w) hn hi;have j:=zRY (by omega:0<w) hn hi;have y:(i:Int) % (w:Int)=((i % w:Nat):Int):=nC;have z:(i:Int)/(w:Int)=((i/w:Nat):Int):=nC;unfold UD at e⊢;unfold zAy at f⊢;unfold zAj at g⊢;unfold upI at j⊢;simp only [Yu];obtain ⟨X,I⟩: ∃X,i % w=X:=⟨_,rfl⟩
 obtain ⟨Y,J⟩: ∃Y,i/w=Y:=⟨_,rfl⟩
 rw [I] at g1 y e f g j⊢;rw [J] at g2 z e f g j⊢;clear g3 I J;have M:(Y:Int)*(w:Int)=((w*Y:Nat):Int):=by rw [Nat.mul_comm];norm_cast
 have A:((X:Int)+1) % (w:Int)=(((X+1) % w:Nat):Int):=nC
 have x:((X:Int) - 1) % (w:Int)=(((X+(w - 1)) % w:Nat):Int):=by
  have h1:((X:Int) - 1) % (w:Int)=((X:Int) - 1+(w:Int)) % (w:Int):=by rw [Int.add_emod_right]
  have h2:(X:Int) - 1+(w:Int)=((X+(w - 1):Nat):Int):=om;rw [h1,h2];norm_cast
 have t:((Y:Int)+1) % (h:Int)=(((Y+1) % h:Nat):Int):=nC
 have C:((Y:Int) - 1) % (h:Int)=(((Y+(h - 1)) % h:Nat):Int):=by
  have h1:((Y:Int) - 1) % (h:Int)=((Y:Int) - 1+(h:Int)) % (h:Int):=by rw [Int.add_emod_right]
  have h2:(Y:Int) - 1+(h:Int)=((Y+(h - 1):Nat):Int):=om;rw [h1,h2];norm_cast
 have k1:=Nat.mod_lt (X+1) (show 0<w by omega);have k2:=Nat.mod_lt (X+(w - 1)) (show 0<w by omega);have k3:=Nat.mod_lt (Y+1) (show 0<h by omega);have k4:=Nat.mod_lt (Y+(h - 1)) (show 0<h by omega);obtain ⟨R,F⟩: ∃R,(X+1) % w=R:=⟨_,rfl⟩
 obtain ⟨L,hL⟩: ∃R,(X+(w - 1)) % w=R:=⟨_,rfl⟩
 obtain ⟨D,hD⟩: ∃R,(Y+1) % h=R:=⟨_,rfl⟩
 obtain ⟨U,G⟩: ∃R,(Y+(h - 1)) % h=R:=⟨_,rfl⟩
 rw [F] at A k1 e⊢;rw [hL] at x k2 f⊢;rw [hD] at t k3 g⊢;rw [G] at C k4 j⊢;have N:(D:Int)*(w:Int)=((w*D:Nat):Int):=by rw [Nat.mul_comm];norm_cast
 have O:(U:Int)*(w:Int)=((w*U:Nat):Int):=by rw [Nat.mul_comm];norm_cast
 clear F hL hD G;obtain ⟨a1,l⟩: ∃a,w*Y=a:=⟨_,rfl⟩
 obtain ⟨a2,q⟩: ∃a,w*D=a:=⟨_,rfl⟩
 obtain ⟨a3,s⟩: ∃a,w*U=a:=⟨_,rfl⟩
 rw [l] at M e f⊢;rw [q] at N g⊢;rw [s] at O j⊢;exact ⟨_,_,_,_,_,_,_,_,_,y,z,M,A,x,t,C,N,O,⟨om,om⟩,⟨om,om⟩,⟨om,om⟩,⟨om,om⟩,⟨om,om⟩,⟨om,om⟩,⟨om,om⟩,⟨om,om⟩,⟨om,om⟩,⟨om,om⟩,⟨om,om⟩,⟨om,om⟩,⟨om,om⟩⟩
theorem XY (a n m:Int) (w:World) (h:1<=n) (h2:n<=64) (hm:a % n=m):
 Calls prog 144 #[a,n] w fun e w'=>e= .returned ↑m/\w=w':=by
 subst hm;exact wN a n w h om
set_option maxRecDepth 100000 in
theorem zHF (W H:Int) (t:Option Addr) (n g:Nat) (xs:List Int) (i:Nat) (w:World) (hn:xs.length=n) (ha:Rd w t xs) (b1:1<=W) (b2:W<=64) (b3:1<=H) (b4:H<=64) (N:(n:Int)=W*H) (b0:n<=1024) (s:zIK n xs) (hi:i<n):
 Calls prog 196 #[.agg #[W,H, .slice t n g],i] w fun e w'=>e= .returned ↑(vx W.toNat H.toNat xs i)/\Below w w w':=by
 obtain ⟨P,Q,r,R,L,D,U,d,u,x,G,er,I,F,C,J,ed,eu,⟨P0,P1⟩,⟨Q0,Q1⟩,⟨R0,R1⟩,⟨L0,L1⟩,⟨D0,D1⟩,⟨U0,U1⟩,⟨r0,r1⟩,⟨d0,d1⟩,⟨u0,u1⟩,⟨X,l1⟩,⟨t2,l2⟩,⟨t3,l3⟩,⟨t4,l4⟩⟩:=zIn b1 b3 N hi;obtain ⟨l,q,z,A,f⟩:=(ha.alloc (.cells #[W,H, .slice t n g] 31)).at om;have c0:=f i om;have c1:=f (r+R).toNat om;have c2:=f (r+L).toNat om;have c3:=f (d+P).toNat om;have c4:=f (u+P).toNat om;have Y:=s i hi;have x1:=s (r+R).toNat om;have x2:=s (r+L).toNat om;have x3:=s (d+P).toNat om;have x4:=s (u+P).toNat om;have E:Hd (vx W.toNat H.toNat xs i=xs.getD i 0+xs.getD (r+R).toNat 0+xs.getD (r+L).toNat 0+xs.getD (d+P).toNat 0+xs.getD (u+P).toNat 0):=Jh (by unfold vx;rw [X,t2,t3,t4]);obtain ⟨V,M⟩: ∃V,vx W.toNat H.toNat xs i=V:=⟨_,rfl⟩
 rw [M] at E⊢;obtain ⟨v0,y⟩: ∃v,xs.getD i 0=v:=⟨_,rfl⟩
 obtain ⟨j,h1⟩: ∃v,xs.getD (r+R).toNat 0=v:=⟨_,rfl⟩
 obtain ⟨v2,h2⟩: ∃v,xs.getD (r+L).toNat 0=v:=⟨_,rfl⟩
 obtain ⟨v3,h3⟩: ∃v,xs.getD (d+P).toNat 0=v:=⟨_,rfl⟩
 obtain ⟨v4,h4⟩: ∃v,xs.getD (u+P).toNat 0=v:=⟨_,rfl⟩
 rw [y,h1,h2,h3,h4] at E;rw [y] at c0 Y;rw [h1] at c1 x1;rw [h2] at c2 x2;rw [h3] at c3 x3;rw [h4] at c4 x4;have y0:0<=v0/\v0<=1:=om;have y1:0<=j/\j<=1:=om;have y2:0<=v2/\v2<=1:=om;have y3:0<=v3/\v3<=1:=om;have y4:0<=v4/\v4<=1:=om;obtain ⟨d4,d5⟩:=y0;obtain ⟨d6,d7⟩:=y1;obtain ⟨d8,e0⟩:=y2;obtain ⟨e1,e2⟩:=y3;obtain ⟨e3,e4⟩:=y4;have ML:=Jh (fun v:World=>XY (P - 1) W L v b1 b2 F);have MU:=Jh (fun v:World=>XY (Q - 1) H U v b3 b4 J);have tR:(P+1).tmod W=R:=by rw [Yl om,I]
 have tD:(Q+1).tmod H=D:=by rw [Yl om,C]
 have k1:IntKind.i64.wrap (P+1)=P+1:=Yc _ om;have k2:IntKind.i64.wrap R=R:=Yc _ om;have k3:IntKind.i64.wrap (r+R)=r+R:=Yc _ om;have k4:IntKind.i64.wrap (P - 1)=P - 1:=Yc _ om;have k5:IntKind.i64.wrap (r+L)=r+L:=Yc _ om;have k6:IntKind.i64.wrap (Q+1)=Q+1:=Yc _ om;have k7:IntKind.i64.wrap D=D:=Yc _ om;have k8:IntKind.i64.wrap d=d:=Yc _ om;have k9:IntKind.i64.wrap (d+P)=d+P:=Yc _ om;have b5:IntKind.i64.wrap (Q - 1)=Q - 1:=Yc _ om;have b6:IntKind.i64.wrap u=u:=Yc _ om;have b7:IntKind.i64.wrap (u+P)=u+P:=Yc _ om;have b8:IntKind.i64.wrap (v0+j)=v0+j:=Yc _ om;have c5:IntKind.i64.wrap (v0+j+v2)=v0+j+v2:=Yc _ om;have c8:IntKind.i64.wrap (v0+j+v2+v3)=v0+j+v2+v3:=Yc _ om;have d2:IntKind.i64.wrap (v0+j+v2+v3+v4)=v0+j+v2+v3+v4:=Yc _ om;have z1: ¬W=0:=om;have z2:(W==0)=false:=sO;have z3: ¬H=0:=om;have z4:(H==0)=false:=sO;have g1:0<=r+R:=om;have g2:0<=r+L:=om;have g3:0<=d+P:=om;have g4:0<=u+P:=om;have i0:(0:Int)<=(i:Int):=om;have i1:(i:Int)<(n:Int):=om;subst z;have KP:=Jh (Blk.new w 31 #[W,H, .slice (some ↑(l,q)) n g]);obtain ⟨l0,O,o1,T⟩:=KP.Z.c3;clear f Y x1 x2 x3 x4 y h1 h2 h3 h4 M X t2 t3 t4 F J I C N ha hn s A;have w1:(i:Int) % W=P:=x;have w2:(i:Int)/W=Q:=G;have w3:(i:Int).tmod W=P:=by rw [Yl om,x]
 have d3:IntKind.i64.wrap P=P:=Yc _ om;clear x G;go_in;go_wp2_with fail;clear w1 w2 w3
 go_region_held3 (fun v=>Jc v w W/\Jc v (w,2) (.slice (some ↑(l,q)) n g)/\Jc v (l,q+i) v0/\Jc v (l,q+(r+R).toNat) j/\Jc v (l,q+(r+L).toNat) v2)
  (first | exact ⟨O,T,c0,c1,c2⟩)
  (first | (go_at_call 144;((with_reducible refine (ML.Z _).mono ?_);rintro e v9 ⟨rfl,rfl⟩)))
 go_wp2_with fail
 go_region_held3 (fun v=>Jc v w W/\Jc v (w,1) H/\Jc v (w,2) (.slice (some ↑(l,q)) n g)/\Jc v (l,q+(d+P).toNat) v3/\Jc v (l,q+(u+P).toNat) v4)
  (first | exact ⟨O,o1,T,c3,c4⟩)
  (first | (go_at_call 144;((with_reducible refine (MU.Z _).mono ?_);rintro e v9 ⟨rfl,rfl⟩)))
 go_wp2_with fail;go_ret;exact ⟨yf (by rw [E.Z]),by first | exact nJ | exact nJ.drew | exact nJ.drew.drew⟩
def jv (m:Int) (W H:Int) (xs:List Int):Pic:=if zP W H xs 1=true then ⟨W,H,jQ W.toNat H.toNat xs xs.length m⟩ else yb
theorem zEp (h: ¬zP W H xs 1=true):jv m W H xs=yb:=by unfold jv;rw [if_neg h]
theorem VZ (hn:xs.length=n) (h:zP W H xs 1=true):jv m W H xs=⟨W,H,jQ W.toNat H.toNat xs n m⟩:=by unfold jv;rw [if_pos h,hn]
theorem zGb {a:World} (h:a.grownBy b row) (hb:Below b b c):a.grownBy c row:=
 zU h ⟨hb.os,hb.tape,hb.output,hb.size,fun i hi _=>hb.block i hi⟩
theorem VY (e xs:List Int) (k:Nat) (hk:k<e.length) (f:k<xs.length) (hv:e.getD k 0=xs.getD k 0):zn e xs k=zn e xs (k+1):=by
 rw [<-yd e xs k _ hk f rfl,hv];apply List.ext_getElem?;intro i;rw [List.getElem?_set];by_cases h:k=i
 subst h;rw [if_pos rfl,if_pos (by simp [zn];omega)];simp only [zn];rw [List.getElem?_append_right sO];simp only [Yj,Nat.min_eq_left (Nat.le_of_lt hk),Nat.sub_self,List.getElem?_drop,Yy];simp [List.getD,Ya f];rw [if_neg h]
theorem uQ (w h:Nat) (xs:List Int) (n:Nat) (m:Int):(jQ w h xs n m).length=n:=zZ _ _
theorem zDE {w:Nat} (hk:k<n):(jQ w h xs n m).getD k 0=if m<=vx w h xs k then 1 else 0:=yN _ _ _ hk
theorem UO (W H:Int) (D:Option Addr) (n l:Nat) (xs:List Int) (f:Int) (w:World) (hn:xs.length=n) (ha:Rd w D xs) (hl:n<=9223372036854775807):
 Calls prog 145 #[.agg #[W,H, .slice D n l],f] w (jl w (jv f W H xs)):=by
 have F:=Jh hn;have N:=Jh ha;clear hn ha;by_cases hp:zP W H xs 1=true
 case neg=>
  have U:zP W H xs 1=false:=by simpa using hp
  rw [zEp hp];clear hp;go_in;go_wp2_with fail;refine (kK _ _ _ _ _ xs _ F.Z (by exact (N.Z.alloc _).alloc _) hl).mono ?_;rintro e w1 ⟨rfl,hb⟩;have u:=Jh (nV.trans (hb.mono sO));have s:=Jh (((Blk.new w 31 #[W,H, .slice D n l]).alloc _).zA hb)
  have j:Hd (Blk w1 (w.heap.size+1) 31 ↑Zp):=by
   have h:=(Blk.new (w.alloc (.cells #[W,H, .slice D n l] 31)) 31 ↑Zp).zA hb;exact Jh (by simpa using h)
  obtain ⟨l1,c0,c1,c2⟩:=s.Z.c3;obtain ⟨m1,R,d1,d2⟩:=j.Z.c3;obtain ⟨f0,f1,f2⟩:=j.Z.f3;clear hb;rw [U];go_wp2_with fail
  exact bodyPost_ret (v:= .agg ↑Zp) (by simp [results,results145,go_sem,R,d1,d2]) rfl ⟨none,0,0,rfl,oN,om,
   ((u.Z.setCell sD _).setCell sD _).setCell sD _⟩
 rw [VZ F.Z hp];obtain ⟨t,hq,hi⟩:=yH F.Z hp;obtain ⟨b1,b2,b3,b4,b5,b6⟩:=yF t;have HQ:=Jh hq;have HI:=Jh hi;have HS:=Jh t;have b0:1<=n:=om;have T:n<=1024:=om;clear hq hi t;have HX:=Jh (zEd F.Z HI.Z);go_in;go_wp2_with fail;refine (kK _ _ _ _ _ xs _ F.Z (by exact (N.Z.alloc _).alloc _) hl).mono ?_;rintro e w1 ⟨rfl,hb⟩;have u:=Jh (nV.trans (hb.mono sO));have s:=Jh (((Blk.new w 31 #[W,H, .slice D n l]).alloc _).zA hb)
 have j:Hd (Blk w1 (w.heap.size+1) 31 ↑Zp):=by
  have h:=(Blk.new (w.alloc (.cells #[W,H, .slice D n l] 31)) 31 ↑Zp).zA hb;exact Jh (by simpa using h)
 obtain ⟨l1,c0,c1,c2⟩:=s.Z.c3;obtain ⟨m1,R,d1,d2⟩:=j.Z.c3;obtain ⟨f0,f1,f2⟩:=j.Z.f3;clear hb;rw [hp];go_wp2_with fail;refine (jZ W H n _ HS.Z HQ.Z).mono ?_;rintro e w2 ⟨g,rfl,hg,y,hb⟩;have z:=Jh (u.Z.trans (hb.mono u.Z.size));have J:=Jh (s.Z.zA hb);have L:=Jh (j.Z.zA hb);have HO:=Jh y;have A:Hd (w1.heap.size<=g):=Jh hg;clear hb hg y c0 c1 c2 R d1 d2 f0 f1 f2;obtain ⟨l2,c0,c1,c2⟩:=J.Z.c3;go_wp2_with fail
 go_loopw [19] (fun i wr=> ∃k:Nat,k<=n/\i=↑k/\Own wr g n n (zn (jQ W.toNat H.toNat xs n f) (List.replicate n 0) k)/\(w2.alloc (.cells #[W,H, .slice ↑g n n] 31)).grownBy wr (some g)) (fun i _=>n - (intOf i).toNat)
 case atStart=>exact ⟨0,nZ,rfl,by rw [yh];exact HO.Z.alloc _,yR _ _⟩
 obtain ⟨k,hk,rfl,y,hg⟩:=hrel;have G:=Jh ((z.Z.alloc z.Z.size _).grown hg (oS z.Z.size) (by intro k hk;cases hk;have:=A.Z;omega));have KO:=Jh ((Blk.new w2 31 #[W,H, .slice ↑g n n]).grown hg (oS HO.Z.lt));obtain ⟨l0,o0,o1,o2⟩:=KO.Z.c3;have KP:=Jh ((J.Z.alloc _).grown hg (oT A.Z s.Z.lt));obtain ⟨l9,p0,p1,p2⟩:=KP.Z.c3;by_cases q:k<n
 . have Y:=Jh (zHF W H D n l xs k wr F.Z (N.Z.below G.Z) b1 b2 b3 b4 HQ.Z T HX.Z q)
   have M:=zDE (w:=W.toNat) (h:=H.toNat) (xs:=xs) (m:=f) q;obtain ⟨V,hV⟩: ∃V,vx W.toNat H.toNat xs k=V:=⟨_,rfl⟩
   rw [hV] at Y M;clear hV;have HE:=Jh M;clear M;go_wp2_with fail;refine Y.Z.mono ?_;rintro e X ⟨rfl,hb⟩;have x:=Jh (y.below hb y.lt);have I:=Jh (zGb hg hb);have P:=Jh (KO.Z.zA hb);obtain ⟨l5,y0,y1,y2⟩:=P.Z.c3;clear hb y hg p0 p1 p2 o0 o1 o2 l0;by_cases le:f<=V
   . have g2:X.cell? (g,k)=some ↑((zn (jQ W.toNat H.toNat xs n f) (List.replicate n 0) k).getD k 0):=x.Z.cell q
     have g3:X.frozen? (g,k)=false:=x.Z.frozen k;have t:=x.Z.set k 1;rw [yd (jQ W.toNat H.toNat xs n f) _ k _ (by rw [uQ];exact q) sO (by rw [HE.Z,if_pos le])] at t;have C:=Jh t;clear t;go_wp2_with fail;go_roundw
     case rel=>exact ⟨k+1,om,by go_num,by simpa using C.Z,yO I.Z _⟩
     exact Jm
   have t:=VY (jQ W.toNat H.toNat xs n f) (List.replicate n 0) k (by rw [uQ];exact q) sO (by rw [HE.Z,if_neg le];simp [List.getD,q]);have C:Hd (Own X g n n (zn (jQ W.toNat H.toNat xs n f) (List.replicate n 0) (k+1))):=Jh (by rw [<-t];exact x.Z);clear t;go_wp2_with fail;go_roundw
   case rel=>exact ⟨k+1,om,by go_num,C.Z,I.Z⟩
   exact Jm
 obtain rfl:n=k:=om;have KR:=Jh ((L.Z.alloc _).grown hg (oT A.Z L.Z.lt));obtain ⟨r0,r1,r2,r3⟩:=KR.Z.c3;obtain ⟨q0,q1,q2⟩:=KR.Z.f3;rw [xY (jQ W.toNat H.toNat xs n f) _ n (by exact uQ _ _ _ _ _) sI] at y;have O:=Jh y;clear y;go_wp2_with fail
 exact bodyPost_ret (v:= .agg #[W,H, .slice ↑g n n]) (by simp [results,results145,go_sem,r1,r2,r3]) rfl
  ⟨_,_,_,rfl,OwnA.mk (((O.Z.other (oS A.Z) _).other (oS A.Z) _).other (oS A.Z) _) (oh A),om,
   ((G.Z.setCell sD _).setCell sD _).setCell sD _⟩
theorem zCR (W H:Int) (l:Option Addr) (n f:Nat) (xs:List Int) (w:World) (hn:xs.length=n) (ha:Rd w l xs) (hl:n<=9223372036854775807):
 Calls prog 90 #[.agg #[W,H, .slice l n f]] w (jl w (jv 1 W H xs)):=by
 have x:=Jh hn;have u:=Jh ha;clear hn ha;go_in;go_wp2_with fail;refine (UO W H l n f xs 1 _ x.Z (by exact (u.Z.alloc _).alloc _) hl).mono ?_;rintro e w1 ⟨a,m,c,rfl,t,hm,hb⟩;have q:=Jh (zI (zJ (zJ (Below.refl w w) _) _) hb);have j:=Jh ((Blk.zD (g:=w.heap.size+1) (w:=w.alloc (.cells #[W,H, .slice l n f] 31)) 31 ↑Zp sI).zA hb);have s:=Jh t;obtain ⟨D,y,d1,d2⟩:=j.Z.c3;obtain ⟨z,A,C⟩:=j.Z.f3;clear t hb;go_wp2_with fail
 exact bodyPost_ret (v:= .agg #[(jv 1 W H xs).W,(jv 1 W H xs).H, .slice a m c]) (by simp [results,results90,go_sem,y,d1,d2]) rfl
  ⟨a,m,c,rfl,(((s.Z.other sI _).other sI _).other sI _).mono sO,hm,((q.Z.setCell sD _).setCell sD _).setCell sD _⟩
theorem zAP (W H:Int) (l:Option Addr) (n f:Nat) (xs:List Int) (w:World) (hn:xs.length=n) (ha:Rd w l xs) (hl:n<=9223372036854775807):
 Calls prog 91 #[.agg #[W,H, .slice l n f]] w (jl w (jv 5 W H xs)):=by
 have x:=Jh hn;have u:=Jh ha;clear hn ha;go_in;go_wp2_with fail;refine (UO W H l n f xs 5 _ x.Z (by exact (u.Z.alloc _).alloc _) hl).mono ?_;rintro e w1 ⟨a,m,c,rfl,t,hm,hb⟩;have q:=Jh (zI (zJ (zJ (Below.refl w w) _) _) hb);have j:=Jh ((Blk.zD (g:=w.heap.size+1) (w:=w.alloc (.cells #[W,H, .slice l n f] 31)) 31 ↑Zp sI).zA hb);have s:=Jh t;obtain ⟨D,y,d1,d2⟩:=j.Z.c3;obtain ⟨z,A,C⟩:=j.Z.f3;clear t hb;go_wp2_with fail
 exact bodyPost_ret (v:= .agg #[(jv 5 W H xs).W,(jv 5 W H xs).H, .slice a m c]) (by simp [results,results91,go_sem,y,d1,d2]) rfl
  ⟨a,m,c,rfl,(((s.Z.other sI _).other sI _).other sI _).mono sO,hm,((q.Z.setCell sD _).setCell sD _).setCell sD _⟩
theorem zIZ (h:zP W H xs 1=true):zP W H (jQ W.toNat H.toNat xs xs.length m) 1=true:=by
 obtain ⟨h1,h2,h3⟩:=yH rfl h;unfold zP;rw [h1,decide_eq_true (by rw [uQ];exact h2),zFH];rfl
theorem UA {b:Nat} (h:Rd w (some ↑(b,off)) xs) (s l:Nat):Rd w (some ↑(b,off+s)) ((xs.drop s).take l):=by
 intro k hk;rw [Yj,List.length_drop] at hk;obtain ⟨g,f,h1,h2,h3⟩:=h (s+k) om;have e:=Yd h1;simp only [Addr.mk.injEq] at e;obtain ⟨rfl,rfl,_⟩:=e;refine ⟨b,off+s,rfl,h2,?_⟩;rw [Nat.add_assoc,h3];congr 2;simp only [List.getD,List.getElem?_take,List.getElem?_drop];rw [if_pos om]
theorem QH (b off n f s l:Nat) (S L:Int) (w:World) (g:S=(s:Int)) (hL:L=(l:Int)) (h1:1<=l) (h2:s+l<=n) (h3:n<=f) (h4:n<=1048576):
 Calls prog 247 #[.slice (some ↑(b,off)) n f,S,L] w fun e w'=>e= .returned (.slice (some ↑(b,off+s)) l l)/\w=w':=by
 subst g hL;have j:(0:Int)<=(s:Int):=om;have q:(s:Int)<=(s:Int)+(l:Int):=om;have t:(s:Int)+(l:Int)<=(f:Int):=om;have f3:(s:Int)+(l:Int)<=(s:Int)+(l:Int):=om;have u:((s:Int)+(l:Int)).toNat=s+l:=om;have x: ¬s+l=s:=om;go_in;go_wp2_with fail;go_ret;exact ⟨rfl,rfl⟩
theorem zFA (b off n f s:Nat) (S:Int) (w:World) (g:S=(s:Int)) (h2:s<=n) (h3:n<=f) (h4:n<=1048576):
 Calls prog 247 #[.slice (some ↑(b,off)) n f,S,Z0] w fun e w'=>e= .returned (.slice (some ↑(b,off)) 0 0)/\w=w':=by
 subst g;have j:(0:Int)<=(s:Int):=om;have l:(s:Int)<=(s:Int):=om;have q:(s:Int)<=(f:Int):=om;go_in;go_wp2_with fail;go_ret;exact ⟨rfl,rfl⟩
theorem Zz (W:Nat) (H:Int) (b off n f y:Nat) (Y:Int) (w:World) (l:Y=(y:Int)) (h1:1<=W) (t:y<=64) (s:W<=64) (h2:y*W+W<=n) (h3:n<=f) (h4:n<=1048576):
 Calls prog 205 #[.agg #[W,H, .slice (some ↑(b,off)) n f],Y] w (zR (.slice (some ↑(b,off+y*W)) W W) w):=by
 subst l;have g:((y:Int)*(W:Int))=((y*W:Nat):Int):=sI;have q:0<=(y:Int)*(W:Int):=Int.mul_nonneg om om;have b1:(y:Int)*(W:Int)<=1048576:=by rw [g];omega
 have j:=Jh g;clear g;go_in;go_wp2_with fail;refine (QH b off n f (y*W) W _ _ _ j.Z rfl h1 h2 h3 h4).mono ?_;rintro e w2 ⟨rfl,rfl⟩;go_wp2_with fail;go_ret;exact ⟨rfl,nJ⟩
theorem zBe (w:World)
 (u:o.guard=none) (s x:Operand) (z:o.op= .call {callee:= .builtin .append,args:=#[s,x],argTypes:=#[22,22]})
 (b off n b2 e m c2:Nat) (xs l:List Int) (D:a.eval s= .slice (some ↑(b,off)) n n) (F:a.eval x= .slice (some ↑(b2,e)) m c2) (hl:xs.length=n) (hm:l.length=m) (h1:1<=m) (hn:n+m<=1024)
 (hr: ∀j,j<n->w.cell? ⟨b,off+j,none⟩=some (.int .i64 (xs.getD j 0))) (G: ∀j,j<m->w.cell? ⟨b2,e+j,none⟩=some (.int .i64 (l.getD j 0)))
 (hK: ∀c w',OwnA w' w.heap.size ↑w (n+m) c (xs++l)->Below w w w'->K (a.put o.dst (.slice ↑w (n+m) c)) w'):
 if Region.wanted o (yielded ops a.tmps)=true then Oper.wp prog o a w K Q else E:=by
 have hw:Region.wanted o (yielded ops a.tmps)=true:=by simp [Region.wanted,u]
 rw [if_pos hw];obtain ⟨i,hi,A,g,C⟩:=info_parts qD
 have f:=run_append_grow (P:=prog) (w:=w) 22 o.type 3 i ↑Z0 underlying22 hi A ↑(b,off) n n (xs.map (Value.int .i64)) (by rw [g];simpa using hl) (fun j v hv=>by
  have y:j<xs.length:=by have:=(List.getElem?_eq_some_iff.1 hv).1;simpa using this
  rw [Addr.add_lit,hr j om,<-hv]
  simp [List.getD,y]) ↑(b2,e) m c2 (l.map (Value.int .i64)) (by rw [g];simpa using hm) (fun j v hv=>by
  have y:j<l.length:=by have:=(List.getElem?_eq_some_iff.1 hv).1;simpa using this
  rw [Addr.add_lit,G j om,<-hv]
  simp [List.getD,y]) om om (by
  rw [C];have:=nextslicecap_le (need:=n+m) (old:=n) om
  omega)
 unfold Oper.wp;simp [execOp,z,resolve,invoke,builtin,D,F,f,Result.andThen];have q:=grownCap_ge w (n+m) n 3;have t:=grownCap_le_maxLen w (n+m) n 3 (by unfold maxLen;omega);refine hK _ _ ?_ ?_;refine OwnA.mk ⟨sO,_,heap_alloc_new w.drew _,q,t,?_,?_⟩ nI;simp [Value.cells,Builtin.zeroCells];omega;simp [Value.cells];rw [<-List.append_assoc,List.take_append_of_le_length sO,Yk sO];exact zJ bR.drew _
theorem VJ (w:World)
 (f:o.guard=none) (s x:Operand) (g:o.op= .call {callee:= .builtin .append,args:=#[s,x],argTypes:=#[22,22]})
 (A:Addr) (n c:Nat) (j:Addr) (c2:Nat) (l:a.eval s= .slice (some A) n c) (q:a.eval x= .slice (some j) 0 c2) (hc:n<=c)
 (hK:K (a.put o.dst (.slice (some A) n c)) w):
 if Region.wanted o (yielded ops a.tmps)=true then Oper.wp prog o a w K Q else E:=by
 have hw:Region.wanted o (yielded ops a.tmps)=true:=by simp [Region.wanted,f]
 rw [if_pos hw];obtain ⟨i,hi,t,u,y⟩:=info_parts qD
 have e:(Builtin.append_ #[22,22] o.type #[.slice (some A) n c, .slice (some j) 0 c2]).run prog w= .ok (.slice (some A) n c) w:=by
  simp [Builtin.append_,run_underlying underlying22,sizeOf,typeInfo,hi,Builtin.lenOf,Builtin.firstCells,hc,storeCells,loadCells,loadCellsFrom]
 unfold Oper.wp;simp [execOp,g,resolve,invoke,builtin,l,q,e,Result.andThen];exact hK
def qN (xs:List Int) (s:Nat):List Int:=xs.drop s++xs.take s
def zMp (w:World) (n b:Nat) (xs:List Int) (e:Ending) (w':World):Prop:= ∃a c,e= .returned (.slice a n c)/\Rd w' a xs/\(∀x,zL a=some x->x=b\/w.heap.size<=x)/\Below w w w'
theorem Kd (b off n s l:Nat) (S:Int) (xs:List Int) (w:World) (hS:S=(s:Int)) (hn:xs.length=n) (hr:Rd w (some ↑(b,off)) xs) (h1:1<=n) (h2:n<=64) (U:n=s+l):
 Calls prog 245 #[.slice (some ↑(b,off)) n n,S] w (zMp w n b (qN xs s)):=by
 subst hS;have C:=Jh hn;have V:=Jh hr;have k1:IntKind.i64.wrap ((n:Int) - (s:Int))=(l:Int):=by rw [show (n:Int) - (s:Int)=(l:Int) by omega];exact Yc _ om
 have f0:(0:Int)<=(s:Int):=om;have f1:(s:Int)<=(n:Int):=om;have q:=Jh U;have Y:s<=n:=om
 obtain ⟨t,P,z⟩: ∃t,(∀v:World,Calls prog 247 #[.slice (some ↑(b,off)) n n,s,l] v fun e w'=>e= .returned (.slice (some ⟨b,t,none⟩) l l)/\v=w')/\(1<=l->t=off+s):=by
  by_cases I:l=0
  subst I;exact ⟨off,fun v=>zFA b off n n s s v rfl Y nI om,fun h=>om⟩;exact ⟨off+s,fun v=>QH b off n n s l s l v rfl rfl om om nI om,fun _=>rfl⟩
 have X:=Jh P;have M:=Jh z;obtain ⟨b0,q0,N,lb,g⟩:=hr.at om;have O:=Yd N;simp only [Addr.mk.injEq] at O;obtain ⟨rfl,rfl,_⟩:=O;have L:=Jh g;clear hn hr U P z N g;go_in;go_upto_region 1 with fail;refine wp_region_held_drew (S:=fun v=>0<1) zK om ?_;intro f;refine zO 0 ?_;refine zO 1 ?_;refine zO 2 ?_;refine zO 3 ?_;refine zO 4 ?_;refine zO 5 ?_;refine zO 7 ?_;refine zO 8 ?_;refine zO 9 ?_;refine zy 6 (fun K hK=>?_);go_simp
 go_at_call 247
 refine (X.Z _).mono ?_;rintro e w2 ⟨rfl,rfl⟩;go_wp2_with fail;refine hK.out _ _ om (fun f=>?_);clear hK K;refine zy 10 (fun K hK=>?_);by_cases I:s=0
 case pos=>
  have y:l=n:=by have:=q.Z;omega
  subst I;refine VJ _ rfl (.tmp 11) (.tmp 14) rfl ⟨b,t,none⟩ l l ↑(b,off) n rfl (by rfl) nI ?_;(try simp only [List.getElem_toArray,List.getElem_cons_succ,List.getElem_cons_zero,Act.put,List.setIfInBounds_toArray,List.set_cons_zero,List.set_cons_succ]);refine hK.out _ _ om (fun f=>?_);clear hK K;refine zO 11 ?_;(try simp only [List.getElem_toArray,List.getElem_cons_succ,List.getElem_cons_zero,Act.put,List.setIfInBounds_toArray,List.set_cons_zero,List.set_cons_succ]);refine wpAnyH_done zK ?_ _;go_wp2_with fail;go_ret;refine ⟨some ⟨b,t,none⟩,n,rfl,?_,fun x J=>Or.inl (by simpa [zL] using J.symm),bR.drew⟩;rw [M.Z om,Yy];unfold qN;simp only [List.drop_zero,List.take_zero,List.append_nil];exact V.Z.drew
 refine zBe _ rfl (.tmp 11) (.tmp 14) rfl b t l b off s n (xs.drop s) (xs.take s) rfl rfl (by rw [List.length_drop];have:=C.Z;have:=q.Z;omega) (by rw [Yj];have:=C.Z;omega) om (oh q) (fun j T=>?_) (fun j T=>?_) ?_;rw [M.Z om,Nat.add_assoc];have:=L.Z (s+j) (zB C.Z q.Z);refine this.trans ?_;simp [List.getD,List.getElem?_drop];have:=L.Z j (zB C.Z q.Z);refine this.trans ?_;simp [List.getD,List.getElem?_take,T];intro c5 w5 A u;(try simp only [List.getElem_toArray,List.getElem_cons_succ,List.getElem_cons_zero,Act.put,List.setIfInBounds_toArray,List.set_cons_zero,List.set_cons_succ]);refine hK.out _ _ om (fun f=>?_);clear hK K;refine zO 11 ?_;(try simp only [List.getElem_toArray,List.getElem_cons_succ,List.getElem_cons_zero,Act.put,List.setIfInBounds_toArray,List.set_cons_zero,List.set_cons_succ]);refine wpAnyH_done zK ?_ _;have F:=Jh A;have D:=Jh u;have y:l+s=n:=by have:=q.Z;omega
 clear A u;go_wp2_with fail;go_ret;exact ⟨some ↑w,c5,(show Ending.returned (Value.slice ↑w (l+s) c5)=Ending.returned (Value.slice ↑w n c5) by rw [y]),F.Z.rd,fun x J=>Or.inr (by simp only [zL,Option.some.injEq] at J;omega),bR.drew.trans D.Z⟩
theorem zFE:(prog.info? 5).map (fun i=>(i.zero,i.size,i.bytes))=some (some (.int .u8 0),1,1):=zK
def xy (w:World) (B:Nat) (v:Value) (n:Nat) (xs:List Int):Prop:=w.ownsRow B 5 1 v n (xs.map (Value.int .u8))
def KI (xs:List Int):Prop:= ∀x,x ∈ xs->0<=x/\x<=255
theorem Jt (w:World) {rest:List Oper}
 (l:o.guard=none) (s x:Operand) (q:o.op= .call {callee:= .builtin .append,args:=#[s,x],argTypes:=#[72,72]})
 (B n:Nat) (A:Value) (xs:List Int) (G:a.eval s=A) (F:xy w B A n xs) (g:Nat) (v:Int) (I:a.eval x= .slice ↑g 1 1)
 (hc:w.cell? g=some (.int .u8 v)) (hn:n<=1048576) (D:B<=w.heap.size)
 (hK: ∀f w',xy w' B f (n+1) (xs++ [v])->w.grownBy w' A.ownBlock->wpList prog ops Q rest (a.put o.dst f) w'):
 wpList prog ops Q (o::rest) a w:=by
 obtain ⟨i,hi,t,y,z⟩:=info_parts zFE;refine wpList_append_own w l s x 72 q B 5 i (.int .u8 0) 1 1 underlying72 hi t y z rfl dC _ n (xs.map (Value.int .u8)) G F ↑g 1 1 [.int .u8 v] I rfl ?_ ?_ (by unfold maxLen;omega) om D ?_;intro j u e
 match j,e with
 | 0,e=>simp at e;subst e;simpa [Addr.add] using hc
 intro u C;simp at C;subst C;rfl;intro f w' h2 h3 _;exact hK f w' (by unfold xy;simpa using h2) h3
theorem xy.new (w:World) (v:Int):xy (w.alloc (.cells #[.int .u8 v] 5)) w (.slice ↑w 1 1) 1 [v]:=
 ⟨sI, .inr ⟨w.heap.size,1,#[.int .u8 v],rfl,nI,heap_alloc_new w _,om,by unfold maxLen;omega,sI,sI⟩⟩
theorem xy.alloc {w:World} {B n:Nat} {v:Value} {xs:List Int} (h:xy w B v n xs) (o:Obj):xy (w.alloc o) B v n xs:=by
 obtain ⟨hl,h⟩:=h;refine ⟨hl,?_⟩;rcases h with h | ⟨g,e,f,j,l,hg,r⟩
 exact .inl h;exact .inr ⟨g,e,f,j,l,(Below.heap_alloc w o g (Array.getElem?_eq_some_iff.1 hg).1).trans hg,r⟩
theorem xy.rd (h:xy w B v n xs) (hb:KI xs): ∃q e,v= .slice q n e/\xs.length=n/\RdU w w q xs:=by
 obtain ⟨hl,h⟩:=h;simp at hl;rcases h with ⟨rfl,rfl⟩ | ⟨g,e,f,rfl,s,hg,h1,h2,h3,h4⟩
 obtain rfl:xs=[]:=List.eq_nil_of_length_eq_zero hl;exact ⟨Option.none,0,rfl,rfl,fun k hk=>by simp at hk⟩;refine ⟨_,e,rfl,hl,fun k hk=>?_⟩;have j:=(Array.getElem?_eq_some_iff.1 hg).1;have hm:xs.getD k 0 ∈ xs:=by simp [List.getD,Ya hk]
 refine ⟨hb _ hm,g,0,rfl,j,j,?_⟩;rw [Nat.zero_add,cell_of_row w g k f 5 (0,0) hg];rw [Nat.mul_one] at h4;have l:(f.toList.take n)[k]? =(xs.map (Value.int .u8))[k]?:=by rw [h4]
 rw [List.getElem?_take,if_pos om] at l;simp only [Array.getElem?_toList] at l;rw [l];simp [List.getD,Ya hk]
theorem xy.own (h:xy w B v n xs): ∀b,v.ownBlock=some b->B<=b/\b<w.heap.size:=by
 obtain ⟨hl,h⟩:=h;intro b hb;rcases h with ⟨rfl,rfl⟩ | ⟨g,e,f,rfl,j,hg,r⟩
 simp [Value.ownBlock] at hb;simp only [Value.ownBlock,Option.some.injEq] at hb;subst hb;exact ⟨j,(Array.getElem?_eq_some_iff.1 hg).1⟩
theorem KI.snoc {v:Int} (h:KI xs) (e:0<=v) (h1:v<=255):KI (xs++ [v]):=by
 intro x hx;rcases List.mem_append.1 hx with hx | hx
 exact h x hx;simp at hx;subst hx;exact ⟨e,h1⟩
end Go.Proofs.YtlenfgdjdianiaaGreatDoor
