/- Facts on which this claim rests, 29. -/
import Derived.Test.YtlenfgdjdianiaaGreatDoorG7
import Derived.Test.YtlenfgdjdianiaaGreatDoorG8
import Derived.Test.YtlenfgdjdianiaaGreatDoorG12
set_option linter.all false
set_option maxHeartbeats 6400000
namespace Go.Proofs.YtlenfgdjdianiaaGreatDoor
open Go.RowKit Tq Go.Proofs.Tryz
variable {E : Prop} {H W v : Int} {K : Act → World → Prop} {P : Program} {Q : Exit → Act → World → Prop} {a : Act} {ad : Option Addr} {c : Nat → Int} {i k n : Nat} {ls : List Nat} {o : Oper} {ops : Array Oper} {w : World} {xs : List Int}
theorem Bw (a n:Int) (w:World) (h1:1<=n) (h2:n<=256) (h3:-256<=a) (h4:a<=256):
 Calls prog 293 #[a,n] w fun e w'=>e= .returned ↑(yT a n)/\w=w':=by
 have b1:=Yg a (show n≠0 by omega);have b2:=Ye a (show 0<n by omega);go_in;go_wp2_with fail;refine (Xr _ _ _ h1 om).mono ?_;rintro e w2 ⟨rfl,rfl⟩;go_wp2_with fail;refine (Xr _ _ _ h1 om).mono ?_;rintro e w2 ⟨rfl,rfl⟩;go_wp2_with fail
 all_goals (go_ret;exact ⟨yh (by unfold yT;omega),rfl⟩)
theorem Gd (a b n:Int) (w:World) (h1:1<=n) (h2:n<=256) (h3:0<=a) (h4:a<=256) (f:0<=b) (g:b<=256):
 Calls prog 300 #[a,b,n] w fun e w'=>e= .returned ↑(yT (b - a) n)/\w=w':=by
 have b1:=Yg (b - a) (show n≠0 by omega);have b2:=Ye (b - a) (show 0<n by omega);go_in;go_wp2_with fail;refine (YM _ _ _ h1 om).mono ?_;rintro e w2 ⟨rfl,rfl⟩;go_wp2_with fail
 all_goals (go_ret;exact ⟨yh (by unfold yT;omega),rfl⟩)
theorem KW (g:1<=W) (e:W<=256) (hn:(n:Int)=W*H) (f:n<=256) (hi:i<n): ∃P Q:Int,(i:Int) % W=P/\(i:Int)/W=Q/\(i:Int).tmod W=P/\(i:Int).tdiv W=Q/\0<=P/\P<=255/\0<=Q/\Q<=255:=by
 refine ⟨_,_,rfl,rfl,Yl om,Yt om,Yg _ om,?_,Yw om om,?_⟩;have:=Ye (i:Int) (show 0<W by omega);omega;have:=Int.ediv_le_self (b:=W) (show 0<=(i:Int) by omega);omega
theorem dK (W H:Int) (ad:Option Addr) (n b i k:Nat) (w:World) (u:1<=W) (f:W<=256) (I:1<=H) (hH2:H<=256) (hn:(n:Int)=W*H) (q:n<=256) (hi:i<n) (hk:k<n):
 Calls prog 273 #[.agg #[W,H, .slice ad n b],i,k] w fun e w'=>e= .returned ↑(ZM W H i k)/\Below w w w':=by
 obtain ⟨P,Q,C,D,tP,tQ,p0,p1,q0,q1⟩:=KW u f hn q hi;obtain ⟨g,j,l,m,b1,b2,T,U,V,b0⟩:=KW u f hn q hk;have B:Hd (ZM W H i k=yT (P - g) W*yT (P - g) W+yT (Q - j) H*yT (Q - j) H):=Jh (by unfold ZM;rw [C,D,l,m]);obtain ⟨x,y⟩:=uR (d:=P - g) u;obtain ⟨z,A⟩:=uR (d:=Q - j) I;obtain ⟨X,s⟩: ∃X,yT (P - g) W=X:=⟨_,rfl⟩
 obtain ⟨Y,t⟩: ∃Y,yT (Q - j) H=Y:=⟨_,rfl⟩
 rw [s] at x y;rw [t] at z A;have J:=Yr y y x om;have L:=Yr A A z om;have M:=Yr f f om om;have N:=Yr hH2 hH2 om om;have O:=UA x;have R:=UA z;have u1:IntKind.i64.wrap P=P:=Yc _ om;have u2:IntKind.i64.wrap g=g:=Yc _ om;have u3:IntKind.i64.wrap Q=Q:=Yc _ om;have u4:IntKind.i64.wrap j=j:=Yc _ om;have u5:IntKind.i64.wrap (P - g)=P - g:=Yc _ om;have u6:IntKind.i64.wrap (Q - j)=Q - j:=Yc _ om;have u7:IntKind.i64.wrap (X*X)=X*X:=Yc _ om;have u8:IntKind.i64.wrap (Y*Y)=Y*Y:=Yc _ om;have u9:IntKind.i64.wrap (X*X+Y*Y)=X*X+Y*Y:=Yc _ om;have z1: ¬W=0:=om;have z2:(W==0)=false:=sO;rw [s,t] at B;have F:=Jh s;have G:=Jh t;clear C D l m s t J L M N O R;go_in;go_wp2_with fail;have c0:=(Blk.new w 31 #[W,H, .slice ad n b]).cell 0;have c1:=(Blk.new w 31 #[W,H, .slice ad n b]).cell 1;simp only [Yi,List.getElem?_cons_zero,List.getElem?_cons_succ] at c0 c1
 go_region_held3 (fun v=>Jc v w W/\v=(w.alloc (.cells #[W,H, .slice ad n b] 31)).drew)
  (first | exact ⟨c0,rfl⟩)
  (first
   | (go_at_call 293;((with_reducible refine (Bw _ _ _ om om om om).mono ?_);rintro e v1 ⟨rfl,rfl⟩;rw [F.Z])))
 go_wp2
 go_region_held3 (fun v=>Jc v w W/\Jc v (w,1) H)
  (first | exact ⟨c0,c1⟩)
  (first
   | (go_at_call 293;((with_reducible refine (Bw _ _ _ om om om om).mono ?_);rintro e v1 ⟨rfl,rfl⟩;rw [G.Z])))
 go_wp2
 go_ret;exact ⟨yh B.Z.symm,(((Joins.below_alloc1 w _).drew).drew)⟩
theorem Eh (W H:Int) (n i k:Nat) (w:World) (s:1<=W) (b:W<=256) (J:1<=H) (hH2:H<=256) (hn:(n:Int)=W*H) (q:n<=256) (hi:i<n) (hk:k<n):
 Calls prog 287 #[W,H, .agg #[.int .i64 ((i:Int) % W), .int .i64 ((i:Int)/W)], .agg #[.int .i64 ((k:Int) % W), .int .i64 ((k:Int)/W)]] w fun e w'=>e= .returned ↑(ZM W H i k)/\Below w w w':=by
 rw [ME s J];obtain ⟨P,Q,x,y,tP,tQ,p0,p1,q0,q1⟩:=KW s b hn q hi;obtain ⟨f,j,l,m,z,A,b2,b3,b4,b5⟩:=KW s b hn q hk;have G:Hd (ZM W H k i=yT (f - P) W*yT (f - P) W+yT (j - Q) H*yT (j - Q) H):=Jh (by unfold ZM;rw [x,y,l,m]);rw [x,y,l,m];obtain ⟨B,C⟩:=uR (d:=f - P) s;obtain ⟨D,F⟩:=uR (d:=j - Q) J;obtain ⟨X,t⟩: ∃X,yT (f - P) W=X:=⟨_,rfl⟩
 obtain ⟨Y,u⟩: ∃Y,yT (j - Q) H=Y:=⟨_,rfl⟩
 rw [t] at B C;rw [u] at D F;have R:=Yr C C B om;have T:=Yr F F D om;have U:=Yr b b om om;have V:=Yr hH2 hH2 om om;have m5:=UA B;have m6:=UA D;have u7:IntKind.i64.wrap (X*X)=X*X:=Yc _ om;have u8:IntKind.i64.wrap (Y*Y)=Y*Y:=Yc _ om;have u9:IntKind.i64.wrap (X*X+Y*Y)=X*X+Y*Y:=Yc _ om;rw [t,u] at G;have N:=Jh t;have O:=Jh u;clear x y l m tP tQ z A t u R T U V m5 m6 hn hi hk;go_in;go_wp2_with fail;have L:=(Blk.new w 176 #[P,Q]).alloc (.cells #[f,j] 176);have M:=Blk.zD (g:=w.heap.size+1) (w:=w.alloc (.cells #[P,Q] 176)) 176 #[f,j] sI;have a0:=L.cell 0;have a1:=L.cell 1;have I:=M.cell 0;have b1:=M.cell 1;simp only [Yi,List.getElem?_cons_zero,List.getElem?_cons_succ] at a0 a1 I b1
 go_region_held3 (fun v=>Jc v w P/\Jc v (w,1) Q/\Jc v ↑(w.heap.size+1) f/\Jc v (w.heap.size+1,1) j)
  (first | exact ⟨a0,a1,I,b1⟩)
  (first
   | (go_at_call 300;((with_reducible refine (Gd _ _ _ _ om om om om om om).mono ?_);rintro e v1 ⟨rfl,rfl⟩;first | rw [N.Z] | rw [O.Z])))
 all_goals (
  go_wp2
  go_ret
  exact ⟨yh G.Z.symm,((Joins.below_alloc2 w _ _).drew)⟩)
theorem Vd (W H:Int) (ad:Option Addr) (n f:Nat) (xs:List Int) (w:World) (hn:xs.length=n) (ha:Rd w ad xs) (hl:n<=↑Zn):
 Calls prog 155 #[.agg #[W,H, .slice ad n f]] w (zR (.bool (zx W H xs)) w):=by
 have j:=Jh hn;have m:=Jh ha;clear hn ha;go_in;go_wp2_with fail;refine (jl _ _ _ _ _ xs _ j.Z (by exact m.Z.alloc _) hl).mono ?_;rintro e w1 ⟨rfl,hb⟩;have b:=Jh (nJ.trans (hb.mono sI));have g:=Jh ((Blk.new w 31 #[W,H, .slice ad n f]).zA hb);obtain ⟨q,c0,c1,c2⟩:=g.Z.c3;clear hb;have E:Hd (zx W H xs=(zT W H xs 1 && decide (n<=256))):=Jh (by unfold zx;rw [j.Z]);obtain ⟨P,l⟩: ∃P,zT W H xs 1=P:=⟨_,rfl⟩
 rw [l] at E⊢;clear l;cases P
 . go_wp2
   go_ret;exact ⟨zV (by rw [E.Z];rfl),b.Z⟩
 go_wp2
 go_ret;exact ⟨zV (by rw [E.Z,Bool.true_and];exact decide_eq_decide.2 om),b.Z⟩
theorem Au (W H:Int) (ad:Option Addr) (n f:Nat) (xs:List Int) (w:World) (hn:xs.length=n) (ha:Rd w ad xs) (hl:n<=↑Zn):
 Calls prog 229 #[.agg #[W,H, .slice ad n f]] w (zR (.bool (zx W H xs)) w):=by
 have j:=Jh hn;have m:=Jh ha;clear hn ha;go_in;go_wp2_with fail;refine (jg _ _ _ _ _ xs _ j.Z (by exact m.Z.alloc _) hl).mono ?_;rintro e w1 ⟨rfl,hb⟩;have b:=Jh (nJ.trans (hb.mono sI));have g:=Jh ((Blk.new w 31 #[W,H, .slice ad n f]).zA hb);obtain ⟨q,c0,c1,c2⟩:=g.Z.c3;clear hb;have E:Hd (zx W H xs=(zT W H xs 1 && decide (n<=256))):=Jh (by unfold zx;rw [j.Z]);obtain ⟨P,l⟩: ∃P,zT W H xs 1=P:=⟨_,rfl⟩
 rw [l] at E⊢;clear l;cases P
 . go_wp2
   go_ret;exact ⟨zV (by rw [E.Z];rfl),b.Z⟩
 go_wp2
 go_ret;exact ⟨zV (by rw [E.Z,Bool.true_and];exact decide_eq_decide.2 om),b.Z⟩
theorem iA (e:1<=W) (f:W<=256) (b:1<=H) (hH2:H<=256) (i k:Nat):0<=ZM W H i k/\ZM W H i k<=131072:=by
 refine ⟨iB e b i k,?_⟩;unfold ZM;obtain ⟨g,q⟩:=uR (d:=(i:Int) % W - (k:Int) % W) e;obtain ⟨j,s⟩:=uR (d:=(i:Int)/W - (k:Int)/W) b;have l:=Yr (show yT ((i:Int) % W - (k:Int) % W) W<=256 by omega) (show yT ((i:Int) % W - (k:Int) % W) W<=256 by omega) g om;have m:=Yr (show yT ((i:Int)/W - (k:Int)/W) H<=256 by omega) (show yT ((i:Int)/W - (k:Int)/W) H<=256 by omega) j om;omega
theorem Lj (h1:xs.getD k 0=v) (h2:xk xs v c k<0\/c k<c (xk xs v c k).toNat):xk xs v c (k+1)=k:=by
 rw [xk,if_pos ⟨h1,h2⟩]
theorem fu (h1: ¬xs.getD k 0=v):xk xs v c (k+1)=xk xs v c k:=by
 rw [xk,if_neg (fun h=>h1 h.1)]
theorem fV (b:0<=xk xs v c k) (h2: ¬c k<c (xk xs v c k).toNat):xk xs v c (k+1)=xk xs v c k:=by
 rw [xk,if_neg (fun h=>by rcases h.2 with h | h;omega;exact h2 h)]
theorem Np (W H:Int) (ad:Option Addr) (n b i k:Nat) (w:World) (s:1<=W) (f:W<=256) (q:1<=H) (hH2:H<=256) (hn:(n:Int)=W*H) (j:n<=256) (hi:i<n) (hk:k<n):
 Calls prog 236 #[.agg #[W,H, .slice ad n b],i,k] w fun e w'=>e= .returned ↑(wtG W H i k)/\Below w w w':=by
 have x:=Jh hn;have E:Hd (wtG W H i k=4096/(1+ZM W H i k)):=Jh rfl;obtain ⟨t,u⟩:=iA s f q hH2 i k;have l:=Jh (fun v:World=>dK W H ad n b i k v s f q hH2 hn j hi hk);obtain ⟨F,m⟩: ∃F,ZM W H i k=F:=⟨_,rfl⟩
 rw [m] at t u E l;have y: ¬1+F=0:=om;have z2:(1+F==0)=false:=sO;have z3:IntKind.i64.wrap (1+F)=1+F:=Yc _ om;have z4:(4096:Int).tdiv (1+F)=4096/(1+F):=Yt om;have z5:0<=4096/(1+F):=Yw om om;have z:4096/(1+F)<=4096:=Int.ediv_le_self _ om;clear hn m;go_in;go_wp2_with fail;refine (l.Z _).mono ?_;rintro e w1 ⟨rfl,hb⟩;have g:=Jh (nJ.trans (hb.mono sI));clear hb
 go_wp2
 go_ret;exact ⟨yh (by rw [E.Z]),g.Z⟩
theorem Ra (W H:Int) (ad:Option Addr) (n b:Nat) (xs:List Int) (i:Nat) (w:World) (hn:xs.length=n) (ha:Rd w ad xs) (y:zx W H xs=true) (hi:i<n):
 Calls prog 197 #[.agg #[W,H, .slice ad n b],i] w fun e w'=>e= .returned ↑(yK W H xs i)/\Below w w w':=by
 have A:=Jh hn;have HA:=Jh ha;clear hn ha;obtain ⟨b1,b2,b3,b4,N,b6,b7,O,R⟩:=jR A.Z y;obtain ⟨X,B8,B9⟩:=JF N O R;clear N O R;clear y;have E:Hd (yK W H xs i=jI W H xs i n):=Jh (by unfold yK;rw [A.Z]);obtain ⟨Y,u,t,q⟩:=JG (fun k=>Fw b1 b3 xs i k) (HA.Z.alloc (.cells #[W,H, .slice ad n b] 31)) (Blk.new w 31 #[W,H, .slice ad n b]) (Joins.below_alloc1 w (.cells #[W,H, .slice ad n b] 31));go_in;obtain ⟨w2,l⟩:=zN (w.alloc (.cells #[W,H, .slice ad n b] 31));rw [<-l] at u t q;go_wp2_with fail;rw [<-l];clear l
 go_loopw [5,11] (fun s j wr=> ∃k:Nat,k<=n/\j=↑k/\s=↑(jI W H xs i k)/\Below w2.heap.size w2 wr) (fun _ j _=>n - (intOf j).toNat)
 exact ⟨0,nZ,rfl,rfl,bR⟩;obtain ⟨k,hk,rfl,rfl,f⟩:=hrel;obtain ⟨g,D,F⟩:=JF f (t.Z.zA f) (u.Z.below f);clear f;obtain ⟨l0,o0,o1,o2⟩:=D.Z.c3;by_cases L:k<n
 . obtain ⟨ba,oa,J,b0,x⟩:=F.Z.at (oh A)
   subst J;have g1:=x k (oh A);obtain ⟨V,I⟩: ∃V,xs.getD k 0=V:=⟨_,rfl⟩
   rw [I] at g1;have HV:=Jh I;clear I x;obtain ⟨c1,c2⟩:=Y.Z k;have m:Hd (jI W H xs i (k+1)=jI W H xs i k+(if V=1 then wtG W H i k else 0)):=Jh (by rw [jI,HV.Z]);obtain ⟨C,G⟩: ∃C,jI W H xs i k=C:=⟨_,rfl⟩
   rw [G] at c1 c2 m;rw [G];clear G;by_cases z:V=1
   . subst z
     rw [if_pos rfl] at m;obtain ⟨t1,t2⟩:=IU b1 b3 i k;have M:=Jh (fun v:World=>Np W H (some ↑(ba,oa)) n b i k v b1 om b3 om X.Z b6 hi L);obtain ⟨T,U⟩: ∃T,wtG W H i k=T:=⟨_,rfl⟩
     rw [U] at t1 t2 M m;clear U;go_wp2_with fail;refine (M.Z _).mono ?_;rintro e w3 ⟨rfl,hb⟩;have B:=Jh (zL g.Z hb);clear hb
     go_wp2
     go_roundw
     . exact ⟨k+1,om,by go_num,by rw [m.Z],B.Z⟩
     exact Jm
   rw [if_neg z] at m
   go_wp2
   go_roundw
   . exact ⟨k+1,om,by go_num,by rw [m.Z];simp,g.Z⟩
   exact Jm
 obtain rfl:n=k:=om
 go_wp2
 go_ret;exact ⟨yh (by rw [E.Z]),zL q.Z g.Z⟩
theorem Dx (W H:Int) (ad:Option Addr) (n g:Nat) (xs:List Int) (v s:Int) (w:World) (hn:xs.length=n) (ha:Rd w ad xs) (y:zx W H xs=true) (hs:s=1\/s=-1):
 Calls prog 158 #[.agg #[W,H, .slice ad n g],v,s] w fun e w'=>e= .returned ↑(xk xs v (fun j=>-(s*yK W H xs j)) n)/\Below w w w':=by
 have F:=Jh hn;have HA:=Jh ha;clear hn ha;obtain ⟨b1,b2,b3,b4,b5,b6,b7,b8,b9⟩:=jR F.Z y;obtain ⟨B5,B8,B9⟩:=JF b5 b8 b9;clear b5 b8 b9;have G:=Jh y;clear y;obtain ⟨L,I,A,HS⟩:=JG (HA.Z.alloc (.cells #[W,H, .slice ad n g] 31)) (Blk.new w 31 #[W,H, .slice ad n g]) (Joins.below_alloc1 w (.cells #[W,H, .slice ad n g] 31)) hs;clear hs;go_in;obtain ⟨w2,z⟩:=zN (w.alloc (.cells #[W,H, .slice ad n g] 31));rw [<-z] at L I A;go_wp2_with fail;rw [<-z];clear z
 go_loopw [7,8,15] (fun b m j wr=> ∃(k:Nat) (B M:Int),k<=n/\j=↑k/\b=↑B/\m=↑M/\Hd (B=xk xs v (fun j=>-(s*yK W H xs j)) k)/\Hd (B<0\/M=s*yK W H xs B.toNat)/\Below w2.heap.size w2 wr) (fun _ _ j _=>n - (intOf j).toNat)
 exact ⟨0,-1,0,nZ,rfl,rfl,rfl,Jh rfl,Jh (Or.inl om),bR⟩;obtain ⟨k,B,M,hk,rfl,rfl,rfl,f,D,l⟩:=hrel;obtain ⟨u,J,x⟩:=JF l (I.Z.zA l) (L.Z.below l);clear l;obtain ⟨l0,o0,o1,o2⟩:=J.Z.c3;by_cases c4:k<n
 . obtain ⟨ba,oa,b0,c8,N⟩:=x.Z.at (oh F)
   subst b0;have g1:=N k (oh F);obtain ⟨V,hV⟩: ∃V,xs.getD k 0=V:=⟨_,rfl⟩
   rw [hV] at g1;have HV:=Jh hV;clear hV N;by_cases O:V=v
   . subst O
     obtain ⟨c1,c2⟩:=Ai F.Z G.Z k;have U:=Jh (fun (v:World) hr=>Ra W H (some ↑(ba,oa)) n g xs k v F.Z hr G.Z c4);obtain ⟨C,hC⟩: ∃C,yK W H xs k=C:=⟨_,rfl⟩
     rw [hC] at c1 c2 U;have R:=Jh hC;clear hC;obtain ⟨X,hX⟩: ∃X,s*C=X:=⟨_,rfl⟩
     have x1:-1048576<=X/\X<=1048576:=by rcases HS.Z with h | h <;>subst h <;>omega
     obtain ⟨x1,x2⟩:=x1;have u1:IntKind.i64.wrap (s*C)=X:=by rw [hX];exact Yc _ om
     have T:=Jh hX;clear hX;go_wp2_with fail;refine (U.Z _ (by exact x.Z)).mono ?_;rintro e w3 ⟨rfl,hb⟩;have t:=Jh (zL u.Z hb);clear hb U J x o0 o1 o2 g1 l0 c1 c2;by_cases hB:B<0
     . have q:Hd (xk xs V (fun j=>-(s*yK W H xs j)) (k+1)=k):=Jh (Lj HV.Z (Or.inl (by rw [<-f.Z];exact hB)))
       go_wp2
       go_roundw
       . exact ⟨k+1,k,X,om,by go_num,rfl,rfl,Jh q.Z.symm,Jh (Or.inr (by rw [<-T.Z,<-R.Z];simp)),t.Z⟩
       exact Jm
     have c5:0<=B:=om;have hM:M=s*yK W H xs B.toNat:=by rcases D.Z with h | h;omega;exact h
     have Y:=Jh hM;clear hM hB;by_cases c0:M<X
     . have q:Hd (xk xs V (fun j=>-(s*yK W H xs j)) (k+1)=k):=Jh (Lj HV.Z (Or.inr (by rw [<-f.Z];rw [<-Y.Z,R.Z,T.Z];omega)))
       go_wp2
       go_roundw
       . exact ⟨k+1,k,X,om,by go_num,rfl,rfl,Jh q.Z.symm,Jh (Or.inr (by rw [<-T.Z,<-R.Z];simp)),t.Z⟩
       exact Jm
     have q:Hd (xk xs V (fun j=>-(s*yK W H xs j)) (k+1)=B):=Jh (by rw [fV (by rw [<-f.Z];omega) (by rw [<-f.Z];rw [<-Y.Z,R.Z,T.Z];omega)];exact f.Z.symm);have d0:X<=M:=om;clear c0;go_wp2_with fail
     all_goals (try (exfalso;omega))
     go_roundw
     . exact ⟨k+1,B,M,om,by go_num,rfl,rfl,Jh q.Z.symm,Jh (Or.inr Y.Z),t.Z⟩
     exact Jm
   have q:Hd (xk xs v (fun j=>-(s*yK W H xs j)) (k+1)=B):=Jh (by rw [fu (by rw [HV.Z];exact O)];exact f.Z.symm)
   go_wp2
   go_roundw
   . exact ⟨k+1,B,M,om,by go_num,rfl,rfl,Jh q.Z.symm,D,u.Z⟩
   exact Jm
 obtain rfl:n=k:=om
 go_wp2
 go_ret;exact ⟨yh f.Z,zL A.Z u.Z⟩
def zCm (p:Pic):Prop:=p.ink=[]\/(1<=p.W/\p.W<=256/\1<=p.H/\p.H<=256/\(p.ink.length:Int)=p.W*p.H/\p.ink.length<=256)
theorem Rc (w:World)
 (C:o.guard=none) (t e l b:Nat) (U:P.underlying t=some (.slice e)) (D:(P.info? e).map (fun i=>(i.zero,i.size,i.bytes))=some (some (UF l),l,b)) (T:1<=l) (A:b<=4096)
 (s x:Operand) (G:o.op= .call {callee:= .builtin .append,args:=#[s,x],argTypes:=#[t,t]})
 (B n y:Nat) (ad:Option Addr) (xs:List Int) (R:a.eval s= .slice ad n y) (O:RowA w e l B ad n y xs) (g:Nat) (q:List Int) (X:a.eval x= .slice ↑g 1 1)
 (hv:q.length=l) (hc: ∀j,j<l->w.cell? ⟨g,j,none⟩=some (.int .i64 (q.getD j 0))) (hn:n<=1048576) (N:B<=w.heap.size)
 (hK: ∀m f w',RowA w' e l B m (n+1) f (xs++q)->w.grownBy w' (zO ad)->K (a.put o.dst (.slice m (n+1) f)) w'):
 if Region.wanted o (yielded ops a.tmps)=true then Oper.wp P o a w K Q else E:=by
 have hw:Region.wanted o (yielded ops a.tmps)=true:=by simp [Region.wanted,C]
 rw [if_pos hw];obtain ⟨i,hi,I,J,L⟩:=info_parts D;have m1:(n+1)*b<=1048577*4096:=Nat.mul_le_mul om A;refine wp_append_own w s x t G B e i (UF l) l b U hi I J L (by simp [UF,Value.cells]) om _ n (xs.map (Value.int .i64)) R O.toRow ↑g 1 1 (q.map (Value.int .i64)) X (by simp [hv]) ?_ ?_ (by unfold maxLen;omega) om N ?_;intro j u z;by_cases F:j<l
 have:=hc j F;rw [List.getElem?_map,Ya om] at z;simp only [Option.map_some,Option.some.injEq] at z;subst z;rw [show (Addr.mk g 0 none).add j=⟨g,j,none⟩ by rw [Addr.add_lit];simp,this];simp [List.getD,Ya (show j<q.length by omega)];rw [Yv sO] at z;cases z;intro u V;obtain ⟨x,_,rfl⟩:=List.mem_map.1 V;rfl;intro Y w' h2 h3 _;have h4:w'.ownsRow B e l Y (n+1) ((xs++q).map (Value.int .i64)):=by simpa using h2
 obtain ⟨m,f,rfl,M⟩:=RowA.ofRow h4;rw [jO] at h3;exact hK m f w' M h3
def jk (xs:List Int) (k:Nat):List Nat:=(List.range k).filter (fun i=>decide (xs.getD i 0=1))
def qg (W:Int) (ls:List Nat):List Int:=ls.flatMap (fun (i:Nat)=> [(i:Int) % W,(i:Int)/W])
theorem Ev (h:xs.getD k 0=1):jk xs (k+1)=jk xs k++ [k]:=by
 unfold jk;rw [List.range_succ,List.filter_append];simp [List.getD] at h⊢;simp [h]
theorem Wq (h: ¬xs.getD k 0=1):jk xs (k+1)=jk xs k:=by
 unfold jk;rw [List.range_succ,List.filter_append];simp [List.getD] at h⊢;simp [h]
theorem zAJ:i ∈ jk xs k↔i<k/\xs.getD i 0=1:=by
 unfold jk;simp
theorem Pm (xs:List Int) (k:Nat):(jk xs k).length<=k:=by
 unfold jk;have:=List.length_filter_le (fun i=>decide (xs.getD i 0=1)) (List.range k);simpa using this
theorem iC (W:Int) (ls:List Nat):(qg W ls).length=ls.length*2:=by
 induction ls with
 | nil=>rfl
 | cons a r b=>unfold qg at b⊢;simp only [List.flatMap_cons,Yn,b];simp;omega
theorem aW (W:Int) (ls:List Nat) (k:Nat):qg W (ls++ [k])=qg W ls++ [(k:Int) % W,(k:Int)/W]:=by
 unfold qg;simp
theorem Oe (W:Int): ∀(ls:List Nat) (k:Nat),k<ls.length->(qg W ls).getD (k*2) 0=((ls.getD k 0:Nat):Int) % W/\(qg W ls).getD (k*2+1) 0=((ls.getD k 0:Nat):Int)/W
 | [],k,h=>by simp at h
 | a::r,0,h=>by simp [qg]
 | a::r,k+1,h=>by
  have f:=Oe W r k (by simpa using h);have b:(k+1)*2=k*2+1+1:=om;have e:qg W (a::r)=(a:Int) % W::(a:Int)/W::qg W r:=by simp [qg]
  rw [e,b];simpa using f
theorem zAU (h:Rd w ad (qg W ls)) (hk:k<ls.length):
 ∃b off,ad=some ⟨b,off,none⟩/\b<w.heap.size/\w.cell? ⟨b,off+k*2,none⟩=some (.int .i64 (((ls.getD k 0:Nat):Int) % W))/\w.cell? ⟨b,off+k*2+1,none⟩=some (.int .i64 (((ls.getD k 0:Nat):Int)/W)):=by
 have hl:=iC W ls;obtain ⟨b,off,h1,h2,h3⟩:=h.at om;obtain ⟨e,f⟩:=Oe W ls k hk;refine ⟨b,off,h1,h2,?_,?_⟩;rw [<-e];exact h3 _ om;rw [<-f,Nat.add_assoc];exact h3 _ om
set_option maxRecDepth 100000 in
theorem Si (W H:Int) (ad:Option Addr) (n f:Nat) (xs:List Int) (w:World) (hn:xs.length=n) (ha:Rd w ad xs) (hp:zCm ⟨W,H,xs⟩):
 Calls prog 267 #[.agg #[W,H, .slice ad n f]] w fun e w'=>
  ∃a d c,e= .returned (.slice a d c)/\(jk xs n).length=d/\RowA w' 176 2 w.heap.size a d c (qg W (jk xs n))/\Below w w w':=by
 obtain ⟨L,HP,z,t,s⟩:=JI hn hp (ha.alloc (.cells #[W,H, .slice ad n f] 31)) (Blk.new w 31 #[W,H, .slice ad n f]) (Joins.below_alloc1 w (.cells #[W,H, .slice ad n f] 31))
 have nb:n<=256:=by
  rcases hp with h | ⟨h1,h2,h3,h4,M,B⟩
  simp only [] at h;rw [h] at hn;simp at hn;omega;simp only [] at B;omega
 clear hn ha hp;go_in;obtain ⟨w2,m⟩:=zN (w.alloc (.cells #[W,H, .slice ad n f] 31));have O:Hd (w.heap.size<w2.heap.size):=Jh (by rw [m];exact t.Z.lt);rw [<-m] at z t s;go_wp2_with fail;rw [<-m];clear m
 go_loopw [3,9] (fun r i wr=> ∃(k d A:Nat) (a:Option Addr),k<=n/\i=↑k/\r= .slice a d A/\(jk xs k).length=d/\RowA wr 176 2 w2.heap.size a d A (qg W (jk xs k))/\Below w2.heap.size w2 wr) (fun _ i _=>n - (intOf i).toNat)
 exact ⟨0,0,0,none,nZ,rfl,rfl,rfl,RowA.none _ _ _ _,bR⟩;obtain ⟨k,d,A,a,hk,rfl,rfl,hd,ho,q⟩:=hrel;obtain ⟨J,x,l,y,X⟩:=JI hd ho q (t.Z.zA q) (z.Z.below q);clear q hd ho;obtain ⟨l0,o0,o1,o2⟩:=y.Z.c3;by_cases b8:k<n
 . obtain ⟨ba,oa,b7,c4,C⟩:=X.Z.at (oh L)
   subst b7;have g1:=C k (oh L);obtain ⟨V,hV⟩: ∃V,xs.getD k 0=V:=⟨_,rfl⟩
   rw [hV] at g1;have T:=Jh hV;clear hV C;by_cases F:V=1
   . subst F
     obtain ⟨b1,b2,b3,b4,b5,b6⟩:1<=W/\W<=256/\1<=H/\H<=256/\(n:Int)=W*H/\n<=256:=by
      rcases HP.Z with h | ⟨h1,h2,h3,h4,M,B⟩
      have:=L.Z;simp only [] at h;rw [h] at this;simp at this;omega;have:=L.Z;simp only [] at M B;rw [this] at M B;exact ⟨h1,h2,h3,h4,M,B⟩
     have B5:=Jh b5;obtain ⟨P,Q,hP,hQ,tP,tQ,p0,p1,q0,q1⟩:=KW b1 b2 b5 b6 b8;clear b5;have u1:IntKind.i64.wrap P=P:=Yc _ om;have u2:IntKind.i64.wrap Q=Q:=Yc _ om;have z1: ¬W=0:=om;have z2:(W==0)=false:=sO;have I:Hd (qg W (jk xs (k+1))=qg W (jk xs k)++ [P,Q]):=Jh (by rw [Ev T.Z,aW,hP,hQ]);have EL:Hd ((jk xs (k+1)).length=d+1):=Jh (by rw [Ev T.Z,Yn,J.Z];rfl);have c1:d<=k:=by rw [<-J.Z];exact Pm _ _
     clear hP hQ;have u:=Jh l.Z.size;go_upto_region 6 with fail;refine wp_region_held_drew (S:=fun v=>v.cell? w=some ↑W) zK o0 ?_;intro g;refine zQ 0 ?_;refine zQ 1 ?_;refine zQ 2 ?_;refine zQ 3 ?_;refine zQ 4 ?_;refine zQ 5 ?_;refine zQ 6 ?_;refine zQ 7 ?_;refine zQ 8 ?_;refine zQ 9 ?_;refine yI 10 (fun K hK=>?_);go_simp;refine hK.out _ _ (Jd (yF o0)) (fun g=>?_);clear hK K;refine yI 11 (fun K hK=>?_)
     refine Rc _ rfl 238 176 2 16 underlying238 sV dC dC (.tmp 16) (.tmp 26) rfl w2.heap.size d A a (qg W (jk xs k)) rfl ((x.Z.alloc _).drew) _ [P,Q] rfl rfl (fun j hj=>by
      refine ((Blk.new wr 176 #[P,Q]).cell j).trans ?_
      match j,hj with
      | 0,_=>rfl
      | 1,_=>rfl) om (oS u.Z) ?_
     intro Y b0 w4 c0 D;have U:=((y.Z.alloc (.cells #[P,Q] 176)).drew).zI D (fun b hb=>by have:=x.Z.bd b hb;have:=O.Z;omega);have N:=Jh (((l.Z.alloc u.Z (.cells #[P,Q] 176)).drew).grown D (oS u.Z) (fun b hb=>(x.Z.bd b hb).1));obtain ⟨m0,y0,y1,y2⟩:=U.c3;(try dsimp only);refine hK.out _ _ (Jd (y0)) (fun g=>?_);clear hK K;refine zQ 12 ?_;refine wpAnyH_done zK ?_ _;(try go_simp)
     go_wp2
     go_roundw
     . exact ⟨k+1,d+1,b0,Y,om,by go_num,rfl,EL.Z,by rw [I.Z];exact c0,N.Z⟩
     exact Jm
   have I:Hd (jk xs (k+1)=jk xs k):=Jh (Wq (fun h=>F (T.Z.symm.trans h)))
   go_wp2
   go_roundw
   . exact ⟨k+1,d,A,a,om,by go_num,rfl,by rw [I.Z];exact J.Z,by rw [I.Z];exact x.Z,l.Z⟩
   exact Jm
 obtain rfl:n=k:=om
 go_wp2
 go_ret;exact ⟨_,_,_,rfl,J.Z,x.Z.mono s.Z.size,zL s.Z l.Z⟩
def YV (W H:Int) (i:Nat) (ls:List Nat):Int:=xE (ls.map (fun k=>wtG W H i k))
theorem NS (W H:Int) (i:Nat) (ls:List Nat) (k:Nat):YV W H i (ls++ [k])=YV W H i ls+wtG W H i k:=by
 unfold YV;rw [List.map_append,Kj];simp [xE]
theorem oH (W H:Int) (xs:List Int) (i k:Nat):YV W H i (jk xs k)=jI W H xs i k:=by
 induction k with
 | zero=>rfl
 | succ k b=>
  unfold jI;by_cases h:xs.getD k 0=1
  rw [Ev h,NS,b,if_pos h];rw [Wq h,b,if_neg h];omega
theorem zCY (e:1<=W) (b:1<=H) (i:Nat) (ls:List Nat):0<=YV W H i ls/\YV W H i ls<=4096*ls.length:=by
 induction ls with
 | nil=>exact ⟨Int.le_refl _,by simp [YV,xE]⟩
 | cons a r f=>
  have:=IU e b i a;unfold YV at f⊢;simp only [List.map_cons,xE,List.length_cons];omega
theorem oI (i:Nat) (h:k<ls.length):YV W H i (ls.take (k+1))=YV W H i (ls.take k)+wtG W H i (ls.getD k 0):=by
 rw [Ym h,NS];simp [List.getD,Ya h]
theorem Dg (W H:Int) (ad:Option Addr) (n b i:Nat) (w:World) (x:1<=W) (f:W<=256) (hn:(n:Int)=W*H) (j:n<=256) (hi:i<n):
 Calls prog 269 #[.agg #[W,H, .slice ad n b],i] w (zR (.agg #[.int .i64 ((i:Int) % W), .int .i64 ((i:Int)/W)]) w):=by
 obtain ⟨P,Q,l,m,M,N,G,I,J,L⟩:=KW x f hn j hi;rw [l,m];have O:IntKind.i64.wrap P=P:=Yc _ om;have R:IntKind.i64.wrap Q=Q:=Yc _ om;have T: ¬W=0:=om;have z2:(W==0)=false:=sO;have y:=Jh hn;clear hn l m;go_in;go_wp2_with fail;obtain ⟨u,e,t⟩:=JF ((Blk.new w 31 #[W,H, .slice ad n b]).alloc (.cells #[Z0,Z0] 176)) (Blk.zD (g:=w.heap.size+1) (w:=w.alloc (.cells #[W,H, .slice ad n b] 31)) 176 #[Z0,Z0] sI) (zM (zM (Below.refl w w) (.cells #[W,H, .slice ad n b] 31)) (.cells #[Z0,Z0] 176));obtain ⟨B,C,D,F⟩:=u.Z.c3;have q:=e.Z.cell 0;have s:=e.Z.cell 1;have z:=e.Z.frozen 0;have A:=e.Z.frozen 1;simp only [Yi,List.getElem?_cons_zero,List.getElem?_cons_succ] at q s
 go_region
 all_goals (
  go_wp2
  exact bodyPost_ret (v:= .agg #[P,Q]) (by simp [results,results269,go_sem,q,s]) rfl
   ⟨rfl,(zM (zM (Below.refl w w) _) _).drew⟩)
theorem Jg (W H:Int) (ad:Option Addr) (n b i k:Nat) (w:World) (y:1<=W) (j:W<=256) (t:1<=H) (hH2:H<=256) (hn:(n:Int)=W*H) (q:n<=256) (hi:i<n) (hk:k<n):
 Calls prog 271 #[.agg #[W,H, .slice ad n b], .agg #[.int .i64 ((i:Int) % W), .int .i64 ((i:Int)/W)], .agg #[.int .i64 ((k:Int) % W), .int .i64 ((k:Int)/W)]] w fun e w'=>e= .returned ↑(wtG W H i k)/\Below w w w':=by
 have E:Hd (wtG W H i k=4096/(1+ZM W H i k)):=Jh rfl;obtain ⟨B,C⟩:=iA y j t hH2 i k;have l:=Jh (fun v:World=>Eh W H n i k v y j t hH2 hn q hi hk);obtain ⟨F,s⟩: ∃F,ZM W H i k=F:=⟨_,rfl⟩
 rw [s] at B C E l;obtain ⟨P,u⟩: ∃P,(i:Int) % W=P:=⟨_,rfl⟩
 obtain ⟨Q,x⟩: ∃Q,(i:Int)/W=Q:=⟨_,rfl⟩
 obtain ⟨z,f⟩: ∃P,(k:Int) % W=P:=⟨_,rfl⟩
 obtain ⟨A,g⟩: ∃Q,(k:Int)/W=Q:=⟨_,rfl⟩
 rw [u,x,f,g] at l⊢;have D: ¬1+F=0:=om;have z2:(1+F==0)=false:=sO;have z3:IntKind.i64.wrap (1+F)=1+F:=Yc _ om;have z4:(4096:Int).tdiv (1+F)=4096/(1+F):=Yt om;have z5:0<=4096/(1+F):=Yw om om;have G:4096/(1+F)<=4096:=Int.ediv_le_self _ om;clear hn s u x f g hi hk;go_in;go_wp2_with fail;refine (l.Z _).mono ?_;rintro e w1 ⟨rfl,hb⟩;have m:=Jh (zL (zM (zM (zM (Below.refl w w) (.cells #[W,H, .slice ad n b] 31)) (.cells #[.int .i64 P, .int .i64 Q] 176)) (.cells #[z,A] 176)) hb);clear hb
 go_wp2
 go_ret;exact ⟨yh (by rw [E.Z]),m.Z⟩
theorem Ov (W H:Int) (ad sa:Option Addr) (n b d sc i:Nat) (ls:List Nat) (w:World) (M:1<=W) (b0:W<=64) (J:1<=H) (hH2:H<=64) (hn:(n:Int)=W*H) (O:n<=256) (hi:i<n) (x: ∀k,k ∈ ls->k<n) (hd:ls.length=d) (b2:d<=256) (hr:Rd w sa (qg W ls)):
 Calls prog 268 #[.agg #[W,H, .slice ad n b], .slice sa d sc, .agg #[.int .i64 ((i:Int) % W), .int .i64 ((i:Int)/W)]] w fun e w'=>e= .returned ↑(YV W H i ls)/\Below w w w':=by
 obtain ⟨B,B5,D,R⟩:=JG hd hn x (fun (k:Nat) (hk:k<n) (v:World)=>Jg W H ad n b i k v M om J om hn O hi hk);obtain ⟨P,hP⟩: ∃P,(i:Int) % W=P:=⟨_,rfl⟩
 obtain ⟨Q,hQ⟩: ∃Q,(i:Int)/W=Q:=⟨_,rfl⟩
 rw [hP,hQ] at R⊢;obtain ⟨V,U,q,u⟩:=JG ((Blk.new w 31 #[W,H, .slice ad n b]).alloc (.cells #[.int .i64 P, .int .i64 Q] 176)) (Blk.zD (g:=w.heap.size+1) (w:=w.alloc (.cells #[W,H, .slice ad n b] 31)) 176 #[.int .i64 P, .int .i64 Q] sI) (zM (zM (Below.refl w w) (.cells #[W,H, .slice ad n b] 31)) (.cells #[.int .i64 P, .int .i64 Q] 176)) ((hr.alloc (.cells #[W,H, .slice ad n b] 31)).alloc (.cells #[.int .i64 P, .int .i64 Q] 176));clear hd hn x hP hQ hr;go_in;obtain ⟨w2,m⟩:=zN ((w.alloc (.cells #[W,H, .slice ad n b] 31)).alloc (.cells #[.int .i64 P, .int .i64 Q] 176));rw [<-m] at V U q u;go_wp2_with fail;rw [<-m];clear m
 go_loopw [7,12] (fun s j wr=> ∃k:Nat,k<=d/\j= .int .i64 k/\s= .int .i64 (YV W H i (ls.take k))/\Below w2.heap.size w2 wr) (fun _ j _=>d - (intOf j).toNat)
 exact ⟨0,nZ,rfl,rfl,bR⟩;obtain ⟨k,hk,rfl,rfl,f⟩:=hrel;obtain ⟨t,G,l,I⟩:=JG f (V.Z.zA f) (U.Z.zA f) (u.Z.below f);clear f;by_cases b3:k<d
 . obtain ⟨l0,o0,o1,o2⟩:=G.Z.c3
   have hm:ls.getD k 0<n:=D.Z _ (by have:=B.Z;simp [List.getD,Ya (show k<ls.length by omega)]);have y:=Jh (oI (W:=W) (H:=H) i (ls:=ls) (k:=k) (oh B));obtain ⟨ba,oa,N,b1,g1,g2⟩:=zAU I.Z (k:=k) (oh B);obtain ⟨A,hA⟩: ∃A,ls.getD k 0=A:=⟨_,rfl⟩
   rw [hA] at g1 g2 hm y;have z:=Jh (R.Z A hm);obtain ⟨t1,t2⟩:=IU M J i A;have C:=zCY M J i (ls.take k);rw [Yj] at C;obtain ⟨s1,s2⟩:0<=YV W H i (ls.take k)/\YV W H i (ls.take k)<=1048576:=⟨C.1,by have:=C.2;omega⟩
   obtain ⟨S,L⟩: ∃S,YV W H i (ls.take k)=S:=⟨_,rfl⟩
   obtain ⟨T,hT⟩: ∃T,wtG W H i A=T:=⟨_,rfl⟩
   rw [hT] at t1 t2 z y;rw [L] at s1 s2 y;rw [L];obtain ⟨X,hX⟩: ∃X,(A:Int) % W=X:=⟨_,rfl⟩
   obtain ⟨Y,hY⟩: ∃Y,(A:Int)/W=Y:=⟨_,rfl⟩
   rw [hX] at g1 z;rw [hY] at g2 z;subst N;have l9:=l.Z.lt;have d0:=l.Z.cell 0;have d1:=l.Z.cell 1;simp only [Yi,List.getElem?_cons_zero,List.getElem?_cons_succ] at d0 d1;clear C L hT hX hY hA;go_wp2_with fail;refine (z.Z _).mono ?_;rintro e w3 ⟨rfl,hb⟩;have F:=Jh (zL (zM t.Z _) hb);clear hb
   go_wp2
   go_roundw
   . exact ⟨k+1,om,by go_num,by rw [y.Z],F.Z⟩
   exact Jm
 obtain rfl:d=k:=om
 go_wp2
 go_ret;exact ⟨yh (by rw [Yk (oh B)]),zL q.Z t.Z⟩
end Go.Proofs.YtlenfgdjdianiaaGreatDoor
