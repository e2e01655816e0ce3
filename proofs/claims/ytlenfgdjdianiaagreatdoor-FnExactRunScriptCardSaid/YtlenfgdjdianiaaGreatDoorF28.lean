/- Facts on which this claim rests, 28. -/
import Derived.Test.YtlenfgdjdianiaaGreatDoorF11
set_option linter.all false
set_option maxHeartbeats 6400000
namespace Go.Proofs.YtlenfgdjdianiaaGreatDoor
open Go.RowKit Tq Go.Proofs.Tryz
variable {E : Prop} {H W v : Int} {K : Act → World → Prop} {P : Program} {Q : Exit → Act → World → Prop} {a : Act} {ad : Option Addr} {c : Nat → Int} {i k n : Nat} {ls : List Nat} {o : Oper} {ops : Array Oper} {w : World} {xs : List Int}
theorem UM (a n:Int) (w:World) (h1:1<=n) (h2:n<=256) (h3:-256<=a) (h4:a<=256):
 Calls prog 293 #[a,n] w fun e w'=>e= .returned ↑(yL a n)/\w=w':=by
 have b1:=Yg a (show n≠0 by omega);have b2:=Ye a (show 0<n by omega);go_in;go_wp2_with fail;refine (wN _ _ _ h1 om).mono ?_;rintro e w2 ⟨rfl,rfl⟩;go_wp2_with fail;refine (wN _ _ _ h1 om).mono ?_;rintro e w2 ⟨rfl,rfl⟩;go_wp2_with fail
 all_goals (go_ret;exact ⟨yf (by unfold yL;omega),rfl⟩)
theorem zAu (a b n:Int) (w:World) (h1:1<=n) (h2:n<=256) (h3:0<=a) (h4:a<=256) (g:0<=b) (f:b<=256):
 Calls prog 300 #[a,b,n] w fun e w'=>e= .returned ↑(yL (b - a) n)/\w=w':=by
 have b1:=Yg (b - a) (show n≠0 by omega);have b2:=Ye (b - a) (show 0<n by omega);go_in;go_wp2_with fail;refine (qC _ _ _ h1 om).mono ?_;rintro e w2 ⟨rfl,rfl⟩;go_wp2_with fail
 all_goals (go_ret;exact ⟨yf (by unfold yL;omega),rfl⟩)
theorem wu (g:1<=W) (e:W<=256) (hn:(n:Int)=W*H) (f:n<=256) (hi:i<n): ∃P Q:Int,(i:Int) % W=P/\(i:Int)/W=Q/\(i:Int).tmod W=P/\(i:Int).tdiv W=Q/\0<=P/\P<=255/\0<=Q/\Q<=255:=by
 refine ⟨_,_,rfl,rfl,Yl om,Yt om,Yg _ om,?_,Yw om om,?_⟩;have:=Ye (i:Int) (show 0<W by omega);omega;have:=Int.ediv_le_self (b:=W) (show 0<=(i:Int) by omega);omega
theorem zJN (W H:Int) (ad:Option Addr) (n b i k:Nat) (w:World) (u:1<=W) (f:W<=256) (G:1<=H) (hH2:H<=256) (hn:(n:Int)=W*H) (q:n<=256) (hi:i<n) (hk:k<n):
 Calls prog 273 #[.agg #[W,H, .slice ad n b],i,k] w fun e w'=>e= .returned ↑(uM W H i k)/\Below w w w':=by
 obtain ⟨P,Q,B,D,tP,tQ,p0,p1,q0,q1⟩:=wu u f hn q hi;obtain ⟨j,g,l,m,N,U,R,M,b0,O⟩:=wu u f hn q hk;have C:Hd (uM W H i k=yL (P - j) W*yL (P - j) W+yL (Q - g) H*yL (Q - g) H):=Jh (by unfold uM;rw [B,D,l,m]);obtain ⟨y,z⟩:=jT (d:=P - j) u;obtain ⟨A,x⟩:=jT (d:=Q - g) G;obtain ⟨X,t⟩: ∃X,yL (P - j) W=X:=⟨_,rfl⟩
 obtain ⟨Y,s⟩: ∃Y,yL (Q - g) H=Y:=⟨_,rfl⟩
 rw [t] at y z;rw [s] at A x;have L:=Yr z z y om;have m2:=Yr x x A om;have J:=Yr f f om om;have F:=Yr hH2 hH2 om om;have T:=Xb y;have V:=Xb A;have u1:IntKind.i64.wrap P=P:=Yc _ om;have u2:IntKind.i64.wrap j=j:=Yc _ om;have u3:IntKind.i64.wrap Q=Q:=Yc _ om;have u4:IntKind.i64.wrap g=g:=Yc _ om;have u5:IntKind.i64.wrap (P - j)=P - j:=Yc _ om;have u6:IntKind.i64.wrap (Q - g)=Q - g:=Yc _ om;have u7:IntKind.i64.wrap (X*X)=X*X:=Yc _ om;have u8:IntKind.i64.wrap (Y*Y)=Y*Y:=Yc _ om;have u9:IntKind.i64.wrap (X*X+Y*Y)=X*X+Y*Y:=Yc _ om;have z1: ¬W=0:=om;have z2:(W==0)=false:=sO;rw [t,s] at C;have I:=Jh t;have HY:=Jh s;clear B D l m t s L m2 J F T V;go_in;go_wp2_with fail;have c0:=(Blk.new w 31 #[W,H, .slice ad n b]).cell 0;have c1:=(Blk.new w 31 #[W,H, .slice ad n b]).cell 1;simp only [Yi,List.getElem?_cons_zero,List.getElem?_cons_succ] at c0 c1
 go_region_held3 (fun v=>Jc v w W/\v=(w.alloc (.cells #[W,H, .slice ad n b] 31)).drew)
  (first | exact ⟨c0,rfl⟩)
  (first
   | (go_at_call 293;((with_reducible refine (UM _ _ _ om om om om).mono ?_);rintro e v1 ⟨rfl,rfl⟩;rw [I.Z])))
 go_wp2_with fail
 go_region_held3 (fun v=>Jc v w W/\Jc v (w,1) H)
  (first | exact ⟨c0,c1⟩)
  (first
   | (go_at_call 293;((with_reducible refine (UM _ _ _ om om om om).mono ?_);rintro e v1 ⟨rfl,rfl⟩;rw [HY.Z])))
 go_wp2_with fail;go_ret;exact ⟨yf C.Z.symm,(((Joins.below_alloc1 w _).drew).drew)⟩
theorem Qp (W H:Int) (n i k:Nat) (w:World) (s:1<=W) (b:W<=256) (G:1<=H) (hH2:H<=256) (hn:(n:Int)=W*H) (q:n<=256) (hi:i<n) (hk:k<n):
 Calls prog 287 #[W,H, .agg #[.int .i64 ((i:Int) % W), .int .i64 ((i:Int)/W)], .agg #[.int .i64 ((k:Int) % W), .int .i64 ((k:Int)/W)]] w fun e w'=>e= .returned ↑(uM W H i k)/\Below w w w':=by
 rw [zCp s G];obtain ⟨P,Q,A,F,O,U,p0,p1,q0,q1⟩:=wu s b hn q hi;obtain ⟨m,j,l,f,D,B,T,b3,b2,b4⟩:=wu s b hn q hk;have L:Hd (uM W H k i=yL (m - P) W*yL (m - P) W+yL (j - Q) H*yL (j - Q) H):=Jh (by unfold uM;rw [A,F,l,f]);rw [A,F,l,f];obtain ⟨x,z⟩:=jT (d:=m - P) s;obtain ⟨C,y⟩:=jT (d:=j - Q) G;obtain ⟨X,u⟩: ∃X,yL (m - P) W=X:=⟨_,rfl⟩
 obtain ⟨Y,t⟩: ∃Y,yL (j - Q) H=Y:=⟨_,rfl⟩
 rw [u] at x z;rw [t] at C y;have m1:=Yr z z x om;have m2:=Yr y y C om;have V:=Yr b b om om;have N:=Yr hH2 hH2 om om;have m5:=Xb x;have m6:=Xb C;have u7:IntKind.i64.wrap (X*X)=X*X:=Yc _ om;have u8:IntKind.i64.wrap (Y*Y)=Y*Y:=Yc _ om;have u9:IntKind.i64.wrap (X*X+Y*Y)=X*X+Y*Y:=Yc _ om;rw [u,t] at L;have R:=Jh u;have HY:=Jh t;clear A F l f O U D B u t m1 m2 V N m5 m6 hn hi hk;go_in;go_wp2_with fail;have I:=(Blk.new w 176 #[P,Q]).alloc (.cells #[m,j] 176);have J:=Blk.zD (g:=w.heap.size+1) (w:=w.alloc (.cells #[P,Q] 176)) 176 #[m,j] sI;have a0:=I.cell 0;have a1:=I.cell 1;have M:=J.cell 0;have b1:=J.cell 1;simp only [Yi,List.getElem?_cons_zero,List.getElem?_cons_succ] at a0 a1 M b1
 go_region_held3 (fun v=>Jc v w P/\Jc v (w,1) Q/\Jc v ↑(w.heap.size+1) m/\Jc v (w.heap.size+1,1) j)
  (first | exact ⟨a0,a1,M,b1⟩)
  (first
   | (go_at_call 300;((with_reducible refine (zAu _ _ _ _ om om om om om om).mono ?_);rintro e v1 ⟨rfl,rfl⟩;first | rw [R.Z] | rw [HY.Z])))
 all_goals (
  go_wp2_with fail;go_ret
  exact ⟨yf L.Z.symm,((Joins.below_alloc2 w _ _).drew)⟩)
theorem XA (W H:Int) (ad:Option Addr) (n f:Nat) (xs:List Int) (w:World) (hn:xs.length=n) (ha:Rd w ad xs) (hl:n<=9223372036854775807):
 Calls prog 155 #[.agg #[W,H, .slice ad n f]] w (zR (.bool (zf W H xs)) w):=by
 have j:=Jh hn;have m:=Jh ha;clear hn ha;go_in;go_wp2_with fail;refine (kK _ _ _ _ _ xs _ j.Z (by exact m.Z.alloc _) hl).mono ?_;rintro e w1 ⟨rfl,hb⟩;have b:=Jh (nJ.trans (hb.mono sI));have g:=Jh ((Blk.new w 31 #[W,H, .slice ad n f]).zA hb);obtain ⟨q,c0,c1,c2⟩:=g.Z.c3;clear hb;have E:Hd (zf W H xs=(zP W H xs 1 && decide (n<=256))):=Jh (by unfold zf;rw [j.Z]);obtain ⟨P,l⟩: ∃P,zP W H xs 1=P:=⟨_,rfl⟩
 rw [l] at E⊢;clear l;cases P
 . go_wp2_with fail
   go_ret;exact ⟨zX (by rw [E.Z];rfl),b.Z⟩
 go_wp2_with fail;go_ret;exact ⟨zX (by rw [E.Z,Bool.true_and];exact decide_eq_decide.2 om),b.Z⟩
theorem Va (W H:Int) (ad:Option Addr) (n f:Nat) (xs:List Int) (w:World) (hn:xs.length=n) (ha:Rd w ad xs) (hl:n<=9223372036854775807):
 Calls prog 229 #[.agg #[W,H, .slice ad n f]] w (zR (.bool (zf W H xs)) w):=by
 have j:=Jh hn;have m:=Jh ha;clear hn ha;go_in;go_wp2_with fail;refine (kH _ _ _ _ _ xs _ j.Z (by exact m.Z.alloc _) hl).mono ?_;rintro e w1 ⟨rfl,hb⟩;have b:=Jh (nJ.trans (hb.mono sI));have g:=Jh ((Blk.new w 31 #[W,H, .slice ad n f]).zA hb);obtain ⟨q,c0,c1,c2⟩:=g.Z.c3;clear hb;have E:Hd (zf W H xs=(zP W H xs 1 && decide (n<=256))):=Jh (by unfold zf;rw [j.Z]);obtain ⟨P,l⟩: ∃P,zP W H xs 1=P:=⟨_,rfl⟩
 rw [l] at E⊢;clear l;cases P
 . go_wp2_with fail
   go_ret;exact ⟨zX (by rw [E.Z];rfl),b.Z⟩
 go_wp2_with fail;go_ret;exact ⟨zX (by rw [E.Z,Bool.true_and];exact decide_eq_decide.2 om),b.Z⟩
theorem zKX (e:1<=W) (f:W<=256) (b:1<=H) (hH2:H<=256) (i k:Nat):0<=uM W H i k/\uM W H i k<=131072:=by
 refine ⟨zKY e b i k,?_⟩;unfold uM;obtain ⟨g,q⟩:=jT (d:=(i:Int) % W - (k:Int) % W) e;obtain ⟨j,l⟩:=jT (d:=(i:Int)/W - (k:Int)/W) b;have s:=Yr (show yL ((i:Int) % W - (k:Int) % W) W<=256 by omega) (show yL ((i:Int) % W - (k:Int) % W) W<=256 by omega) g om;have m:=Yr (show yL ((i:Int)/W - (k:Int)/W) H<=256 by omega) (show yL ((i:Int)/W - (k:Int)/W) H<=256 by omega) j om;omega
theorem zCf (h1:xs.getD k 0=v) (h2:yq xs v c k<0\/c k<c (yq xs v c k).toNat):yq xs v c (k+1)=k:=by
 rw [yq,if_pos ⟨h1,h2⟩]
theorem zKD (h1: ¬xs.getD k 0=v):yq xs v c (k+1)=yq xs v c k:=by
 rw [yq,if_neg (fun h=>h1 h.1)]
theorem zKB (b:0<=yq xs v c k) (h2: ¬c k<c (yq xs v c k).toNat):yq xs v c (k+1)=yq xs v c k:=by
 rw [yq,if_neg (fun h=>by rcases h.2 with h | h;omega;exact h2 h)]
theorem zEA (W H:Int) (ad:Option Addr) (n f i k:Nat) (w:World) (m:1<=W) (b:W<=256) (q:1<=H) (hH2:H<=256) (hn:(n:Int)=W*H) (g:n<=256) (hi:i<n) (hk:k<n):
 Calls prog 236 #[.agg #[W,H, .slice ad n f],i,k] w fun e w'=>e= .returned ↑(wtG W H i k)/\Below w w w':=by
 have y:=Jh hn;have E:Hd (wtG W H i k=4096/(1+uM W H i k)):=Jh rfl;obtain ⟨u,t⟩:=zKX m b q hH2 i k;have s:=Jh (fun v:World=>zJN W H ad n f i k v m b q hH2 hn g hi hk);obtain ⟨F,l⟩: ∃F,uM W H i k=F:=⟨_,rfl⟩
 rw [l] at u t E s;have z: ¬1+F=0:=om;have z2:(1+F==0)=false:=sO;have z3:IntKind.i64.wrap (1+F)=1+F:=Yc _ om;have z4:(4096:Int).tdiv (1+F)=4096/(1+F):=Yt om;have z5:0<=4096/(1+F):=Yw om om;have x:4096/(1+F)<=4096:=Int.ediv_le_self _ om;clear hn l;go_in;go_wp2_with fail;refine (s.Z _).mono ?_;rintro e w1 ⟨rfl,hb⟩;have j:=Jh (nJ.trans (hb.mono sI));clear hb;go_wp2_with fail;go_ret;exact ⟨yf (by rw [E.Z]),j.Z⟩
theorem zFp (W H:Int) (ad:Option Addr) (n b:Nat) (xs:List Int) (i:Nat) (w:World) (hn:xs.length=n) (ha:Rd w ad xs) (q:zf W H xs=true) (hi:i<n):
 Calls prog 197 #[.agg #[W,H, .slice ad n b],i] w fun e w'=>e= .returned ↑(yA W H xs i)/\Below w w w':=by
 have A:=Jh hn;have HA:=Jh ha;clear hn ha;obtain ⟨b1,b2,b3,b4,R,b6,b7,U,O⟩:=xn A.Z q;have Y:=Jh R;have B8:=Jh U;have B9:=Jh O;clear R U O;clear q;have E:Hd (yA W H xs i=xd W H xs i n):=Jh (by unfold yA;rw [A.Z]);have CB:=Jh (fun k=>zAc b1 b3 xs i k);have t:=Jh (HA.Z.alloc (.cells #[W,H, .slice ad n b] 31));have x:=Jh (Blk.new w 31 #[W,H, .slice ad n b]);have z:=Jh (Joins.below_alloc1 w (.cells #[W,H, .slice ad n b] 31));go_in;obtain ⟨w2,l⟩:=zN (w.alloc (.cells #[W,H, .slice ad n b] 31));rw [<-l] at t x z;go_wp2_with fail;rw [<-l];clear l
 go_loopw [5,11] (fun s j wr=> ∃k:Nat,k<=n/\j=↑k/\s=↑(xd W H xs i k)/\Below w2.heap.size w2 wr) (fun _ j _=>n - (intOf j).toNat)
 case atStart=>exact ⟨0,nZ,rfl,rfl,bR⟩
 obtain ⟨k,hk,rfl,rfl,f⟩:=hrel;have g:=Jh f;have B:=Jh (x.Z.zA f);have L:=Jh (t.Z.below f);clear f;obtain ⟨l0,o0,o1,o2⟩:=B.Z.c3;by_cases G:k<n
 . obtain ⟨ba,oa,I,b0,y⟩:=L.Z.at (oh A)
   subst I;have g1:=y k (oh A);obtain ⟨V,F⟩: ∃V,xs.getD k 0=V:=⟨_,rfl⟩
   rw [F] at g1;have HV:=Jh F;clear F y;obtain ⟨c1,c2⟩:=CB.Z k;have m:Hd (xd W H xs i (k+1)=xd W H xs i k+(if V=1 then wtG W H i k else 0)):=Jh (by rw [xd,HV.Z]);obtain ⟨C,D⟩: ∃C,xd W H xs i k=C:=⟨_,rfl⟩
   rw [D] at c1 c2 m;rw [D];clear D;by_cases u:V=1
   . subst u
     rw [if_pos rfl] at m;obtain ⟨X,t2⟩:=zBk b1 b3 i k;have N:=Jh (fun v:World=>zEA W H (some ↑(ba,oa)) n b i k v b1 om b3 om Y.Z b6 hi G);obtain ⟨T,M⟩: ∃T,wtG W H i k=T:=⟨_,rfl⟩
     rw [M] at X t2 N m;clear M;go_wp2_with fail;refine (N.Z _).mono ?_;rintro e w3 ⟨rfl,hb⟩;have J:=Jh (zI g.Z hb);clear hb;go_wp2_with fail;go_roundw
     case rel=>exact ⟨k+1,om,by go_num,by rw [m.Z],J.Z⟩
     exact Jm
   rw [if_neg u] at m;go_wp2_with fail;go_roundw
   case rel=>exact ⟨k+1,om,by go_num,by rw [m.Z];simp,g.Z⟩
   exact Jm
 obtain rfl:n=k:=om;go_wp2_with fail;go_ret;exact ⟨yf (by rw [E.Z]),zI z.Z g.Z⟩
theorem QY (W H:Int) (ad:Option Addr) (n g:Nat) (xs:List Int) (v s:Int) (w:World) (hn:xs.length=n) (ha:Rd w ad xs) (q:zf W H xs=true) (hs:s=1\/s=-1):
 Calls prog 158 #[.agg #[W,H, .slice ad n g],v,s] w fun e w'=>e= .returned ↑(yq xs v (fun j=>-(s*yA W H xs j)) n)/\Below w w w':=by
 have F:=Jh hn;have HA:=Jh ha;clear hn ha;obtain ⟨b1,b2,b3,b4,b5,b6,b7,b8,b9⟩:=xn F.Z q;have B5:=Jh b5;have B8:=Jh b8;have B9:=Jh b9;clear b5 b8 b9;have N:=Jh q;clear q;have A:=Jh (HA.Z.alloc (.cells #[W,H, .slice ad n g] 31));have J:=Jh (Blk.new w 31 #[W,H, .slice ad n g]);have O:=Jh (Joins.below_alloc1 w (.cells #[W,H, .slice ad n g] 31));have HS:=Jh hs;clear hs;go_in;obtain ⟨w2,x⟩:=zN (w.alloc (.cells #[W,H, .slice ad n g] 31));rw [<-x] at A J O;go_wp2_with fail;rw [<-x];clear x
 go_loopw [7,8,15] (fun b m j wr=> ∃(k:Nat) (B M:Int),k<=n/\j=↑k/\b=↑B/\m=↑M/\Hd (B=yq xs v (fun j=>-(s*yA W H xs j)) k)/\Hd (B<0\/M=s*yA W H xs B.toNat)/\Below w2.heap.size w2 wr) (fun _ _ j _=>n - (intOf j).toNat)
 case atStart=>exact ⟨0,-1,0,nZ,rfl,rfl,rfl,Jh rfl,Jh (Or.inl om),bR⟩
 obtain ⟨k,B,M,hk,rfl,rfl,rfl,f,I,l⟩:=hrel;have t:=Jh l;have D:=Jh (J.Z.zA l);have y:=Jh (A.Z.below l);clear l;obtain ⟨l0,o0,o1,o2⟩:=D.Z.c3;by_cases c0:k<n
 . obtain ⟨ba,oa,c4,d0,L⟩:=y.Z.at (oh F)
   subst c4;have g1:=L k (oh F);obtain ⟨V,hV⟩: ∃V,xs.getD k 0=V:=⟨_,rfl⟩
   rw [hV] at g1;have HV:=Jh hV;clear hV L;by_cases G:V=v
   . subst G
     obtain ⟨c1,c2⟩:=VT F.Z N.Z k;have FC:=Jh (fun (v:World) hr=>zFp W H (some ↑(ba,oa)) n g xs k v F.Z hr N.Z c0);obtain ⟨C,U⟩: ∃C,yA W H xs k=C:=⟨_,rfl⟩
     rw [U] at c1 c2 FC;have T:=Jh U;clear U;obtain ⟨X,hX⟩: ∃X,s*C=X:=⟨_,rfl⟩
     have x1:-1048576<=X/\X<=1048576:=by rcases HS.Z with h | h <;>subst h <;>omega
     obtain ⟨x1,x2⟩:=x1;have u1:IntKind.i64.wrap (s*C)=X:=by rw [hX];exact Yc _ om
     have R:=Jh hX;clear hX;go_wp2_with fail;refine (FC.Z _ (by exact y.Z)).mono ?_;rintro e w3 ⟨rfl,hb⟩;have u:=Jh (zI t.Z hb);clear hb FC D y o0 o1 o2 g1 l0 c1 c2;by_cases hB:B<0
     . have z:Hd (yq xs V (fun j=>-(s*yA W H xs j)) (k+1)=k):=Jh (zCf HV.Z (Or.inl (by rw [<-f.Z];exact hB)))
       go_wp2_with fail;go_roundw
       case rel=>exact ⟨k+1,k,X,om,by go_num,rfl,rfl,Jh z.Z.symm,Jh (Or.inr (by rw [<-R.Z,<-T.Z];simp)),u.Z⟩
       exact Jm
     have c5:0<=B:=om;have hM:M=s*yA W H xs B.toNat:=by rcases I.Z with h | h;omega;exact h
     have Y:=Jh hM;clear hM hB;by_cases b0:M<X
     . have z:Hd (yq xs V (fun j=>-(s*yA W H xs j)) (k+1)=k):=Jh (zCf HV.Z (Or.inr (by rw [<-f.Z];rw [<-Y.Z,T.Z,R.Z];omega)))
       go_wp2_with fail;go_roundw
       case rel=>exact ⟨k+1,k,X,om,by go_num,rfl,rfl,Jh z.Z.symm,Jh (Or.inr (by rw [<-R.Z,<-T.Z];simp)),u.Z⟩
       exact Jm
     have z:Hd (yq xs V (fun j=>-(s*yA W H xs j)) (k+1)=B):=Jh (by rw [zKB (by rw [<-f.Z];omega) (by rw [<-f.Z];rw [<-Y.Z,T.Z,R.Z];omega)];exact f.Z.symm);have c8:X<=M:=om;clear b0;go_wp2_with fail
     all_goals (try (exfalso;omega))
     go_roundw
     case rel=>exact ⟨k+1,B,M,om,by go_num,rfl,rfl,Jh z.Z.symm,Jh (Or.inr Y.Z),u.Z⟩
     exact Jm
   have z:Hd (yq xs v (fun j=>-(s*yA W H xs j)) (k+1)=B):=Jh (by rw [zKD (by rw [HV.Z];exact G)];exact f.Z.symm);go_wp2_with fail;go_roundw
   case rel=>exact ⟨k+1,B,M,om,by go_num,rfl,rfl,Jh z.Z.symm,I,t.Z⟩
   exact Jm
 obtain rfl:n=k:=om;go_wp2_with fail;go_ret;exact ⟨yf f.Z,zI O.Z t.Z⟩
def zQJ (p:Pic):Prop:=p.ink=[]\/(1<=p.W/\p.W<=256/\1<=p.H/\p.H<=256/\(p.ink.length:Int)=p.W*p.H/\p.ink.length<=256)
theorem zFs (w:World)
 (C:o.guard=none) (t e l b:Nat) (T:P.underlying t=some (.slice e)) (A:(P.info? e).map (fun i=>(i.zero,i.size,i.bytes))=some (some (Xf l),l,b)) (X:1<=l) (I:b<=4096)
 (s x:Operand) (F:o.op= .call {callee:= .builtin .append,args:=#[s,x],argTypes:=#[t,t]})
 (B n z:Nat) (ad:Option Addr) (xs:List Int) (Y:a.eval s= .slice ad n z) (O:RowA w e l B ad n z xs) (g:Nat) (q:List Int) (N:a.eval x= .slice ↑g 1 1)
 (hv:q.length=l) (hc: ∀j,j<l->w.cell? ⟨g,j,none⟩=some (.int .i64 (q.getD j 0))) (hn:n<=1048576) (M:B<=w.heap.size)
 (hK: ∀m f w',RowA w' e l B m (n+1) f (xs++q)->w.grownBy w' (zL ad)->K (a.put o.dst (.slice m (n+1) f)) w'):
 if Region.wanted o (yielded ops a.tmps)=true then Oper.wp P o a w K Q else E:=by
 have hw:Region.wanted o (yielded ops a.tmps)=true:=by simp [Region.wanted,C]
 rw [if_pos hw];obtain ⟨i,hi,L,D,G⟩:=info_parts A;have m1:(n+1)*b<=1048577*4096:=Nat.mul_le_mul om I;refine wp_append_own w s x t F B e i (Xf l) l b T hi L D G (by simp [Xf,Value.cells]) om _ n (xs.map (Value.int .i64)) Y O.toRow ↑g 1 1 (q.map (Value.int .i64)) N (by simp [hv]) ?_ ?_ (by unfold maxLen;omega) om M ?_;intro j u y;by_cases J:j<l
 have:=hc j J;rw [List.getElem?_map,Ya om] at y;simp only [Option.map_some,Option.some.injEq] at y;subst y;rw [show (Addr.mk g 0 none).add j=⟨g,j,none⟩ by rw [Addr.add_lit];simp,this];simp [List.getD,Ya (show j<q.length by omega)];rw [Yv sO] at y;cases y;intro u R;obtain ⟨x,_,rfl⟩:=List.mem_map.1 R;rfl;intro V w' h2 h3 _;have h4:w'.ownsRow B e l V (n+1) ((xs++q).map (Value.int .i64)):=by simpa using h2
 obtain ⟨m,f,rfl,U⟩:=RowA.ofRow h4;rw [xj] at h3;exact hK m f w' U h3
def kJ (xs:List Int) (k:Nat):List Nat:=(List.range k).filter (fun i=>decide (xs.getD i 0=1))
def vP (W:Int) (ls:List Nat):List Int:=ls.flatMap (fun (i:Nat)=> [(i:Int) % W,(i:Int)/W])
theorem Qy (h:xs.getD k 0=1):kJ xs (k+1)=kJ xs k++ [k]:=by
 unfold kJ;rw [List.range_succ,List.filter_append];simp [List.getD] at h⊢;simp [h]
theorem zHw (h: ¬xs.getD k 0=1):kJ xs (k+1)=kJ xs k:=by
 unfold kJ;rw [List.range_succ,List.filter_append];simp [List.getD] at h⊢;simp [h]
theorem zNp:i ∈ kJ xs k↔i<k/\xs.getD i 0=1:=by
 unfold kJ;simp
theorem zFQ (xs:List Int) (k:Nat):(kJ xs k).length<=k:=by
 unfold kJ;have:=List.length_filter_le (fun i=>decide (xs.getD i 0=1)) (List.range k);simpa using this
theorem zKZ (W:Int) (ls:List Nat):(vP W ls).length=ls.length*2:=by
 induction ls with
 | nil=>rfl
 | cons a r b=>unfold vP at b⊢;simp only [List.flatMap_cons,Yn,b];simp;omega
theorem zIW (W:Int) (ls:List Nat) (k:Nat):vP W (ls++ [k])=vP W ls++ [(k:Int) % W,(k:Int)/W]:=by
 unfold vP;simp
theorem zEk (W:Int): ∀(ls:List Nat) (k:Nat),k<ls.length->(vP W ls).getD (k*2) 0=((ls.getD k 0:Nat):Int) % W/\(vP W ls).getD (k*2+1) 0=((ls.getD k 0:Nat):Int)/W
 | [],k,h=>by simp at h
 | a::r,0,h=>by simp [vP]
 | a::r,k+1,h=>by
  have e:=zEk W r k (by simpa using h);have b:(k+1)*2=k*2+1+1:=om;have f:vP W (a::r)=(a:Int) % W::(a:Int)/W::vP W r:=by simp [vP]
  rw [f,b];simpa using e
theorem zOA (h:Rd w ad (vP W ls)) (hk:k<ls.length):
 ∃b off,ad=some ⟨b,off,none⟩/\b<w.heap.size/\w.cell? ⟨b,off+k*2,none⟩=some (.int .i64 (((ls.getD k 0:Nat):Int) % W))/\w.cell? ⟨b,off+k*2+1,none⟩=some (.int .i64 (((ls.getD k 0:Nat):Int)/W)):=by
 have hl:=zKZ W ls;obtain ⟨b,off,h1,h2,h3⟩:=h.at om;obtain ⟨e,f⟩:=zEk W ls k hk;refine ⟨b,off,h1,h2,?_,?_⟩;rw [<-e];exact h3 _ om;rw [<-f,Nat.add_assoc];exact h3 _ om
set_option maxRecDepth 100000 in
theorem zGf (W H:Int) (ad:Option Addr) (n f:Nat) (xs:List Int) (w:World) (hn:xs.length=n) (ha:Rd w ad xs) (hp:zQJ ⟨W,H,xs⟩):
 Calls prog 267 #[.agg #[W,H, .slice ad n f]] w fun e w'=>
  ∃a d c,e= .returned (.slice a d c)/\(kJ xs n).length=d/\RowA w' 176 2 w.heap.size a d c (vP W (kJ xs n))/\Below w w w':=by
 have I:=Jh hn;have HP:=Jh hp;have y:=Jh (ha.alloc (.cells #[W,H, .slice ad n f] 31));have t:=Jh (Blk.new w 31 #[W,H, .slice ad n f]);have u:=Jh (Joins.below_alloc1 w (.cells #[W,H, .slice ad n f] 31))
 have nb:n<=256:=by
  rcases hp with h | ⟨h1,h2,h3,h4,M,z⟩
  simp only [] at h;rw [h] at hn;simp at hn;omega;simp only [] at z;omega
 clear hn ha hp;go_in;obtain ⟨w2,q⟩:=zN (w.alloc (.cells #[W,H, .slice ad n f] 31));have b7:Hd (w.heap.size<w2.heap.size):=Jh (by rw [q];exact t.Z.lt);rw [<-q] at y t u;go_wp2_with fail;rw [<-q];clear q
 go_loopw [3,9] (fun r i wr=> ∃(k d F:Nat) (a:Option Addr),k<=n/\i=↑k/\r= .slice a d F/\(kJ xs k).length=d/\RowA wr 176 2 w2.heap.size a d F (vP W (kJ xs k))/\Below w2.heap.size w2 wr) (fun _ i _=>n - (intOf i).toNat)
 case atStart=>exact ⟨0,0,0,none,nZ,rfl,rfl,rfl,RowA.none _ _ _ _,bR⟩
 obtain ⟨k,d,F,a,hk,rfl,rfl,hd,ho,l⟩:=hrel;have J:=Jh hd;have x:=Jh ho;have m:=Jh l;have A:=Jh (t.Z.zA l);have c0:=Jh (y.Z.below l);clear l hd ho;obtain ⟨l0,o0,o1,o2⟩:=A.Z.c3;by_cases O:k<n
 . obtain ⟨ba,oa,U,c5,D⟩:=c0.Z.at (oh I)
   subst U;have g1:=D k (oh I);obtain ⟨V,N⟩: ∃V,xs.getD k 0=V:=⟨_,rfl⟩
   rw [N] at g1;have X:=Jh N;clear N D;by_cases C:V=1
   . subst C
     obtain ⟨b1,b2,b3,b4,b5,b6⟩:1<=W/\W<=256/\1<=H/\H<=256/\(n:Int)=W*H/\n<=256:=by
      rcases HP.Z with h | ⟨h1,h2,h3,h4,M,z⟩
      have:=I.Z;simp only [] at h;rw [h] at this;simp at this;omega;have:=I.Z;simp only [] at M z;rw [this] at M z;exact ⟨h1,h2,h3,h4,M,z⟩
     have B5:=Jh b5;obtain ⟨P,Q,hP,hQ,tP,tQ,p0,p1,q0,q1⟩:=wu b1 b2 b5 b6 O;clear b5;have u1:IntKind.i64.wrap P=P:=Yc _ om;have u2:IntKind.i64.wrap Q=Q:=Yc _ om;have z1: ¬W=0:=om;have z2:(W==0)=false:=sO;have L:Hd (vP W (kJ xs (k+1))=vP W (kJ xs k)++ [P,Q]):=Jh (by rw [Qy X.Z,zIW,hP,hQ]);have EL:Hd ((kJ xs (k+1)).length=d+1):=Jh (by rw [Qy X.Z,Yn,J.Z];rfl);have c4:d<=k:=by rw [<-J.Z];exact zFQ _ _
     clear hP hQ;have s:=Jh m.Z.size;go_upto_region 6 with fail;refine wp_region_held_drew (S:=fun v=>v.cell? w=some ↑W) zK o0 ?_;intro g;refine zO 0 ?_;refine zO 1 ?_;refine zO 2 ?_;refine zO 3 ?_;refine zO 4 ?_;refine zO 5 ?_;refine zO 6 ?_;refine zO 7 ?_;refine zO 8 ?_;refine zO 9 ?_;refine zy 10 (fun K hK=>?_);go_simp;refine hK.out _ _ (Jd (zw o0)) (fun g=>?_);clear hK K;refine zy 11 (fun K hK=>?_)
     refine zFs _ rfl 238 176 2 16 underlying238 zNS dC dC (.tmp 16) (.tmp 26) rfl w2.heap.size d F a (vP W (kJ xs k)) rfl ((x.Z.alloc _).drew) _ [P,Q] rfl rfl (fun j hj=>by
      refine ((Blk.new wr 176 #[P,Q]).cell j).trans ?_
      match j,hj with
      | 0,_=>rfl
      | 1,_=>rfl) om (oS s.Z) ?_
     intro T b0 w4 Y B;have b8:=((A.Z.alloc (.cells #[P,Q] 176)).drew).zG B (fun b hb=>by have:=x.Z.bd b hb;have:=b7.Z;omega);have c1:=Jh (((m.Z.alloc s.Z (.cells #[P,Q] 176)).drew).grown B (oS s.Z) (fun b hb=>(x.Z.bd b hb).1));obtain ⟨m0,y0,y1,y2⟩:=b8.c3;(try dsimp only);refine hK.out _ _ (Jd (y0)) (fun g=>?_);clear hK K;refine zO 12 ?_;refine wpAnyH_done zK ?_ _;(try go_simp);go_wp2_with fail;go_roundw
     case rel=>exact ⟨k+1,d+1,b0,T,om,by go_num,rfl,EL.Z,by rw [L.Z];exact Y,c1.Z⟩
     exact Jm
   have L:Hd (kJ xs (k+1)=kJ xs k):=Jh (zHw (fun h=>C (X.Z.symm.trans h)));go_wp2_with fail;go_roundw
   case rel=>exact ⟨k+1,d,F,a,om,by go_num,rfl,by rw [L.Z];exact J.Z,by rw [L.Z];exact x.Z,m.Z⟩
   exact Jm
 obtain rfl:n=k:=om;go_wp2_with fail;go_ret;exact ⟨_,_,_,rfl,J.Z,x.Z.mono u.Z.size,zI u.Z m.Z⟩
def qO (W H:Int) (i:Nat) (ls:List Nat):Int:=ya (ls.map (fun k=>wtG W H i k))
theorem zDg (W H:Int) (i:Nat) (ls:List Nat) (k:Nat):qO W H i (ls++ [k])=qO W H i ls+wtG W H i k:=by
 unfold qO;rw [List.map_append,ZK];simp [ya]
theorem zMM (W H:Int) (xs:List Int) (i k:Nat):qO W H i (kJ xs k)=xd W H xs i k:=by
 induction k with
 | zero=>rfl
 | succ k b=>
  unfold xd;by_cases h:xs.getD k 0=1
  rw [Qy h,zDg,b,if_pos h];rw [zHw h,b,if_neg h];omega
theorem zPv (f:1<=W) (b:1<=H) (i:Nat) (ls:List Nat):0<=qO W H i ls/\qO W H i ls<=4096*ls.length:=by
 induction ls with
 | nil=>exact ⟨Int.le_refl _,by simp [qO,ya]⟩
 | cons a r e=>
  have:=zBk f b i a;unfold qO at e⊢;simp only [List.map_cons,ya,List.length_cons];omega
theorem zMN (i:Nat) (h:k<ls.length):qO W H i (ls.take (k+1))=qO W H i (ls.take k)+wtG W H i (ls.getD k 0):=by
 rw [Ym h,zDg];simp [List.getD,Ya h]
theorem QC (W H:Int) (ad:Option Addr) (n b i:Nat) (w:World) (t:1<=W) (f:W<=256) (hn:(n:Int)=W*H) (j:n<=256) (hi:i<n):
 Calls prog 269 #[.agg #[W,H, .slice ad n b],i] w (zR (.agg #[.int .i64 ((i:Int) % W), .int .i64 ((i:Int)/W)]) w):=by
 obtain ⟨P,Q,q,s,A,G,O,D,L,R⟩:=wu t f hn j hi;rw [q,s];have I:IntKind.i64.wrap P=P:=Yc _ om;have y:IntKind.i64.wrap Q=Q:=Yc _ om;have J: ¬W=0:=om;have z2:(W==0)=false:=sO;have F:=Jh hn;clear hn q s;go_in;go_wp2_with fail;have x:=Jh ((Blk.new w 31 #[W,H, .slice ad n b]).alloc (.cells #[Z0,Z0] 176));have e:=Jh (Blk.zD (g:=w.heap.size+1) (w:=w.alloc (.cells #[W,H, .slice ad n b] 31)) 176 #[Z0,Z0] sI);have u:=Jh (zJ (zJ (Below.refl w w) (.cells #[W,H, .slice ad n b] 31)) (.cells #[Z0,Z0] 176));obtain ⟨C,M,z,N⟩:=x.Z.c3;have l:=e.Z.cell 0;have m:=e.Z.cell 1;have T:=e.Z.frozen 0;have B:=e.Z.frozen 1;simp only [Yi,List.getElem?_cons_zero,List.getElem?_cons_succ] at l m
 go_region
 all_goals (
  go_wp2_with fail
  exact bodyPost_ret (v:= .agg #[P,Q]) (by simp [results,results269,go_sem,l,m]) rfl
   ⟨rfl,(zJ (zJ (Below.refl w w) _) _).drew⟩)
theorem Zt (W H:Int) (ad:Option Addr) (n b i k:Nat) (w:World) (s:1<=W) (g:W<=256) (t:1<=H) (hH2:H<=256) (hn:(n:Int)=W*H) (m:n<=256) (hi:i<n) (hk:k<n):
 Calls prog 271 #[.agg #[W,H, .slice ad n b], .agg #[.int .i64 ((i:Int) % W), .int .i64 ((i:Int)/W)], .agg #[.int .i64 ((k:Int) % W), .int .i64 ((k:Int)/W)]] w fun e w'=>e= .returned ↑(wtG W H i k)/\Below w w w':=by
 have E:Hd (wtG W H i k=4096/(1+uM W H i k)):=Jh rfl;obtain ⟨C,z⟩:=zKX s g t hH2 i k;have l:=Jh (fun v:World=>Qp W H n i k v s g t hH2 hn m hi hk);obtain ⟨F,x⟩: ∃F,uM W H i k=F:=⟨_,rfl⟩
 rw [x] at C z E l;obtain ⟨P,u⟩: ∃P,(i:Int) % W=P:=⟨_,rfl⟩
 obtain ⟨Q,y⟩: ∃Q,(i:Int)/W=Q:=⟨_,rfl⟩
 obtain ⟨B,j⟩: ∃P,(k:Int) % W=P:=⟨_,rfl⟩
 obtain ⟨A,f⟩: ∃Q,(k:Int)/W=Q:=⟨_,rfl⟩
 rw [u,y,j,f] at l⊢;have G: ¬1+F=0:=om;have z2:(1+F==0)=false:=sO;have z3:IntKind.i64.wrap (1+F)=1+F:=Yc _ om;have z4:(4096:Int).tdiv (1+F)=4096/(1+F):=Yt om;have z5:0<=4096/(1+F):=Yw om om;have D:4096/(1+F)<=4096:=Int.ediv_le_self _ om;clear hn x u y j f hi hk;go_in;go_wp2_with fail;refine (l.Z _).mono ?_;rintro e w1 ⟨rfl,hb⟩;have q:=Jh (zI (zJ (zJ (zJ (Below.refl w w) (.cells #[W,H, .slice ad n b] 31)) (.cells #[.int .i64 P, .int .i64 Q] 176)) (.cells #[B,A] 176)) hb);clear hb;go_wp2_with fail;go_ret;exact ⟨yf (by rw [E.Z]),q.Z⟩
theorem zEw (W H:Int) (ad sa:Option Addr) (n b d sc i:Nat) (ls:List Nat) (w:World) (D:1<=W) (b1:W<=64) (F:1<=H) (hH2:H<=64) (hn:(n:Int)=W*H) (N:n<=256) (hi:i<n) (t: ∀k,k ∈ ls->k<n) (hd:ls.length=d) (b0:d<=256) (hr:Rd w sa (vP W ls)):
 Calls prog 268 #[.agg #[W,H, .slice ad n b], .slice sa d sc, .agg #[.int .i64 ((i:Int) % W), .int .i64 ((i:Int)/W)]] w fun e w'=>e= .returned ↑(qO W H i ls)/\Below w w w':=by
 have z:=Jh hd;have B5:=Jh hn;have I:=Jh t;have CW:=Jh (fun (k:Nat) (hk:k<n) (v:World)=>Zt W H ad n b i k v D om F om hn N hi hk);obtain ⟨P,V⟩: ∃P,(i:Int) % W=P:=⟨_,rfl⟩
 obtain ⟨Q,hQ⟩: ∃Q,(i:Int)/W=Q:=⟨_,rfl⟩
 rw [V,hQ] at CW⊢;have KP:=Jh ((Blk.new w 31 #[W,H, .slice ad n b]).alloc (.cells #[.int .i64 P, .int .i64 Q] 176));have KC:=Jh (Blk.zD (g:=w.heap.size+1) (w:=w.alloc (.cells #[W,H, .slice ad n b] 31)) 176 #[.int .i64 P, .int .i64 Q] sI);have x:=Jh (zJ (zJ (Below.refl w w) (.cells #[W,H, .slice ad n b] 31)) (.cells #[.int .i64 P, .int .i64 Q] 176));have q:=Jh ((hr.alloc (.cells #[W,H, .slice ad n b] 31)).alloc (.cells #[.int .i64 P, .int .i64 Q] 176));clear hd hn t V hQ hr;go_in;obtain ⟨w2,m⟩:=zN ((w.alloc (.cells #[W,H, .slice ad n b] 31)).alloc (.cells #[.int .i64 P, .int .i64 Q] 176));rw [<-m] at KP KC x q;go_wp2_with fail;rw [<-m];clear m
 go_loopw [7,12] (fun s j wr=> ∃k:Nat,k<=d/\j= .int .i64 k/\s= .int .i64 (qO W H i (ls.take k))/\Below w2.heap.size w2 wr) (fun _ j _=>d - (intOf j).toNat)
 case atStart=>exact ⟨0,nZ,rfl,rfl,bR⟩
 obtain ⟨k,hk,rfl,rfl,f⟩:=hrel;have u:=Jh f;have G:=Jh (KP.Z.zA f);have l:=Jh (KC.Z.zA f);have O:=Jh (q.Z.below f);clear f;by_cases b2:k<d
 . obtain ⟨l0,o0,o1,o2⟩:=G.Z.c3
   have hm:ls.getD k 0<n:=I.Z _ (by have:=z.Z;simp [List.getD,Ya (show k<ls.length by omega)]);have y:=Jh (zMN (W:=W) (H:=H) i (ls:=ls) (k:=k) (oh z));obtain ⟨ba,oa,J,b3,g1,g2⟩:=zOA O.Z (k:=k) (oh z);obtain ⟨A,hA⟩: ∃A,ls.getD k 0=A:=⟨_,rfl⟩
   rw [hA] at g1 g2 hm y;have B:=Jh (CW.Z A hm);obtain ⟨t1,t2⟩:=zBk D F i A;have C:=zPv D F i (ls.take k);rw [Yj] at C;obtain ⟨s1,s2⟩:0<=qO W H i (ls.take k)/\qO W H i (ls.take k)<=1048576:=⟨C.1,by have:=C.2;omega⟩
   obtain ⟨S,M⟩: ∃S,qO W H i (ls.take k)=S:=⟨_,rfl⟩
   obtain ⟨T,R⟩: ∃T,wtG W H i A=T:=⟨_,rfl⟩
   rw [R] at t1 t2 B y;rw [M] at s1 s2 y;rw [M];obtain ⟨X,hX⟩: ∃X,(A:Int) % W=X:=⟨_,rfl⟩
   obtain ⟨Y,U⟩: ∃Y,(A:Int)/W=Y:=⟨_,rfl⟩
   rw [hX] at g1 B;rw [U] at g2 B;subst J;have l9:=l.Z.lt;have d0:=l.Z.cell 0;have d1:=l.Z.cell 1;simp only [Yi,List.getElem?_cons_zero,List.getElem?_cons_succ] at d0 d1;clear C M R hX U hA;go_wp2_with fail;refine (B.Z _).mono ?_;rintro e w3 ⟨rfl,hb⟩;have L:=Jh (zI (zJ u.Z _) hb);clear hb;go_wp2_with fail;go_roundw
   case rel=>exact ⟨k+1,om,by go_num,by rw [y.Z],L.Z⟩
   exact Jm
 obtain rfl:d=k:=om;go_wp2_with fail;go_ret;exact ⟨yf (by rw [Yk (oh z)]),zI x.Z u.Z⟩
end Go.Proofs.YtlenfgdjdianiaaGreatDoor
