/- Facts on which this claim rests, 14. -/
import Derived.Test.YtlenfgdjdianiaaGreatDoorG13
set_option linter.all false
set_option maxHeartbeats 6400000
namespace Go.Proofs.YtlenfgdjdianiaaGreatDoor
open Go.RowKit Tq Go.Proofs.Tryz
variable {B M N g i k m n : Nat} {H V W v : Int} {ad : Option Addr} {l : List UInt8} {w w' : World}
theorem lU {ps:List PV} (hi:i<N):(BP ps N).getD i 0=vZ (zS ps) i:=by
 unfold BP;rw [yY _ _ _ hi]
def JY (ps:List PV) (M i:Nat):List Int:=gen M (fun r=>Xk (vZ (zS ps)) r i)
theorem Fu (ps:List PV) (M:Nat):List.replicate M 0=JY ps M 0:=by
 unfold JY;refine jP M _ _ sI (fun i hi=>?_);simp [Xk,List.getD,hi]
theorem Lp {ps:List PV} (hm:vZ (zS ps) i=(m:Int)) (a:m<M) (b:Xk (vZ (zS ps)) m i=V):(JY ps M i).set m (V+1)=JY ps M (i+1):=by
 unfold JY;refine Oi a ?_ (fun r hr c=>?_);show Xk (vZ (zS ps)) m i+(if vZ (zS ps) i=m then 1 else 0)=V+1;rw [hm,if_pos rfl,b];show Xk (vZ (zS ps)) r i+(if vZ (zS ps) i=r then 1 else 0)=_;rw [hm,if_neg om,Int.add_zero]
theorem OL {ps:List PV} (a:m<M):(JY ps M i).getD m 0=Xk (vZ (zS ps)) m i:=by
 unfold JY;rw [yY _ _ _ a]
theorem Fv {ps:List PV} (T:Stk ps n N W H):xw (zS ps)=JY ps (2^n) N:=by
 unfold xw JY;rw [if_pos T.ok,kU,T.len,T.inkLen]
theorem Lu {L:List Pic} (h:xG L=false):xw L=[]:=by unfold xw;rw [h];rfl
theorem Wi {ps:List PV} (T:Stk ps n N W H) (hi:i<N): ∃m:Nat,vZ (zS ps) i=m/\m<2^n:=by
 obtain ⟨h1,h2⟩:=T.bits hi (Nat.le_refl n);rw [<-T.mark] at h1 h2;have e:(2:Int)^n=((2^n:Nat):Int):=by push_cast;rfl
 rw [e] at h2;exact ⟨(vZ (zS ps) i).toNat,om,om⟩
theorem Wu (h:n<=4):1<=2^n/\2^n<=16:=by
 have:=JU h;have e:(2:Int)^n=((2^n:Nat):Int):=by push_cast;rfl
 omega
def Lg (w:World) (xs:List Int) (e:Ending) (w':World):Prop:= ∃a n c,e= .returned (.slice a n c)/\OwnA w' w a n c xs/\n<=1048576/\Below w w w'
theorem Hz (ad:Option Addr) (n f:Nat) (ps:List PV) (w:World) (hn:ps.length=n) (ha:RdV w ad ps) (hl:n<=1048576) (h4: ∀k,k<ps.length->(pv ps k).n<=1048576):
 Calls prog 97 #[.slice ad n f] w (Lg w (xw (zS ps))):=by
 have HA:=Jh ha;have F:=Jh (Bq ad n f ps w hn ha hl h4);by_cases C:xG (zS ps)=true
 case neg=>
  have o:xG (zS ps)=false:=by simpa using C
  rw [Lu o];rw [o] at F;clear C o hn ha h4;go_in;go_wp2_with fail;refine F.Z.mono ?_;rintro e w1 ⟨rfl,hb⟩;have a:=Jh hb;clear hb
  go_wp2
  go_ret;exact ⟨none,0,0,rfl,oN,om,a.Z⟩
 obtain ⟨N,W,H,T⟩:=oD hn C;rw [Fv T];rw [C] at F;have G:=Jh T;have b3:=T.n1;have X:=T.n4;have b0:=T.N1;have b1:=T.N2;obtain ⟨m1,m2⟩:=Wu X;have E:Hd (((2^n:Nat):Int)=(2:Int)^n):=Jh (by push_cast;rfl);obtain ⟨M,R⟩: ∃M,2^n=M:=⟨_,rfl⟩
 have x: ∀i:Nat,i<N-> ∃m:Nat,vZ (zS ps) i=m/\m<M:=fun i hi=>by rw [<-R];exact Wi T hi
 have J:=Jh x;rw [R] at m1 m2 E⊢;have EM:(2:Int)^n=(M:Int):=E.Z.symm;have n0:(0:Int)<(n:Int):=om;have n3:(n:Int)<=4:=om;obtain ⟨b,off,U,b2⟩:=ha.addr om;subst U;clear C hn ha h4 T R x;go_in;go_wp2_with fail;refine F.Z.mono ?_;rintro e w1 ⟨rfl,hb⟩;have a:=Jh hb;have q:=Jh (HA.Z.below hb);clear hb;obtain ⟨_,c0,c1,c2⟩:=q.Z.cells (k:=0) (og G.Z.len);have Y:=q.Z.len (k:=0) (og G.Z.len);have A:(pv ps 0).n=N:=by have:=(G.Z.ink 0 om).1;omega
 simp only [Nat.zero_mul,Yy] at c0 c1 c2;rw [A] at c2;clear Y A;go_wp2_with (at_make;refine uE _ rfl _ _ rfl .i64 .i64 _ _ M rfl rfl rfl rfl om ?_;intro MM u);have t:=Jh (u.own w1);have s:=Jh (zM a.Z (.cells MM 3));clear u c0 c1 c2;obtain ⟨w2,D⟩:=zN (w1.alloc (.cells MM 3));rw [<-D] at t s⊢;clear D;have GL:Hd (w.heap.size<=w1.heap.size):=Jh a.Z.size
 go_loopw [18] (fun i wr=> ∃k:Nat,k<=N/\i= .int .i64 k/\Hd (Own wr w1 M M (JY ps M k))/\Hd (Below w w wr)) (fun i _=>N - (intOf i).toNat)
 exact ⟨0,nZ,rfl,Jh (by rw [<-Fu];exact t.Z),s⟩;obtain ⟨k,hk,rfl,L,P⟩:=hrel;by_cases z:k<N
 . have CM:=Jh (TY G.Z (some ↑(b,off)) f k wr (HA.Z.below P.Z) z)
   obtain ⟨m,hm,j⟩:=J.Z k z;have y:=Ia (vZ (zS ps)) m k;obtain ⟨V,I⟩: ∃V,Xk (vZ (zS ps)) m k=V:=⟨_,rfl⟩
   have HG:Hd ((JY ps M k).getD m 0=V):=Jh (by rw [OL j,I]);have O:=Jh (Lp hm j I);rw [I] at y;rw [hm] at CM;obtain ⟨V0,V1⟩:=y;have b4:(m:Int)<(M:Int):=om;clear hm I;go_wp2_with fail;refine CM.Z.mono ?_;rintro e w5 ⟨rfl,hb⟩;have c:=Jh (L.Z.below hb L.Z.lt);have Q:=Jh (zL P.Z hb);have g2:=c.Z.cell j;have g3:=c.Z.frozen m;rw [HG.Z] at g2;have HS:=Jh (c.Z.set m (V+1));clear hb
   go_wp2
   go_roundw
   . exact ⟨k+1,om,by go_num,Jh (by rw [<-O.Z];exact HS.Z),Jh (Q.Z.setCell GL.Z _)⟩
   exact Jm
 obtain rfl:k=N:=om
 go_wp2
 go_ret;exact ⟨_,_,_,rfl,OwnA.mk L.Z GL.Z,om,P.Z⟩
theorem GZ (ad:Option Addr) (n b:Nat) (ps:List PV) (w:World) (hn:ps.length=n) (ha:RdV w ad ps) (hl:n<=1048576) (h4: ∀k,k<ps.length->(pv ps k).n<=1048576):
 Calls prog 172 #[.slice ad n b] w (Lg w (xw (zS ps))):=by
 have HA:=Jh ha;have D:=Jh (Av ad n b ps w hn ha hl h4);by_cases C:xG (zS ps)=true
 case neg=>
  have s:xG (zS ps)=false:=by simpa using C
  rw [Lu s];rw [s] at D;clear C s hn ha h4;go_in;go_wp2_with fail;refine D.Z.mono ?_;rintro e w1 ⟨rfl,hb⟩;have a:=Jh hb;clear hb
  go_wp2
  go_ret;exact ⟨none,0,0,rfl,oN,om,a.Z⟩
 obtain ⟨N,W,H,T⟩:=oD hn C;rw [Fv T];rw [C] at D;have HT:=Jh T;have b2:=T.n1;have A:=T.n4;have b0:=T.N1;have b1:=T.N2;obtain ⟨m1,m2⟩:=Wu A;have Y:=Jh (fun v:World=>Iy ad n b v A);obtain ⟨M,U⟩: ∃M,2^n=M:=⟨_,rfl⟩
 have y: ∀i:Nat,i<N-> ∃m:Nat,vZ (zS ps) i=m/\m<M:=fun i hi=>by rw [<-U];exact Wi T hi
 have L:=Jh y;rw [U] at m1 m2 Y⊢;clear C hn ha h4 T U y;go_in;go_wp2_with fail;refine D.Z.mono ?_;rintro e w1 ⟨rfl,hb⟩;have a:=Jh hb;have F:=Jh (HA.Z.below hb);clear hb;go_wp2_with fail;refine (Y.Z _).mono ?_;rintro e w9 ⟨rfl,rfl⟩;go_wp2_with (at_make;refine uE _ rfl _ _ rfl .i64 .i64 _ _ M rfl rfl rfl rfl om ?_;intro MM x);obtain ⟨u,I,G⟩:=JF (x.own w1) (zM a.Z (.cells MM 3)) (F.Z.alloc (.cells MM 3));clear x;refine (Ox HT.Z ad b _ (by exact G.Z)).mono ?_;rintro e w3 ⟨g,rfl,hg,ho,hb⟩;have O:=Jh (u.Z.below hb u.Z.lt);have t:=Jh (zL I.Z hb);have HG:Hd (w1.heap.size<g):=Jh (by simp at hg;omega);have P:=Jh ho;have GL:Hd (w.heap.size<=w1.heap.size):=Jh a.Z.size;clear hb ho hg
 go_wp2
 go_loopw [15] (fun i wr=> ∃k:Nat,k<=N/\i= .int .i64 k/\Hd (Own wr w1 M M (JY ps M k))/\Hd (w3.grownBy wr (some w1.heap.size))) (fun i _=>N - (intOf i).toNat)
 exact ⟨0,nZ,rfl,Jh (by rw [<-Fu];exact O.Z),Jh (yU _ _)⟩;obtain ⟨k,hk,rfl,E,c⟩:=hrel;by_cases j:k<N
 . have Q:=Jh (P.Z.grown c.Z (by have:=HG.Z;intro e;have:=Yd e;omega))
   have m4:=Q.Z.cell j;rw [lU j] at m4;obtain ⟨m,hm,o⟩:=L.Z k j;rw [hm] at m4;have z:=Ia (vZ (zS ps)) m k;obtain ⟨V,X⟩: ∃V,Xk (vZ (zS ps)) m k=V:=⟨_,rfl⟩
   have f:=OL (ps:=ps) (i:=k) o;have R:=Jh (Lp hm o X);rw [X] at z f;obtain ⟨V0,V1⟩:=z;have b3:(m:Int)<(M:Int):=om;have g2:=E.Z.cell o;have g3:=E.Z.frozen m;rw [f] at g2;have HS:=Jh (E.Z.set m (V+1));clear hm X f
   go_wp2
   go_roundw
   . exact ⟨k+1,om,by go_num,Jh (by rw [<-R.Z];exact HS.Z),Jh (yX c.Z _)⟩
   exact Jm
 obtain rfl:k=N:=om;have J:=Jh (t.Z.grown c.Z t.Z.size (by intro q hq;cases hq;exact GL.Z))
 go_wp2
 go_ret;exact ⟨_,_,_,rfl,OwnA.mk E.Z GL.Z,om,J.Z⟩
theorem jJ.last {r:Nat} {D:Dsk} (h:jJ w B g D) (hk:D.n=k+1) (hr:D.a=some ↑r):
 Jc w (r,k*3) (pv D.ps k).W/\Jc w (r,k*3+1) (pv D.ps k).H/\Jc w (r,k*3+2) (.slice (pv D.ps k).a (pv D.ps k).n (pv D.ps k).c)/\
 (pv D.ps k).ink.length=(pv D.ps k).n/\Rd w (pv D.ps k).a (pv D.ps k).ink/\(pv D.ps k).n<=1048576/\(pv D.ps k).n<=(pv D.ps k).c:=by
 have hl:k<D.ps.length:=by rw [h.own.s.len,hk];omega
 have b:=h.own.s.rd;rw [hr] at b;obtain ⟨_,c0,c1,c2⟩:=b.cells hl;simp only [Nat.zero_add] at c0 c1 c2;refine ⟨c0,c1,c2,b.len hl,b.rd hl,h.small.s k hl,?_⟩;rcases h.own.s.ink k om with ⟨_,h1,h2,_⟩ | ⟨_,_,_,h1⟩
 omega;exact h1.2.choose_spec.2.1
def yg (v:Int):Prop:=-9223372036854775808<=v/\v<=9223372036854775807
def Kn (d:Dat) (q:Pic):Dat × List UInt8:=(d,jG [(vQ q.W q.H q.ink).1,(vQ q.W q.H q.ink).2])
def Kq (d:Dat) (q:Pic):Dat × List UInt8:=(d,jG (vo q.W q.H q.ink))
def Zj (d:Dat) (q:Pic):Dat × List UInt8:=(d,jG (xw d.2.2))
def YX (d:Dat) (q:Pic):Dat × List UInt8:=(d,jG [XL d.1.W d.1.H d.1.ink q.W q.H q.ink])
theorem Ww (w:World) (a b:Int) (T:Nat):Rd (w.alloc (.cells #[a,b] T)) ↑w [a,b]:=by
 intro k hk;refine ⟨w.heap.size,0,rfl,sI,?_⟩;rw [(Blk.new w T #[a,b]).cell];have c:k<2:=by simpa using hk
 rcases (show k=0\/k=1 by omega) with rfl | rfl <;>rfl
theorem Wv (w:World) (a:Int) (T:Nat):Rd (w.alloc (.cells #[a] T)) ↑w [a]:=by
 intro k hk;obtain rfl:k=0:=by simpa using hk
 exact ⟨w.heap.size,0,rfl,sI,by rw [(Blk.new w T #[a]).cell];rfl⟩
section
set_option maxRecDepth 100000
theorem ow (k r:Nat) (w:World) (B g:Nat) (D:Dsk) (b:jJ w B g D) (hk:D.n=k+1) (hr:D.a=some ↑r) (hi:yg (vQ (pv D.ps k).W (pv D.ps k).H (pv D.ps k).ink).1/\yg (vQ (pv D.ps k).W (pv D.ps k).H (pv D.ps k).ink).2):
 Calls prog 128 #[.pointer ↑g, .pointer (some ↑(r,k*3))] w (ku B g D (fun d=>Kn d (pv D.ps k).pic) w):=by
 have f:=Jh b;obtain ⟨c0,c1,c2,z,rd,I,_⟩:=b.last hk hr;obtain ⟨q,A⟩: ∃q,pv D.ps k=q:=⟨_,rfl⟩
 rw [A] at c0 c1 c2 z rd I hi⊢;obtain ⟨G,F,s⟩:=JF rd z hi;clear b hk hr rd z hi A;go_in;go_wp2_with fail;refine (Sd q.W q.H q.a q.n q.c q.ink _ F.Z (by exact G.Z) om).mono ?_;rintro e w1 ⟨rfl,hb⟩;obtain ⟨X,u⟩: ∃X,(vQ q.W q.H q.ink).1=X:=⟨_,rfl⟩
 obtain ⟨Y,y⟩: ∃Y,(vQ q.W q.H q.ink).2=Y:=⟨_,rfl⟩
 have E:Hd (Kn D.dat q.pic=(D.dat,jG [X,Y])):=Jh (by unfold Kn;rw [show q.pic.W=q.W from rfl,show q.pic.H=q.H from rfl,show q.pic.ink=q.ink from rfl,u,y]);rw [u,y] at s⊢;have j:=Jh (zM hb (.cells #[.int .i64 X, .int .i64 Y] 3));have t:=Jh ((f.Z.laid.below hb).below (Joins.below_alloc1 w1 (.cells #[.int .i64 X, .int .i64 Y] 3)));clear hb c0 c1 c2 u y;go_wp2_with fail;refine (Zl ↑w1 2 2 [X,Y] _ rfl (by exact Ww _ _ _ _) om (fun x C=>by simp at C;rcases C with rfl | rfl;exact s.Z.1;exact s.Z.2) (by exact t.Z)).mono ?_;rintro e w2 ⟨rfl,hb⟩;have o:=Jh (zL j.Z hb)
 go_wp2
 go_ret;exact f.Z.stay o.Z (by rw [E.Z]) (by rw [E.Z])
theorem oz (k r:Nat) (w:World) (B g:Nat) (D:Dsk) (b:jJ w B g D) (hk:D.n=k+1) (hr:D.a=some ↑r) (hi:(vo (pv D.ps k).W (pv D.ps k).H (pv D.ps k).ink).length<=4096/\ ∀x,x ∈ vo (pv D.ps k).W (pv D.ps k).H (pv D.ps k).ink->yg x):
 Calls prog 127 #[.pointer ↑g, .pointer (some ↑(r,k*3))] w (ku B g D (fun d=>Kq d (pv D.ps k).pic) w):=by
 have f:=Jh b;obtain ⟨c0,c1,c2,z,rd,O,_⟩:=b.last hk hr;obtain ⟨q,C⟩: ∃q,pv D.ps k=q:=⟨_,rfl⟩
 rw [C] at c0 c1 c2 z rd O hi⊢;obtain ⟨I,G,s⟩:=JF rd z hi;clear b hk hr rd z hi C;go_in;go_wp2_with fail;refine (Sg q.W q.H q.a q.n q.c q.ink _ G.Z (by exact I.Z) om).mono ?_;obtain ⟨X,u⟩: ∃X,vo q.W q.H q.ink=X:=⟨_,rfl⟩
 have E:Hd (Kq D.dat q.pic=(D.dat,jG X)):=Jh (by unfold Kq;rw [show q.pic.W=q.W from rfl,show q.pic.H=q.H from rfl,show q.pic.ink=q.ink from rfl,u]);rw [u] at s⊢;rintro e w1 ⟨a1,n1,k1,rfl,y,J,hb⟩;obtain ⟨j,A,t⟩:=JF hb y (f.Z.laid.below hb);have F:=s.Z.1;rw [y.len] at F;clear hb c0 c1 c2 u y;go_wp2_with fail;refine (Zl a1 n1 k1 X _ A.Z.len (by exact A.Z.rd) F (fun x L=>s.Z.2 x L) (by exact t.Z)).mono ?_;rintro e w2 ⟨rfl,hb⟩;have o:=Jh (zL j.Z hb)
 go_wp2
 go_ret;exact f.Z.stay o.Z (by rw [E.Z]) (by rw [E.Z])
theorem Tt (k r:Nat) (w:World) (B g:Nat) (D:Dsk) (f:jJ w B g D) (hk:D.n=k+1) (hr:D.a=some ↑r) (hi:(xw (zS D.ps)).length<=4096/\ ∀x,x ∈ xw (zS D.ps)->yg x):
 Calls prog 129 #[.pointer ↑g, .pointer (some ↑(r,k*3))] w (ku B g D (fun d=>Zj d (pv D.ps k).pic) w):=by
 have b:=Jh f;have A:Blk w g 35 ↑D:=f.box;obtain ⟨O,F,d1,d2,d3,d4,G,I⟩:=A.c7;have q:=Jh hi;clear f hk hr hi A F d1 d2 d3 d4 G;go_in;go_wp2_with fail;refine (GZ D.a D.n D.c D.ps _ b.Z.own.s.len (by exact b.Z.own.s.rd) (og b.Z.small.n) (by exact b.Z.small.s)).mono ?_;obtain ⟨X,u⟩: ∃X,xw (zS D.ps)=X:=⟨_,rfl⟩
 have E:Hd (Zj D.dat (pv D.ps k).pic=(D.dat,jG X)):=Jh (by unfold Zj;rw [show D.dat.2.2=zS D.ps from rfl,u]);rw [u] at q⊢;rintro e w1 ⟨a1,n1,k1,rfl,y,J,hb⟩;obtain ⟨j,z,t⟩:=JF hb y (b.Z.laid.below hb);have C:=q.Z.1;rw [y.len] at C;clear hb O I u y;go_wp2_with fail;refine (Zl a1 n1 k1 X _ z.Z.len (by exact z.Z.rd) C (fun x L=>q.Z.2 x L) (by exact t.Z)).mono ?_;rintro e w2 ⟨rfl,hb⟩;have o:=Jh (zL j.Z hb)
 go_wp2
 go_ret;exact b.Z.stay o.Z (by rw [E.Z]) (by rw [E.Z])
end
def jT (s:List UInt8):Option Int:=match Lib.atoiAll s with | .ok v=>if Lib.itoa v=s then some v else none | _=>none
def uS:List (List UInt8)->Option (List Int)
 | []=>some []
 | w::r=>match jT w with
  | none=>none
  | some v=>match uS r with
   | none=>none
   | some l=>some (v::l)
theorem VZ: ∀(a:List (List UInt8)) (k:Nat),k<a.length->jT (a.getD k [])=none->uS a=none
 | [],k,h,_=>by simp at h
 | w::r,0,_,hn=>by
  have h2:jT w=none:=by simpa using hn
  unfold uS;rw [h2]
 | w::r,k+1,h,hn=>by
  have b:=VZ r k (by simpa using h) (by simpa using hn);unfold uS;cases jT w with
  | none=>rfl
  | some v=>rw [b]
theorem BR: ∀(a:List (List UInt8)) (xs:List Int),xs.length=a.length->(∀k,k<a.length->jT (a.getD k [])=some (xs.getD k 0))->uS a=some xs
 | [],xs,hl,_=>by
  have:xs=[]:=List.eq_nil_of_length_eq_zero (by simpa using hl);rw [this];rfl
 | w::r,[],hl,_=>by simp at hl
 | w::r,x::xs,hl,h=>by
  have b:=h 0 sI;have c:=BR r xs (by simpa using hl) (fun k hk=>by have:=h (k+1) (by simpa using hk);simpa using this);have h1:jT w=some x:=by simpa using b
  unfold uS;rw [h1,c]
theorem WK (h:Lib.atoiAll l= .ok v):yg v:=by
 unfold Lib.atoiAll at h;split at h;cases h;dsimp only at h;split at h;cases h;cases h;rename_i u a;have:=Lib.parseMag_lt a;split at h;cases h;split at h;cases h;injection h with h
 unfold yg;split at h <;>omega
def zBj (s:ByteArray) (w:World) (e:Ending) (w':World):Prop:=
 Below w w w'/\((∃v,Lib.atoiAll s.data.toList= .ok v/\e= .returned (.tuple #[.int .i64 v, .nilIface]))\/(∃u p,(∀v,Lib.atoiAll s.data.toList≠ .ok v)/\e= .returned (.tuple #[.int .i64 u, .iface 199 p])))
theorem fM (s:ByteArray) (w:World) (a:s.size<=1048576) (hL:qZ w):Calls prog 132 #[.string s] w (zBj s w):=by
 obtain ⟨f,b,h1⟩:=hL.es;obtain ⟨t2,c,h2⟩:=hL.er;rcases ha:Lib.atoiAll s.data.toList with v | _ | _
 refine (Tryz.strconv_Atoi_ok s om v ha w).mono fun e w' ⟨he,hw⟩=>⟨?_, .inl ⟨v,ha,he⟩⟩
 rcases hw with rfl | ⟨t,rfl⟩
 exact bR;exact Joins.below_bytesWorld _ _ _ _ nI;exact (Tryz.strconv_Atoi_syntax s om ⟨fun v hv=>(by rw [ha] at hv;cases hv),fun hv=>(by rw [ha] at hv;cases hv)⟩ _ w h1 (.inr ⟨_,_,rfl⟩)).mono fun e w' ⟨N,he,_,_,hb⟩=>⟨hb, .inr ⟨_,_,(fun v hv=>by rw [ha] at hv;cases hv),he⟩⟩
 exact (Tryz.strconv_Atoi_range s om ha _ w h2 (.inr ⟨_,_,rfl⟩)).mono fun e w' ⟨N,he,_,_,hb⟩=>⟨hb, .inr ⟨_,_,(fun v hv=>by rw [ha] at hv;cases hv),he⟩⟩
def RdS (w:World) (ad:Option Addr) (ws:List ByteArray):Prop:= ∀k (h:k<ws.length),∃b off,ad=some ⟨b,off,none⟩/\b<w.heap.size/\w.cell? ⟨b,off+k,none⟩=some (.string (ws[k]'h))
theorem RdS.below {a:List ByteArray} (h:RdS w ad a) (hb:Below w w w'):RdS w' ad a:=fun k hk=>by
 obtain ⟨b,off,h1,h2,h3⟩:=h k hk;exact ⟨b,off,h1,Yb h2 hb.size,(hb.cell h2).trans h3⟩
def yC (ws:List ByteArray):List (List UInt8):=ws.map (fun s=>s.data.toList)
def zBo (w:World) (r:Option (List Int)) (e:Ending) (w':World):Prop:=
 Below w w w'/\((r=none/\ ∃v,e= .returned (.tuple #[v, .bool false]))\/ ∃xs a n c,r=some xs/\e= .returned (.tuple #[.slice a n c, .bool true])/\OwnA w' w a n c xs/\ ∀x,x ∈ xs->yg x)
set_option maxRecDepth 100000 in
theorem Uo (ad:Option Addr) (n b6:Nat) (z:List ByteArray) (w:World) (hn:z.length=n) (ha:RdS w ad z) (hl:n<=1048576) (hs: ∀s,s ∈ z->s.size<=1048576) (hL:qZ w):
 Calls prog 76 #[.slice ad n b6] w (zBo w (uS (yC z))):=by
 obtain ⟨C,HA,HS,HL⟩:=JG hn ha hs hL;clear hn ha hs hL;go_in
 go_wp2
 go_loopw [4,11] (fun r i wr=> ∃(k:Nat) (a:Option Addr) (c:Nat) (xs:List Int),k<=n/\i=↑k/\r= .slice a k c/\OwnA wr w a k c xs/\(∀j,j<k->jT ((yC z).getD j [])=some (xs.getD j 0))/\(∀x,x ∈ xs->yg x)/\Below w w wr) (fun _ i _=>n - (intOf i).toNat)
 exact ⟨0,none,0,[],nZ,rfl,rfl,oN,fun j U=>om,fun x hx=>by simp at hx,bR⟩;obtain ⟨k,a,c,xs,hk,rfl,rfl,ho,hv,hx,hb⟩:=hrel;obtain ⟨HO,HV,HX,J⟩:=JG ho hv hx hb;clear ho hv hx hb;by_cases t:k<n
 . obtain ⟨b,off,b7,c1,hc⟩:=(HA.Z.below J.Z) k (by rw [C.Z];exact t)
   subst b7;obtain ⟨s,y⟩: ∃s,z[k]'(by rw [C.Z];exact t)=s:=⟨_,rfl⟩
   rw [y] at hc;have c0:=HS.Z s (by rw [<-y];exact List.getElem_mem _)
   have b0:(yC z).getD k []=s.data.toList:=by
    unfold yC;simp [List.getD,Ya (show k<z.length by rw [C.Z];exact t),y]
   have HW:=Jh b0;have L:=Jh (HL.Z.below J.Z);clear y b0;have k0:(0:Int)<=(k:Int):=om;have k1:(k:Int)<(n:Int):=om;go_wp2_with fail;refine (fM s _ c0 (by exact L.Z)).mono ?_;rintro e w1 ⟨f,⟨v,hv,rfl⟩ | ⟨u,p,X,rfl⟩⟩
   . have A:=Jh (zL J.Z f)
     have b2:=Jh (HO.Z.zA f);have b1:=Jh (L.Z.below f);have F:=WK hv;have O:=Jh hv;clear f hc hv;go_wp2_with fail;refine (MV v _ F.1 F.2 (by exact b1.Z)).mono ?_;rintro e w2 ⟨rfl,E⟩;have o:=Jh (zL A.Z E);have D:=Jh (b2.Z.zA E);clear E;by_cases I:Lib.itoa v=s.data.toList
     . have R:(⟨(Lib.itoa v).toArray⟩:ByteArray)=s:=by rw [I]
       have q:Hd (jT s.data.toList=some v):=Jh (by unfold jT;rw [O.Z];simp only [I,if_true]);rw [R];clear R I;go_wp2_with (at_builtin;refine qQ _ rfl (.tmp 28) (.tmp 30) rfl w k c a xs rfl (D.Z.alloc _) w2.heap.size v rfl (by go_simp) om (oS o.Z.size) ?_;intro b5 Q w5 Y T);obtain ⟨b4,b3,P⟩:=JF ((o.Z.alloc o.Z.size _).grown T (oS o.Z.size) (fun b hb=>(D.Z.bd b hb).1)) Y D.Z.len;clear Y T;go_roundw
       . exact ⟨k+1,b5,Q,xs++ [v],om,by go_num,rfl,b3.Z,fun j U=>by
         by_cases e:j<k
         rw [HV.Z j e];congr 1;simp [List.getD,List.getElem?_append,show j<xs.length by rw [P.Z];exact e];obtain rfl:j=k:=om;rw [HW.Z,q.Z];congr 1;simp [List.getD,List.getElem?_append,P.Z],fun x hx=>by
         rcases List.mem_append.1 hx with hx | hx
         exact HX.Z x hx
         simp at hx;rw [hx];exact F,b4.Z⟩
       exact Jm
     have q:Hd (jT s.data.toList=none):=Jh (by unfold jT;rw [O.Z];simp only [I,if_false]);obtain ⟨s2,G⟩: ∃s2:ByteArray,(⟨(Lib.itoa v).toArray⟩:ByteArray)=s2:=⟨_,rfl⟩
     have b8: ¬s2=s:=by
      intro e;apply I;rw [<-e,<-G]
     rw [G]
     have q1:(s2.toList==s.toList)=false:=by
      rw [beq_eq_false_iff_ne];intro e;rw [Yf,Yf] at e;exact b8 (ByteArray.ext (Array.toList_inj.1 e))
     have q2:(!s2.toList==s.toList)=true:=by rw [q1];rfl
     clear I G
     go_wp2
     go_ret2;exact ⟨o.Z, .inl ⟨VZ _ k (by unfold yC;rw [List.length_map,C.Z];exact t) (by rw [HW.Z];exact q.Z),_,rfl⟩⟩
   have A:=Jh (zL J.Z f)
   have q:Hd (jT s.data.toList=none):=Jh (by
    unfold jT;rcases ha:Lib.atoiAll s.data.toList with v | _ | _
    exact absurd ha (X v);rfl
    rfl)
   clear f X hc
   go_wp2
   go_ret2;exact ⟨A.Z, .inl ⟨VZ _ k (by unfold yC;rw [List.length_map,C.Z];exact t) (by rw [HW.Z];exact q.Z),_,rfl⟩⟩
 obtain rfl:k=n:=om
 go_wp2
 go_ret2;exact ⟨J.Z, .inr ⟨xs,a,k,c,BR _ _ (by unfold yC;rw [List.length_map,C.Z,HO.Z.len]) (fun j U=>HV.Z j (by unfold yC at U;rw [List.length_map,C.Z] at U;exact U)),rfl,HO.Z,HX.Z⟩⟩
theorem YJ (d:Nat) (h:d<10):(UInt8.ofNat (48+d)).toNat=48+d:=by
 rw [UInt8.toNat_ofNat'];omega
theorem Gu (a:Nat) (c:UInt8) (r:List UInt8):Lib.parseUint10 a (c::r)=if 48<=c.toNat/\c.toNat<=57 then (if 1844674407370955162<=a then .range else if 18446744073709551616<=a*10+(c.toNat - 48) then .range else Lib.parseUint10 (a*10+(c.toNat - 48)) r) else Lib.parseUint10 0 [0]:=rfl
theorem mO (u:Nat): ∀r:List UInt8,u<18446744073709551616->Lib.parseUint10 0 (Lib.decDigits u++r)=Lib.parseUint10 u r:=by
 induction u using Nat.strongRecOn with
 | _ u a=>
  intro r b;by_cases h:u<10
  rw [Lib.decDigits,dif_pos h];rw [List.cons_append,List.nil_append,Gu,YJ u h,if_pos om,if_neg om,if_neg om];congr 1;omega;rw [Lib.decDigits,dif_neg h,List.append_assoc,a (u/10) om _ om,List.cons_append,List.nil_append,Gu,YJ (u % 10) om,if_pos om,if_neg om,if_neg om];congr 1;omega
theorem gq (u:Nat):Lib.decDigits u≠ []:=by
 rw [Lib.decDigits];split <;>simp
theorem Vn (u:Nat): ∀c,c ∈ Lib.decDigits u->48<=c.toNat/\c.toNat<=57:=by
 induction u using Nat.strongRecOn with
 | _ u a=>
  intro c hc;by_cases h:u<10
  rw [Lib.decDigits,dif_pos h,List.mem_singleton] at hc;rw [hc,YJ u h];omega;rw [Lib.decDigits,dif_neg h,List.mem_append,List.mem_singleton] at hc;rcases hc with hc | rfl
  exact a (u/10) om c hc;rw [YJ (u % 10) om];omega
def Ua (l:List UInt8):Nat:=l.foldl (fun a c=>a*10+(c.toNat - 48)) 0
theorem NV (l:List UInt8) (c:UInt8):Ua (l++ [c])=Ua l*10+(c.toNat - 48):=by
 unfold Ua;rw [List.foldl_append];rfl
theorem Ro (u:Nat):Ua (Lib.decDigits u)=u:=by
 induction u using Nat.strongRecOn with
 | _ u a=>
  by_cases h:u<10
  rw [Lib.decDigits,dif_pos h];show 0*10+((UInt8.ofNat (48+u)).toNat - 48)=u;rw [YJ u h];omega;rw [Lib.decDigits,dif_neg h,NV,a (u/10) om,YJ (u % 10) om];omega
theorem WU: ∀(l:List UInt8) (x:Nat),x<=l.foldl (fun a c=>a*10+(c.toNat - 48)) x
 | [],x=>nI
 | c::r,x=>by
  have:=WU r (x*10+(c.toNat - 48));rw [List.foldl_cons];omega
theorem zCc (a b:List UInt8):Ua a<=Ua (a++b):=by
 unfold Ua;rw [List.foldl_append];exact WU b _
theorem pF (l:List UInt8) (k:Nat):Ua (l.take k)<=Ua l:=by
 have:=zCc (l.take k) (l.drop k);rwa [List.take_append_drop] at this
theorem fO (h:yg v):Lib.atoiAll (Lib.itoa v)= .ok v:=by
 unfold yg at h
 have hd: ∀u,u<18446744073709551616->Lib.parseMag (Lib.decDigits u)= .ok u:=by
  intro u a;unfold Lib.parseMag;rw [if_neg (gq u)];have:=mO u [] a;rw [List.append_nil] at this;rw [this];rfl
 unfold Lib.itoa;by_cases hn:v<0
 rw [if_pos hn];unfold Lib.atoiAll;dsimp only;rw [if_pos (.inr rfl),hd _ om];dsimp only;rw [if_neg (fun e=>e.1 rfl),if_neg om,if_pos (show (45:UInt8).toNat=45 from rfl)];congr 1;omega;rw [if_neg hn];cases he:Lib.decDigits v.toNat with
 | nil=>exact absurd he (gq _)
 | cons c r=>
  have hc:=Vn v.toNat c (by rw [he];simp);unfold Lib.atoiAll;dsimp only;rw [if_neg om,<-he,hd _ om];dsimp only;rw [if_neg om,if_neg om,if_neg om];congr 1;omega
theorem Mf (h:yg v):jT (Lib.itoa v)=some v:=by
 unfold jT;rw [fO h];simp
theorem JQ (h:jT l=some v):Lib.itoa v=l/\yg v:=by
 unfold jT at h;split at h;rename_i u a;split at h;rename_i he;cases h;exact ⟨he,WK a⟩;cases h;cases h
def vF (l:List UInt8):Nat:=if l.head?.map (·.toNat)=some 45 then 1 else 0
theorem sJ (l:List UInt8):vF l<=l.length:=by
 unfold vF;cases l with
 | nil=>simp
 | cons a b=>split <;>simp
def wV (l:List UInt8) (i:Nat):Nat:=Ua ((l.take i).drop (vF l))
theorem Fz (l:List UInt8):wV l (vF l)=0:=by
 unfold wV;rw [List.drop_eq_nil_of_le (by rw [Yj];omega)];rfl
theorem MB (l:List UInt8) (i:Nat) (h1:vF l<=i) (h2:i<l.length):wV l (i+1)=wV l i*10+((l[i]'h2).toNat - 48):=by
 unfold wV;rw [Ym h2,List.drop_append_of_le_length (by rw [Yj];omega),NV]
theorem Qb (h:jT l=some v):(vF l=1/\v<0/\v=-(wV l l.length:Int)\/vF l=0/\0<=v/\v=(wV l l.length:Int))/\(∀i (hi:i<l.length),vF l<=i->48<=(l[i]'hi).toNat/\(l[i]'hi).toNat<=57/\wV l (i+1)<=wV l l.length):=by
 obtain ⟨he,hb⟩:=JQ h
 have a: ∀i,i<l.length->wV l (i+1)<=wV l l.length:=by
  intro i hi;unfold wV;rw [List.take_length];have:=pF (l.drop (vF l)) (i+1 - vF l);have b:vF l<=1:=by unfold vF;split <;>omega
  rw [List.take_drop,show vF l+(i+1 - vF l)=i+1 by omega] at this;exact this
 unfold Lib.itoa at he;by_cases hn:v<0
 rw [if_pos hn] at he;have hf:vF l=1:=by rw [<-he];rfl
 refine ⟨.inl ⟨hf,hn,?_⟩,fun i hi h1=>?_⟩;unfold wV;rw [List.take_length,hf,<-he,List.drop_one,List.tail_cons,Ro];omega
 have hm:l[i] ∈ Lib.decDigits v.natAbs:=by
  have:l[i] ∈ l.drop 1:=by
   rw [List.mem_iff_getElem];exact ⟨i - 1,by rw [List.length_drop];omega,by rw [List.getElem_drop];congr 1;omega⟩
  have hd:l.drop 1=Lib.decDigits v.natAbs:=by rw [<-he];rfl
  rw [hd] at this;exact this
 have:=Vn _ _ hm;exact ⟨this.1,this.2,a i hi⟩;rw [if_neg hn] at he
 have hf:vF l=0:=by
  unfold vF;rw [if_neg];cases hl:l with
  | nil=>simp
  | cons c r=>
   have:=Vn v.toNat c (by rw [he,hl];simp);simp;omega
 refine ⟨.inr ⟨hf,om,?_⟩,fun i hi h1=>?_⟩;unfold wV;rw [List.take_length,hf,List.drop_zero,<-he,Ro];omega;have hm:l[i] ∈ Lib.decDigits v.toNat:=by rw [he];exact List.getElem_mem hi
 have:=Vn _ _ hm;exact ⟨this.1,this.2,a i hi⟩
def Fa (w:World) (B g:Nat) (D:Dsk) (p:Pic) (e:Ending) (w':World):Prop:=
 ∃m:PV,e= .returned m.val/\m.pic=p/\OwnA w' B m.a m.n m.c m.ink/\(∀b,zO m.a=some b->b≠g/\ ¬D.blocks b)/\m.n<=1048576/\Below w w w'
set_option maxRecDepth 100000 in
theorem Ez (h:Nat) (lb:Array Value) (f:Pic->Pic) (w:World) (B g:Nat) (D:Dsk) (L:jJ w B g D) (eh: ∀args w,(callFunc h args).run prog w= .ok (.enter h args) w)
 (hc: ∀v,BelowL w v->Calls prog h (#[.agg #[D.M.W,D.M.H, .slice D.M.a D.M.n D.M.c]]++lb) v (Fa v B g D (f D.M.pic))):
 Calls prog 318 #[.func (.func h) #[] lb, .pointer ↑g] w (ku B g D (kY f) w):=by
 have o:=Jh L;have HC:=Jh hc;have KG:Blk w g 35 ↑D:=L.box;clear L hc;obtain ⟨m0,d0,d1,d2,d3,d4,d5,d6⟩:=KG.c7;go_in;go_wp2_with (go_at_fn h;refine (HC.Z _ (BelowL.mk bR)).mono ?_;rintro e w1 ⟨⟨z,y,C,F,O,R⟩,rfl,b0,Y,U,X,hb⟩;dsimp only [PV.val]);obtain ⟨T,A,J,G,b2⟩:=JI (zM hb (.cells #[z,y, .slice C F O] 32)) (Y.alloc (.cells #[z,y, .slice C F O] 32)) (Blk.new w1 32 #[z,y, .slice C F O]) U b0;have b3:=Jh hb.size;clear hb Y U b0 m0 d0 d1 d2 d3 d4 d5 d6;obtain ⟨l0,c0,c1,c2⟩:=J.Z.c3;refine (xX z y C F O R _ A.Z.len (by exact A.Z.rd) (by have h9:F<=1048576:=X;omega)).mono ?_;rintro e w2 ⟨rfl,hb⟩;obtain ⟨t,b1,b4⟩:=JF (zL T.Z hb) (A.Z.zA hb) (J.Z.zA hb);clear hb l0 c0 c1 c2 T A J;have E0:f D.dat.2.1=⟨z,y,R⟩:=b2.Z.symm;by_cases hp:yD z y R=true
 case neg=>
  have b5:yD z y R=false:=by simpa using hp
  have E:Hd (kY f D.dat=(D.dat,YI)):=Jh (by unfold kY;rw [E0,if_neg hp]);rw [b5]
  go_wp2
  go_ret;exact o.Z.stay t.Z (by rw [E.Z]) (by rw [E.Z];rfl)
 have E:Hd (kY f D.dat=((D.P.pic,⟨z,y,R⟩,zS D.ps),ZJ)):=Jh (by unfold kY;rw [E0,if_pos hp];rfl);rw [hp];have I:Blk w2 g 35 ↑D:=KG.zA t.Z;clear KG;obtain ⟨m0,d0,d1,d2,d3,d4,d5,d6⟩:=I.c7;obtain ⟨f0,f1,f2,f3,f4,f5,f6⟩:=I.f7;obtain ⟨l0,c0,c1,c2⟩:=b4.Z.c3;have q:=o.Z.base;have b6: ¬w1.heap.size=g:=by have:=o.Z.box.lt;have:=b3.Z;omega
 go_wp2
 go_ret;have Q: ∀ {u:World} {ad:Option Addr} {m k:Nat} {zs:List Int} (j:Nat) (x:Value),(∀b,zO ad=some b->b≠g)->OwnA u B ad m k zs->OwnA (u.setCell (g,j) x) B ad m k zs:=fun j x hx h=>h.zG (fun e=>hx _ e rfl) x;have gP: ∀b,zO D.P.a=some b->b≠g:=fun b hb=>o.Z.off b (.inl hb);have gQ: ∀b,zO C=some b->b≠g:=fun b hb=>(G.Z b hb).1
 have hs:OwnV (((w2.setCell (g,3) ↑z).setCell (g,4) ↑y).setCell (g,5) (.slice C F O)) B D.a D.n D.c D.ps:=by
  have hk:KeepT (fun i=>i=g) w2 (((w2.setCell (g,3) ↑z).setCell (g,4) ↑y).setCell (g,5) (.slice C F O)):=
   KeepT.set (S:=fun i=>i=g) (KeepT.set (S:=fun i=>i=g) (KeepT.set (S:=fun i=>i=g) (KeepT.refl _ w2) rfl _) rfl _) rfl _
  exact hk.ownV (o.Z.own.s.below t.Z) (fun i hi e=>o.Z.off i (.inr (.inr hi)) e)
 refine ⟨⟨D.P,⟨z,y,C,F,O,R⟩,D.a,D.n,D.c,D.ps⟩,?_,I.putM _ _ _,⟨?_,?_,hs,fun b hb e=>?_,o.Z.own.ps,fun b hb e=>?_⟩,fun b hb=>?_,?_,⟨o.Z.small.p,X,o.Z.small.n,o.Z.small.s⟩,?_⟩;rw [E.Z];rfl;exact Q 5 _ gP (Q 4 _ gP (Q 3 _ gP (o.Z.own.p.zA t.Z)));exact Q 5 _ gQ (Q 4 _ gQ (Q 3 _ gQ b1.Z));exact (G.Z b e).2 (.inl hb);exact (G.Z b e).2 (.inr (.inr hb));rcases hb with hb | hb | hb
 exact gP b hb;exact gQ b hb;exact o.Z.off b (.inr (.inr hb));rw [E.Z];rfl;exact (((t.Z.mono o.Z.size).setCell q _).setCell q _).setCell q _
def zBm (w:World) (xs:List Int) (e:Ending) (w':World):Prop:=
 ∃a n c,e= .returned (.slice a n c)/\OwnA w' w a n c xs/\n<=1048576/\Below w w w'
theorem Io (W H:Int) (ad:Option Addr) (n C:Nat) (xs:List Int) (x u:Int) (f:Option Addr) (b a:Nat) (ys:List Int) (w:World)
 (hn:xs.length=n) (ha:Rd w ad xs) (hl:n<=↑Zn) (R:ys.length=b) (O:Rd w f ys) (Q:b<=↑Zn):
 Calls prog 199 #[.agg #[W,H, .slice ad n C], .agg #[x,u, .slice f b a]] w (zBm w (Ur W H xs x u ys)):=by
 obtain ⟨L,U,c,E⟩:=JG hn ha R O;clear hn ha R O;by_cases hp:yD W H xs=true
 case neg=>
  have F:yD W H xs=false:=by simpa using hp
  rw [Gj (fun h=>hp h.1)];clear hp;go_in;go_wp2_with fail;refine (xX _ _ _ _ _ xs _ L.Z (by exact (U.Z.alloc _).alloc _) hl).mono ?_;rintro e w1 ⟨rfl,hb⟩;have j:=Jh (zL (zM (zM bR _) _) hb);have o:=Jh (((Blk.zD (g:=w.heap.size) 32 #[W,H, .slice ad n C] (by first | rfl | simp)).alloc _).zA hb);have q:Hd (Blk w1 (w.heap.size+1) 31 #[x,u, .slice f b a]):=Jh ((Blk.zD (g:=w.heap.size+1) 31 #[x,u, .slice f b a] sI).zA hb);obtain ⟨l1,c0,c1,c2⟩:=o.Z.c3;obtain ⟨m1,G,d1,d2⟩:=q.Z.c3;clear hb;rw [F]
  go_wp2
  go_ret;exact ⟨_,_,_,rfl,oN,om,j.Z⟩
 by_cases s:zT x u ys 255=true
 case neg=>
  have F:zT x u ys 255=false:=by simpa using s
  rw [Gj (fun h=>s h.2)];clear s;go_in;go_wp2_with fail;refine (xX _ _ _ _ _ xs _ L.Z (by exact (U.Z.alloc _).alloc _) hl).mono ?_;rintro e w1 ⟨rfl,hb⟩;have j:=Jh (zL (zM (zM bR _) _) hb);have o:=Jh (((Blk.zD (g:=w.heap.size) 32 #[W,H, .slice ad n C] (by first | rfl | simp)).alloc _).zA hb);have q:Hd (Blk w1 (w.heap.size+1) 31 #[x,u, .slice f b a]):=Jh ((Blk.zD (g:=w.heap.size+1) 31 #[x,u, .slice f b a] sI).zA hb);obtain ⟨l1,c0,c1,c2⟩:=o.Z.c3;obtain ⟨m1,G,d1,d2⟩:=q.Z.c3;clear hb;rw [hp];go_wp2_with fail;refine (xV _ _ _ _ _ ys _ c.Z (by exact E.Z.below j.Z) Q).mono ?_;rintro e w2 ⟨rfl,hb⟩;obtain ⟨y,z,A⟩:=JF (zL j.Z hb) (o.Z.zA hb) (q.Z.zA hb);clear c0 c1 c2 G d1 d2 hb;obtain ⟨l2,c0,c1,c2⟩:=z.Z.c3;obtain ⟨m2,G,d1,d2⟩:=A.Z.c3;rw [F]
  go_wp2
  go_ret;exact ⟨_,_,_,rfl,oN,om,y.Z⟩
 rw [Dn L.Z hp s];obtain ⟨t,T,hi,hd⟩:=jh L.Z hp;obtain ⟨b1,b2,b3,b4,b5,b6⟩:=kI t;obtain ⟨HQ,HI,HD,HS⟩:=JG T hi hd t;have e2:1<=n:=om;have b8:n<=256:=om;clear T hi t hd;obtain ⟨t,T,hi⟩:=yu c.Z s;obtain ⟨d4,d5,d6,d7,d8,e0⟩:=yP t;obtain ⟨c8,X,d3⟩:=JF T hi t;have c4:1<=b:=om;have c5:b<=1024:=om;clear T hi t;go_in;go_wp2_with fail;refine (xX _ _ _ _ _ xs _ L.Z (by exact (U.Z.alloc _).alloc _) hl).mono ?_;rintro e w1 ⟨rfl,hb⟩;have j:=Jh (zL (zM (zM bR _) _) hb);have o:=Jh (((Blk.zD (g:=w.heap.size) 32 #[W,H, .slice ad n C] (by first | rfl | simp)).alloc _).zA hb);have q:Hd (Blk w1 (w.heap.size+1) 31 #[x,u, .slice f b a]):=Jh ((Blk.zD (g:=w.heap.size+1) 31 #[x,u, .slice f b a] sI).zA hb);obtain ⟨l1,c0,c1,c2⟩:=o.Z.c3;obtain ⟨m1,G,d1,d2⟩:=q.Z.c3;clear hb;rw [hp];go_wp2_with fail;refine (xV _ _ _ _ _ ys _ c.Z (by exact E.Z.below j.Z) Q).mono ?_;rintro e w2 ⟨rfl,hb⟩;obtain ⟨y,z,A⟩:=JF (zL j.Z hb) (o.Z.zA hb) (q.Z.zA hb);clear c0 c1 c2 G d1 d2 hb;obtain ⟨l2,c0,c1,c2⟩:=z.Z.c3;obtain ⟨m2,G,d1,d2⟩:=A.Z.c3;rw [s];go_wp2_with (at_make;refine uE _ rfl _ _ rfl .i64 .i64 b b b rfl rfl rfl rfl om ?_;intro M hM);have HM:=Jh hM;clear hM
 go_loopw [23] (fun i wr=> ∃k:Nat,k<=b/\i=↑k/\Own wr w2 b b (zy (ys.map (jM n)) (List.replicate b 0) k)/\Below w2 w2 wr) (fun i _=>b - (intOf i).toNat)
 exact ⟨0,nZ,rfl,by rw [xB];exact HM.Z.own _,nJ⟩;obtain ⟨k,hk,rfl,I,D⟩:=hrel;obtain ⟨J,KP,KQ⟩:=JF (zL y.Z D) (z.Z.zA D) (A.Z.zA D);obtain ⟨l9,p0,p1,p2⟩:=KP.Z.c3;obtain ⟨m9,q0,q1,q2⟩:=KQ.Z.c3;by_cases b7:k<b
 . obtain ⟨ba,oa,b0,e1,P⟩:=(E.Z.below J.Z).at (oh c)
   have h1:=P k (oh c);subst b0;clear P;obtain ⟨v1,v2⟩:=jY X.Z k (oh c);have g2:wr.cell? (w2,k)=some ↑((zy (ys.map (jM n)) (List.replicate b 0) k).getD k 0):=I.cell b7;have g3:wr.frozen? (w2,k)=false:=I.frozen k;have t:=I.set k (jM n (ys[k]?.getD 0));rw [yx (ys.map (jM n)) _ k _ (oS c.Z) sO (LC _ _ _ (oh c))] at t;have Y:=Jh t;clear t I;go_wp2_with fail;refine (BI n _ _ v1 v2 b8).mono ?_;rintro e w3 ⟨rfl,rfl⟩
   go_wp2
   go_roundw
   . exact ⟨k+1,om,by go_num,by simpa using Y.Z,D.setCell nI _⟩
   exact Jm
 go_wp2
 go_ret;obtain rfl:b=k:=om;rw [jC (ys.map (jM n)) _ b (oS c.Z) sI] at I;exact ⟨_,_,_,rfl,OwnA.mk I (og y.Z.size),om,J.Z⟩
end Go.Proofs.YtlenfgdjdianiaaGreatDoor
