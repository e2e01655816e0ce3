/- Facts on which this claim rests, 26. -/
import Derived.Test.YtlenfgdjdianiaaGreatDoorF25
set_option linter.all false
set_option maxHeartbeats 6400000
namespace Go.Proofs.YtlenfgdjdianiaaGreatDoor
open Go.RowKit Tq Go.Proofs.Tryz
variable {A B K W a b g n q sx x y : Int} {E : Prop} {N gb i k : Nat} {Q : Exit → Act → World → Prop} {key : Int → Int} {o : Oper} {ops : Array Oper} {v w : World}
def zEL (w wx:World) (A B d g:Int) (v7 v8:Value):Prop:=v7=↑d/\ ∃(gb:Nat) (sx:Int),v8= .pointer ↑gb/\w.heap.size<=gb/\Blk wx gb 176 #[sx,g]/\kF A B sx g/\-1000<=sx/\sx<=1000/\Below w w wx
theorem zMI {d:Int} (c:BelowL w v) (e:kF A B sx g) (f:-1000<=sx) (j:sx<=1000):zEL w (v.alloc (.cells #[sx,g] 176)) A B d g ↑d (.pointer ↑v):=
 ⟨rfl,v.heap.size,sx,rfl,c.le,Blk.new _ _ _,e,f,j,zJ c.Z _⟩
theorem zFt {d:Int} (c:BelowL w v) (hg:w.heap.size<=gb) (hk:Blk v gb 176 #[Z0,Z0]) (e:kF A B sx g) (f:-1000<=sx) (j:sx<=1000):zEL w ((v.setCell gb ↑sx).setCell (gb,1) ↑g) A B d g ↑d (.pointer ↑gb):=
 ⟨rfl,gb,sx,rfl,hg,by exact (hk.set 0 _).set 1 _,e,f,j,(c.Z.setCell (p:=↑gb) (by exact hg) _).setCell (p:=↑(gb,1)) (by exact hg) _⟩
theorem zLT {d p:Int} (L:Lat A B n g d a b p q) (hK:uZ A B x y K) (c:kF A B sx g):y % g*d+(x - (y - y % g)/g*sx) % d=K:=
 L.name_one (L.name_by c) hK
set_option maxRecDepth 100000 in
theorem zAr {d p:Int} (L:Lat A B n g d a b p q) (x y K:Int) (x1:-100000<=x) (x2:x<=100000) (y1:-100000<=y) (y2:y<=100000) (hK:uZ A B x y K) (w:World):
 Calls prog 225 #[.agg #[A,B],x,y] w fun e w'=>e= .returned ↑K/\Below w w w':=by
 have C:=Jh L;have HK:=Jh hK;have g1:=L.g1;have g2:=L.g2;have d1:=L.w1;have d2:=L.w2;clear L hK;go_in;go_wp2_with fail;refine (kT _ _ _).mono ?_;rw [qR C.Z];rintro e w1 ⟨rfl,hb⟩;have P:=Jh (zI nJ hb);have O:=Jh ((Blk.new w 96 #[A,B]).zA hb);clear hb;obtain ⟨z,c0,c1⟩:=O.Z.c2;go_wp2_with fail;refine (Vh _ _).mono ?_;rw [decide_eq_true (show -100000<=x/\x<=100000 from ⟨x1,x2⟩)];rintro e w2 ⟨rfl,rfl⟩;go_wp2_with fail;refine (Vh _ _).mono ?_;rw [decide_eq_true (show -100000<=y/\y<=100000 from ⟨y1,y2⟩)];rintro e w2 ⟨rfl,rfl⟩;clear z c0 c1;go_upto_region 3 with fail
 go_cut [7,8] (fun s7 s8 wx=>zEL w1 wx A B d g s7 s8)
 case first=>
  obtain ⟨z,c0,c1⟩:=O.Z.c2;have l:Hd (∀v,BelowL w1 v->Jc v w A/\Jc v (w,1) B/\BelowL w1 v):=Jh (fun v h=>⟨(h.Z.cell z).trans c0,(h.Z.cell z).trans c1,h⟩);refine wp_region_held_drew (S:=fun v=>Jc v w A/\Jc v (w,1) B/\BelowL w1 v) zK (l.Z _ lS) ?_;intro c;have D:=uo c;refine zO 0 ?_;refine zO 2 ?_;refine wpAnyH_ready (rs:=[1,4]) zK sI ?_;refine AllReadyH.cons rfl (fun K hK=>?_) (AllReadyH.cons rfl (fun K hK=>?_) AllReadyH.nil)
  . skip
    go_simp
    go_at_call 184
    ((with_reducible refine (jm C.Z _).mono ?_);rintro e J ⟨rfl,t⟩);have j:=BelowL.call D t;go_wp2_with fail;refine hK.out _ _ (Jd (l.Z _ j)) (fun c=>?_);clear hK K;refine wpAnyH_ready (rs:=[3,4]) zK sI ?_;refine AllReadyH.cons rfl (fun K hK=>?_) (AllReadyH.cons rfl (fun K hK=>?_) AllReadyH.nil)
    . skip
      go_simp
      go_at_call 265
      ((with_reducible refine (Zn C.Z _).mono ?_);rintro e v2 ⟨sx,rfl,u,H,I,m⟩);have f:=BelowL.call j m;go_wp2_with fail;refine hK.out _ _ (Jd (l.Z _ f)) (fun c=>?_);clear hK K;refine zy 4 (fun K hK=>?_);go_simp;refine hK.out _ _ (Jd (l.Z _ (BelowL.alloc f _))) (fun c=>?_);clear hK K;refine zy 5 (fun K hK=>?_);go_simp;refine hK.out _ _ (Jd (l.Z _ (BelowL.alloc f _))) (fun c=>?_);clear hK K;refine zy 6 (fun K hK=>?_);go_simp;refine hK.out _ _ (Jd (l.Z _ (BelowL.alloc f _))) (fun c=>?_);clear hK K;refine wpAnyH_done zK ?_ _;(try go_simp);go_wp2_with fail;go_meet;exact zMI f u H I
    skip
    go_simp;refine hK.out _ _ (Jd (l.Z _ (BelowL.alloc j _))) (fun c=>?_);clear hK K;refine zy 3 (fun K hK=>?_);go_simp
    go_at_call 265
    ((with_reducible refine (Zn C.Z _).mono ?_);rintro e v2 ⟨sx,rfl,u,H,I,m⟩);have f:=BelowL.call (BelowL.alloc j _) m;go_wp2_with fail;refine hK.out _ _ (Jd (l.Z _ f)) (fun c=>?_);clear hK K;have s:=(Blk.new J 176 #[Z0,Z0]).zA m;obtain ⟨kl,k0,k1⟩:=s.c2;have f0:=s.frozen 0;have f1:=s.frozen 1;refine zy 5 (fun K hK=>?_);go_simp;refine hK.out _ _ (Jd (l.Z _ f)) (fun c=>?_);clear hK K;refine zy 6 (fun K hK=>?_);go_simp;refine hK.out _ _ (by (try dsimp only);exact l.Z _ (BelowL.set (BelowL.set f (a:=↑J) (by exact j.le) _) (a:=↑(J,1)) (by exact j.le) _)) (fun c=>?_);clear hK K;refine wpAnyH_done zK ?_ _;(try go_simp);go_wp2_with fail;go_meet;exact zFt f j.le s u H I
  skip
  go_simp;refine hK.out _ _ (Jd (l.Z _ (BelowL.alloc D _))) (fun c=>?_);clear hK K;refine zy 1 (fun K hK=>?_);go_simp
  go_at_call 184
  ((with_reducible refine (jm C.Z _).mono ?_);rintro e J ⟨rfl,t⟩);have j:=BelowL.call (BelowL.alloc D _) t;go_wp2_with fail;refine hK.out _ _ (Jd (l.Z _ j)) (fun c=>?_);clear hK K;refine zy 3 (fun K hK=>?_);go_simp
  go_at_call 265
  ((with_reducible refine (Zn C.Z _).mono ?_);rintro e v2 ⟨sx,rfl,u,H,I,m⟩);have f:=BelowL.call j m;go_wp2_with fail;refine hK.out _ _ (Jd (l.Z _ f)) (fun c=>?_);clear hK K;have s:=((Blk.new w1 176 #[Z0,Z0]).drew.zA t).zA m;obtain ⟨kl,k0,k1⟩:=s.c2;have f0:=s.frozen 0;have f1:=s.frozen 1;refine zy 5 (fun K hK=>?_);go_simp;refine hK.out _ _ (Jd (l.Z _ f)) (fun c=>?_);clear hK K;refine zy 6 (fun K hK=>?_);go_simp;refine hK.out _ _ (by (try dsimp only);exact l.Z _ (BelowL.set (BelowL.set f (a:=↑w1) (by exact nI) _) (a:=↑(w1,1)) (by exact nI) _)) (fun c=>?_);clear hK K;refine wpAnyH_done zK ?_ _;(try go_simp);go_wp2_with fail;go_meet;exact zFt f nI s u H I
 obtain ⟨rfl,gb,sx,rfl,hg,s,u,H,I,hb⟩:=hcut;have X:=Jh (zI P.Z hb);have HS:=Jh u;have M:=Jh (zLT C.Z HK.Z u);obtain ⟨kl,k0,k1⟩:=s.c2;clear s u hb;have v0:=Yg y (show g≠0 by omega);have J:=Ye y (show 0<g by omega);obtain ⟨V,hV⟩: ∃V,y % g=V:=⟨_,rfl⟩
 rw [hV] at v0 J M
 have F:g*((y - V)/g)=y - V:=by
  have h:=Int.mul_ediv_add_emod y g;have e1:y - V=g*(y/g):=om;rw [e1,Int.mul_ediv_cancel_left _ om]
 obtain ⟨T,hT⟩: ∃T,(y - V)/g=T:=⟨_,rfl⟩
 rw [hT] at F M
 have tb:-100012<=T/\T<=100000:=by
  have:g*1<=g*12:=om;constructor;by_cases h:-100012<=T
  exact h;exfalso;have:g*T<=1*T:=Int.mul_le_mul_of_nonpos_right om om;omega;by_cases h:T<=100000
  exact h;exfalso;have:1*T<=g*T:=Yo om om;omega
 obtain ⟨b0,b1⟩:=tb;have tt:(y - V).tdiv g=T:=by rw [<-F];exact Int.mul_tdiv_cancel_left _ om
 have m1:-100012000<=T*sx/\T*sx<=100012000:=by
  have q1:T*sx<=100012*1000/\-(100012*1000)<=T*sx:=by
   rcases Int.le_total 0 sx with h | h
   have i1:T*sx<=100012*sx:=Yo om h;have i2:-100012*sx<=T*sx:=Yo om h;omega;have i1:100012*sx<=T*sx:=Int.mul_le_mul_of_nonpos_right om h;have i2:T*sx<=-100012*sx:=Int.mul_le_mul_of_nonpos_right om h;omega
  omega
 obtain ⟨m2,m3⟩:=m1;have u0:=Yg (x - T*sx) (show d≠0 by omega);have u1:=Ye (x - T*sx) (show 0<d by omega);obtain ⟨U,hU⟩: ∃U,(x - T*sx) % d=U:=⟨_,rfl⟩
 rw [hU] at u0 u1 M;have r1:0<=V*d:=Int.mul_nonneg v0 om;have r2:=Yr (show V<=12 by omega) (show d<=288 by omega) om om;have z1: ¬g=0:=om;have z2:(g==0)=false:=sO;have HV:=Jh hV;have HU:=Jh hU;clear hV hU F hT;go_wp2_with fail;refine (zJH _ _ _ om om).mono ?_;rw [HV.Z];rintro e w3 ⟨rfl,rfl⟩;go_wp2_with fail;refine (zJH _ _ _ om om).mono ?_;rw [HU.Z];rintro e w3 ⟨rfl,rfl⟩;have Y:=Jh M;clear M;go_wp2_with fail;go_ret;exact ⟨yf Y.Z,X.Z⟩
def zED (A B W:Int) (n:Nat) (nm:Nat->Nat):Prop:= ∀i,i<n->uZ A B ((i:Int) % W) ((i:Int)/W) (nm i:Int)
theorem zNg {d p:Int} (L:Lat A B n g d a b p q) (W:Int) (m:Nat): ∃nm,zED A B W m nm:=by
 have h: ∀i:Nat,∃K:Nat,uZ A B ((i:Int) % W) ((i:Int)/W) (K:Int):=fun i=>by
  obtain ⟨K,hK⟩:=L.name_ex ((i:Int) % W) ((i:Int)/W);have c:=(L.isName.1 hK).1;exact ⟨K.toNat,by rw [show ((K.toNat:Nat):Int)=K by omega];exact hK⟩
 exact ⟨fun i=>Classical.choose (h i),fun i _=>Classical.choose_spec (h i)⟩
theorem zHg {n:Nat} (l:1≤W) (hn:n≤1024) (hi:i<n):0≤(i:Int) % W∧(i:Int) % W≤1024∧0≤(i:Int)/W∧(i:Int)/W≤1024∧(i:Int).tmod W=(i:Int) % W∧(i:Int).tdiv W=(i:Int)/W:=by
  have h1 := Yg (i : Int) (show W ≠ 0 by omega)
  have h2 : (i : Int) % W ≤ i := Int.emod_le_self
  have h3 := Int.ediv_le_self W (show 0 ≤ (i : Int) by omega)
  exact ⟨h1, om, Yw om om, om, Yl om, Yt om⟩
where
  Int.emod_le_self {i : Nat} {W : Int} : (i : Int) % W ≤ i := by
    by_cases h : W = 0
    · subst h; simp
    · have := Int.mul_ediv_add_emod (i : Int) W
      rcases Int.lt_or_gt_of_ne h with c | c
      · have e : (i : Int) % W = (i : Int) % (-W) := by rw [Int.emod_neg]
        rw [e]
        have h4 := Int.mul_ediv_add_emod (i : Int) (-W)
        have f : 0 ≤ (i : Int) / (-W) := Yw om om
        have j : 0 ≤ (-W) * ((i : Int) / (-W)) := Int.mul_nonneg om f
        omega
      · have f : 0 ≤ (i : Int) / W := Yw om om
        have j : 0 ≤ W * ((i : Int) / W) := Int.mul_nonneg om f
        omega
def va (A B d:Int) (N:Nat) (nm:Nat->Nat) (i:Nat):Int:=(yz (XS A B d) (nm i:Int) N:Int)
set_option maxRecDepth 100000 in
theorem zKk {d:Int} {p:Int} (L:Lat A B (N:Int) g d a b p q) (W H:Int) (n:Nat) (nm:Nat->Nat) (J:zED A B W n nm) (w1:1<=W) (w2:W<=1024) (h1:1<=H) (h2:H<=1024) (hq:(n:Int)=W*H) (hn:n<=1024) (w:World):
 Calls prog 186 #[.agg #[A,B],W,H] w fun e w'=> ∃nb:Nat,e= .returned (.slice ↑nb n n)/\w.heap.size<=nb/\Own w' nb n n (gen n (va A B d N nm))/\Below w w w':=by
 have n1:=L.n1;have n2:=L.n2;have N1:0<N:=om;have N2:N<=288:=om;have T:=Jh L;have HQ:=Jh hq;have X:Aside _:=J;have b4:0<=W*H:=om;have b5:W*H<=1024:=om;clear L hq J;go_in;go_wp2_with fail;refine (Vg T.Z _).mono ?_;rintro e c ⟨rb,rfl,b3,ho,hb⟩;have P:=Jh (zI nJ hb);have D:=Jh ((Blk.new w 96 #[A,B]).zA hb);have z:=Jh ho;clear b3 ho hb;go_wp2_with (at_make;refine jU _ rfl _ _ rfl .i64 .i64 (W*H) (W*H) n rfl rfl HQ.Z.symm HQ.Z.symm om ?_;intro M hM);have HM:=Jh (hM.own c);have u:=Jh (zJ P.Z (.cells M 3));have F:=Jh (D.Z.alloc (.cells M 3));have C:=Jh (z.Z.alloc (.cells M 3));have zr:rb<c.heap.size:=z.Z.lt;have zl:w.heap.size<c.heap.size:=D.Z.lt;clear hM;go_wp2_with fail
 go_loopw [18] (fun i wr=> ∃k:Nat,k<=n/\i=↑k/\Hd (Own wr c n n (zn (gen n (va A B d N nm)) (List.replicate n 0) k))/\Hd (Blk wr w 96 #[A,B])/\Hd (Own wr rb N N (Zi (XS A B d) N))/\Hd (Below w w wr)) (fun i _=>n - (intOf i).toNat)
 case atStart=>exact ⟨0,nZ,rfl,Jh (by rw [yh];exact HM.Z),F,C,u⟩
 clear HM F C u;obtain ⟨k,hk,rfl,s,KB,O,HB⟩:=hrel;by_cases m:k<n
 . obtain ⟨l0,c0,c1⟩:=KB.Z.c2
   obtain ⟨u1,u2,v1,v2,t1,t2⟩:=zHg (W:=W) w1 hn m;have l:=Jh (X.out k m);obtain ⟨U,hU⟩: ∃U,(k:Int) % W=U:=⟨_,rfl⟩
   obtain ⟨V,hV⟩: ∃V,(k:Int)/W=V:=⟨_,rfl⟩
   rw [hU] at u1 u2 t1 l;rw [hV] at v1 v2 t2 l;obtain ⟨t,ht⟩: ∃t,nm k=t:=⟨_,rfl⟩
   rw [ht] at l;have tN:t<N:=by have:=(T.Z.isName.1 l.Z).2.1;omega
   have b6:(t:Int)<(N:Int):=om;obtain ⟨R,hR⟩: ∃R,va A B d N nm k=R:=⟨_,rfl⟩
   have cr:=jE O.Z tN;have I:((yz (XS A B d) (t:Int) N:Nat):Int)=R:=by rw [<-hR,<-ht];rfl
   rw [I] at cr;have g2:=s.Z.cell m;have g3:=s.Z.frozen k;have kn:(k:Int)<(n:Int):=om;have t3:IntKind.i64.wrap U=U:=Yc _ om;have t4:IntKind.i64.wrap V=V:=Yc _ om;have z1: ¬W=0:=om;have z2:(W==0)=false:=sO;have b0:=Jh hR;clear hU hV ht hR I;go_upto_region 6 with fail;have MK:Hd (∀v,BelowL wr v->Jc v w A/\Jc v (w,1) B/\v.cell? ⟨rb,t,none⟩=some (.int .i64 R)/\BelowL wr v):=Jh (fun v h=>⟨(h.Z.cell l0).trans c0,(h.Z.cell l0).trans c1,(h.Z.cell O.Z.lt).trans cr,h⟩);refine zh 14 MK zK (MK.Z _ lS) ?_;intro f;have b1:=wK f;refine zM 0 ?_;refine zM 1 ?_;refine zM 2 ?_;refine zM 3 ?_;refine zM 4 ?_;refine zM 5 ?_;refine zM 6 ?_;refine zM 7 ?_;refine zM 8 ?_;refine zM 9 ?_;refine zW 10 (fun K hK=>?_);go_simp
   go_at_call 225
   ((with_reducible refine (zAr T.Z U V _ om om om om l.Z _).mono ?_);rintro e v1 ⟨rfl,b2⟩);have j:=BelowL.call b1 b2;go_wp2_with fail;refine hK.out _ _ (fun _=>Jd (MK.Z _ j)) (fun hH2=>?_);clear hK K f;have f:=hH2 dC;refine zM 11 ?_;refine zM 12 ?_;refine zM 13 ?_;have g2:=(j.Z.cell (p:=↑(c,k)) s.Z.lt).trans g2;have g3:=(j.Z.frozen (p:=↑(c,k)) s.Z.lt).trans g3;refine zW 14 (fun K hK=>?_);go_simp
   have Y:Hd (Own (v1.setCell (c,k) (.int .i64 R)) c n n (zn (gen n (va A B d N nm)) (List.replicate n 0) (k+1))):=Jh (by
    have h:=(s.Z.below j.Z s.Z.lt).set k R
    rwa [yd (gen n (va A B d N nm)) _ k _ (by rw [zZ];exact m) sO (by rw [yN _ _ _ m];exact b0.Z)] at h)
   refine hK.out _ _ (fun h=>absurd h dC) (fun hH2=>?_);clear hK K hH2;refine zx zK ?_ _;(try go_simp);go_wp2_with fail;go_roundw
   case rel=>exact ⟨k+1,om,by go_num,Y,Jh ((KB.Z.below j.Z KB.Z.lt).other sO _),Jh ((O.Z.below j.Z O.Z.lt).other sO _),Jh ((zI HB.Z j.Z).setCell sO _)⟩
   exact Jm
 obtain rfl:k=n:=om;have HE:Hd (Own wr c k k (gen k (va A B d N nm))):=Jh (by have h:=s.Z;have e:=Zx (gen k (va A B d N nm)) (List.replicate k 0) (by simp [zZ]);rw [zZ] at e;rwa [e] at h);go_wp2_with fail;go_ret;exact ⟨_,rfl,om,HE.Z,HB.Z⟩
def JR (A B d:Int) (N:Nat) (nm:Nat->Nat) (i:Int):Int:=va A B d N nm i.toNat
theorem zFI {d:Int} (h:yi d d=true):1<=d/\d<=256/\d*d<=256:=by
 simp only [yi,decide_eq_true_eq] at h;exact ⟨h.1,h.2.1,h.2.2.2.2⟩
set_option maxRecDepth 100000 in
theorem VF {d:Int} {p:Int} (L:Lat A B (N:Int) g d a b p q) (n:Nat) (nm:Nat->Nat) (D:zED A B d n nm) (hs:yi d d=true) (hq:(n:Int)=d*d) (w:World):
 Calls prog 137 #[.agg #[A,B]] w (kP w (⟨d,d,Zi (JR A B d N nm) n⟩,true)):=by
 obtain ⟨b1,b2,b3⟩:=zFI hs;have b7:n<=256:=om;have b5:1*1<=d*d:=Yr b1 b1 om om;have b6:1<=n:=om;have O:=Jh L;have HQ:=Jh hq;have HS:=Jh hs;have P:Aside _:=D;clear L hq hs D b3 b5;go_in;go_wp2_with fail;refine (jm O.Z _).mono ?_;rintro e w1 ⟨rfl,hb⟩;have F:=Jh (zI nV hb);have m:=Jh (((Blk.new w 96 #[A,B]).alloc (.cells ↑Zp 32)).zA hb);have V:=Jh ((Blk.zD (g:=w.heap.size+1) (w:=w.alloc (.cells #[A,B] 96)) 32 ↑Zp sI).zA hb);obtain ⟨z,c0,c1⟩:=m.Z.c2;clear hb;go_wp2_with fail;refine (kT _ _ _).mono ?_;rw [qR O.Z];rintro e w2 ⟨rfl,hb⟩;have G:=Jh (zI F.Z hb);have U:=Jh (m.Z.zA hb);have X:=Jh (V.Z.zA hb);clear hb z c0 c1;go_wp2_with fail;refine (Ka _ _ _ HS.Z).mono ?_;rintro e w2 ⟨rfl,rfl⟩;obtain ⟨z,c0,c1⟩:=U.Z.c2;go_wp2_with fail;refine (zKk O.Z d d n nm P.out b1 om b1 om HQ.Z om _).mono ?_;rintro e w3 ⟨rb,rfl,b4,j,hb⟩;have H:=Jh (zI G.Z hb);have Y:=Jh (X.Z.zA hb);have l:=Jh j;clear hb z c0 c1 b4 j;have EG:Hd (∀args w,(callFunc 189 args).run prog w= .ok (.enter 189 args) w):=Jh (kQ _ _ _ func189 zK rfl);have OR:Hd (∀v,Below w3 w3 v-> ∀i k:Nat,i<n->k<n->Calls prog 189 (#[.int .i64 (va A B d N nm i), .int .i64 (va A B d N nm k)]++#[]) v fun e v'=> ∃c:Int,e= .returned ↑c/\(c<0↔JR A B d N nm (i:Int)<JR A B d N nm (k:Int))/\Below v.heap.size v v'):=Jh (fun v hv i k hi hk=>(zQT (va A B d N nm i) (va A B d N nm k) v).mono (fun e v' ⟨c,h1,h2,h3⟩=>⟨c,h1,h2,by subst h3;exact bR⟩));have CI:Hd (∀t,t<n->w3.cell? ⟨rb,t,none⟩=some (.int .i64 (va A B d N nm t))):=Jh (fun t ht=>jE l.Z ht);have ZI:=Jh l.Z.lt;go_wp2_with fail;refine (zQi 189 #[] rb n (va A B d N nm) (JR A B d N nm) _ EG.Z om b6 CI.Z ZI.Z OR.Z).mono ?_;rintro e w5 ⟨f,blk,rfl,b0,j,hg,hb⟩;have I:=Jh (zI H.Z hb);have s:=Jh (Y.Z.zA hb);have R:=Jh j;have M:=Jh hg;clear b0 j hg hb;go_wp2_with fail;refine (zDU (JR A B d N nm) f blk n _ R.Z M.Z om).mono ?_;rintro e w6 ⟨nb,rfl,C,j,hb⟩;have J:=Jh (zI I.Z hb);have u:=Jh (s.Z.zA hb);have T:=Jh j;have l5:w.heap.size+1<nb:=Yb s.Z.lt C;clear C j hb;obtain ⟨r0,r1,r2,r3⟩:=u.Z.c3;obtain ⟨q0,q1,q2⟩:=u.Z.f3;go_wp2_with fail
 exact bodyPost_ret (v:= .tuple #[.agg #[d,d, .slice ↑nb n n], .bool true]) (by simp [results,results137,go_sem,r1,r2,r3]) rfl
  ⟨_,_,_,rfl,OwnA.mk (((T.Z.other sO _).other sO _).other sO _) om,om,
   ((J.Z.setCell sD _).setCell sD _).setCell sD _⟩
theorem VC (h:uP A B=false) (w:World):
 Calls prog 137 #[.agg #[A,B]] w (kP w (vQ,false)):=by
 have s:=Jh h;clear h;go_in;go_wp2_with fail;refine (Qk s.Z _).mono ?_;rintro e w1 ⟨rfl,hb⟩;have f:=Jh (zI nV hb);have l:=Jh (((Blk.new w 96 #[A,B]).alloc (.cells ↑Zp 32)).zA hb);have m:=Jh ((Blk.zD (g:=w.heap.size+1) (w:=w.alloc (.cells #[A,B] 96)) 32 ↑Zp sI).zA hb);obtain ⟨z,c0,c1⟩:=l.Z.c2;clear hb;go_wp2_with fail;refine (kT _ _ _).mono ?_;rw [s.Z];rintro e w2 ⟨rfl,hb⟩;have j:=Jh (zI f.Z hb);have c:=Jh (m.Z.zA hb);clear hb z c0 c1;obtain ⟨H,t,u,C⟩:=c.Z.c3;obtain ⟨D,F,G⟩:=c.Z.f3;go_wp2_with fail
 exact bodyPost_ret (v:= .tuple #[.agg ↑Zp, .bool false]) (by simp [results,results137,go_sem,t,u,C]) rfl ⟨none,0,0,rfl,oN,om,
  ((j.Z.setCell sD _).setCell sD _).setCell sD _⟩
theorem VE {d:Int} {p:Int} (L:Lat A B (N:Int) g d a b p q) (t: ¬yi d d=true) (w:World):
 Calls prog 137 #[.agg #[A,B]] w (kP w (vQ,false)):=by
 have s:=Jh L;have u:=Jh t;clear L t;go_in;go_wp2_with fail;refine (jm s.Z _).mono ?_;rintro e w1 ⟨rfl,hb⟩;have f:=Jh (zI nV hb);have l:=Jh (((Blk.new w 96 #[A,B]).alloc (.cells ↑Zp 32)).zA hb);have m:=Jh ((Blk.zD (g:=w.heap.size+1) (w:=w.alloc (.cells #[A,B] 96)) 32 ↑Zp sI).zA hb);obtain ⟨z,c0,c1⟩:=l.Z.c2;clear hb;go_wp2_with fail;refine (kT _ _ _).mono ?_;rw [qR s.Z];rintro e w2 ⟨rfl,hb⟩;have j:=Jh (zI f.Z hb);have c:=Jh (m.Z.zA hb);clear hb z c0 c1;go_wp2_with fail;refine (JI _ _ _ u.Z).mono ?_;rintro e w2 ⟨rfl,rfl⟩;obtain ⟨J,C,D,F⟩:=c.Z.c3;obtain ⟨G,H,I⟩:=c.Z.f3;go_wp2_with fail
 exact bodyPost_ret (v:= .tuple #[.agg ↑Zp, .bool false]) (by simp [results,results137,go_sem,C,D,F]) rfl ⟨none,0,0,rfl,oN,om,
  ((j.Z.setCell sD _).setCell sD _).setCell sD _⟩
def YX (A B d:Int) (i:Int):Int:=ke A B (i % d) (i/d)
theorem Qz (w:World):Own (w.alloc (.cells #[] 3)) w 0 0 []:=
 ⟨rfl,#[],heap_alloc_new w _,nI,nZ,rfl,rfl⟩
theorem zDS (h:key (k:Int)<key (i:Int)\/(key (k:Int)=key (i:Int)/\k<i)):yz key (i:Int) (k+1)=yz key (i:Int) k+1:=by
 have:RLb key (k:Int) (i:Int)=true:=qt.2 (by unfold RL;omega);rw [yz,if_pos this]
theorem zFU (h: ¬(key (k:Int)<key (i:Int)\/(key (k:Int)=key (i:Int)/\k<i))):yz key (i:Int) (k+1)=yz key (i:Int) k:=by
 have: ¬RLb key (k:Int) (i:Int)=true:=fun e=>h (by have:=qt.1 e;unfold RL at this;omega);rw [yz,if_neg this,Yy]
set_option maxRecDepth 100000 in
theorem VA (key:Int->Int) (ad:Option Addr) (n T:Nat) (w:World) (ha:Rd w ad (gen n (fun k=>key (k:Int)))) (hn:n<=100000):
 Calls prog 107 #[.slice ad n T] w fun e w'=> ∃(a3:Option Addr) (c3:Nat),e= .returned (.slice a3 n c3)/\OwnA w' w a3 n c3 (gen n (fun i=>(yz key (i:Int) n:Int)))/\Below w w w':=by
 have HA:=Jh ha;clear ha;go_in;go_wp2_with fail
 go_loopw [3,12] (fun s i wr=> ∃(k:Nat) (a3:Option Addr) (c3:Nat),k<=n/\i=↑k/\s= .slice a3 k c3/\OwnA wr w a3 k c3 (gen k (fun i=>(yz key (i:Int) n:Int)))/\Below w w wr) (fun _ i _=>n - (intOf i).toNat)
 case atStart=>exact ⟨0,_,0,nZ,rfl,rfl,OwnA.mk (Qz _) nI,nJ⟩
 obtain ⟨k,a3,c3,hk,rfl,rfl,ho,G⟩:=hrel;have L:=Jh ho;have u:=Jh G;clear ho G;by_cases F:k<n
 . obtain ⟨ba,oa,V,b0,m⟩:=(HA.Z.below u.Z).at (by rw [zZ];omega)
   subst V;have J:=Jh m;have h1:=m k (by rw [zZ];exact F);rw [yN _ _ _ F] at h1;obtain ⟨y,Y⟩: ∃y,key (k:Int)=y:=⟨_,rfl⟩
   rw [Y] at h1;have I:=Jh Y;clear m Y;go_wp2_with fail
   go_loop [6,19] (fun c i=> ∃j:Nat,j<=n/\i=↑j/\c=↑(yz key (k:Int) j:Nat)) (fun _ i=>n - (intOf i).toNat)
   case atStart=>exact ⟨0,nZ,rfl,rfl⟩
   obtain ⟨j,hj,rfl,rfl⟩:=hrel;have pl:=zDQ key (k:Int) j;obtain ⟨P,U⟩: ∃P:Nat,yz key (k:Int) j=P:=⟨_,rfl⟩
   rw [U] at pl⊢;have z:=Jh U;clear U;by_cases f:j<n
   . have h2:=J.Z j (by rw [zZ];exact f)
     rw [yN _ _ _ f] at h2;obtain ⟨x,X⟩: ∃x,key (j:Int)=x:=⟨_,rfl⟩
     rw [X] at h2;have H:=Jh X;clear X;by_cases q1:x<y
     . have l:=Jh (zDS (key:=key) (i:=k) (k:=j) (Or.inl (by rw [H.Z,I.Z];exact q1)))
       go_wp2_with fail;go_round
       case rel=>exact ⟨j+1,om,by go_num,by rw [l.Z,z.Z];go_num⟩
       exact Jm
     by_cases q2:x=y
     . subst q2
       have q3:(x==x)=true:=sI;by_cases q4:j<k
       . have l:=Jh (zDS (key:=key) (i:=k) (k:=j) (Or.inr ⟨by rw [H.Z,I.Z],q4⟩))
         go_wp2_with fail;go_round
         case rel=>exact ⟨j+1,om,by go_num,by rw [l.Z,z.Z];go_num⟩
         exact Jm
       have l:=Jh (zFU (key:=key) (i:=k) (k:=j) (by rw [H.Z,I.Z];omega));go_wp2_with fail;go_round
       case rel=>exact ⟨j+1,om,by go_num,by rw [l.Z,z.Z]⟩
       exact Jm
     have q3:(x==y)=false:=by simpa using q2
     have l:=Jh (zFU (key:=key) (i:=k) (k:=j) (by rw [H.Z,I.Z];omega));go_wp2_with fail;go_round
     case rel=>exact ⟨j+1,om,by go_num,by rw [l.Z,z.Z]⟩
     exact Jm
   obtain rfl:j=n:=om;go_wp2_with (at_builtin;refine vH _ rfl (.tmp 40) (.tmp 42) rfl w k c3 a3 _ rfl (L.Z.alloc _) wr.heap.size (P:Int) rfl (by go_simp) om (oS u.Z.size) ?_;intro R C w5 t D);have O:=Jh (((u.Z.alloc u.Z.size _)).grown D (oS u.Z.size) (fun b hb=>by have:=L.Z.bd b hb;omega));rw [<-z.Z,jG] at t;have M:=Jh t;clear t D;go_roundw
   case rel=>exact ⟨k+1,R,C,om,by go_num,rfl,M.Z,O.Z⟩
   exact Jm
 go_wp2_with fail;go_ret;obtain rfl:n=k:=om;exact ⟨_,_,rfl,L.Z,u.Z⟩
set_option maxRecDepth 100000 in
theorem UL {d:Int} {p:Int} (L:Lat A B (N:Int) g d a b p q) (w:World):
 Calls prog 105 #[.agg #[A,B]] w fun e w'=> ∃(a3:Option Addr) (c3:Nat),e= .returned (.slice a3 N c3)/\OwnA w' w a3 N c3 (gen N (fun i=>(yz (YX A B d) (i:Int) N:Int)))/\Below w w w':=by
 have n1:=L.n1;have n2:=L.n2;have N1:0<N:=om;have N2:N<=288:=om;have I:=Jh L;clear L;go_in;go_wp2_with fail;refine (qI _ _ _).mono ?_;rw [qR I.Z];rintro e w1 ⟨rfl,hb⟩;have G:=Jh (zI nJ hb);have T:=Jh ((Blk.new w 96 #[A,B]).zA hb);clear hb;go_wp2_with fail
 go_loopw [3,4] (fun s i wr=> ∃(k:Nat) (a3:Option Addr) (c3:Nat),k<=N/\i=↑k/\s= .slice a3 k c3/\OwnA wr w1 a3 k c3 (gen k (fun i=>YX A B d (i:Int)))/\Below w1 w1 wr) (fun _ i _=>N - (intOf i).toNat)
 case atStart=>exact ⟨0,_,0,nZ,rfl,rfl,OwnA.mk (Qz _) nI,nJ⟩
 obtain ⟨k,a3,c3,hk,rfl,rfl,F,j⟩:=hrel;have HO:=Jh F;have HW:=Jh j;have U:=Jh (T.Z.zA j);clear F j;obtain ⟨z,c0,c1⟩:=U.Z.c2;go_wp2_with fail;refine (ZR I.Z _).mono ?_;rintro e w2 ⟨rfl,hb⟩;have u:=Jh (zI HW.Z hb);have t:=Jh (HO.Z.zA hb);have V:=Jh (U.Z.zA hb);clear hb z c0 c1 HW HO U;obtain ⟨z,c0,c1⟩:=V.Z.c2;by_cases b0:k<N
 . have kn:(k:Int)<(N:Int):=om
   obtain ⟨R,Y⟩: ∃R,YX A B d (k:Int)=R:=⟨_,rfl⟩
   have O:=Jh Y;have J:=Jh (show ke A B ((k:Int) % d) ((k:Int)/d)=R from Y);clear Y;go_wp2_with fail;refine (zHD I.Z (k:Int) R om om J.Z _).mono ?_;rintro e w3 ⟨rfl,hb⟩;have f:=Jh (zI u.Z hb);have c:=Jh (t.Z.zA hb);clear hb z c0 c1;go_wp2_with (at_builtin;refine vH _ rfl (.tmp 15) (.tmp 19) rfl w1 k c3 a3 _ rfl (c.Z.alloc _) w3.heap.size R rfl (by go_simp) om (oS f.Z.size) ?_;intro X C w5 l D);have P:=Jh (((f.Z.alloc f.Z.size _)).grown D (oS f.Z.size) (fun b hb=>by have:=c.Z.bd b hb;omega));rw [<-O.Z,jG k (fun i=>YX A B d (i:Int))] at l;have M:=Jh l;clear l D;go_roundw
   case rel=>exact ⟨k+1,X,C,om,by go_num,rfl,M.Z,P.Z⟩
   exact Jm
 obtain rfl:k=N:=om;have m:=Jh (zI G.Z u.Z);go_wp2_with fail;refine (VA (YX A B d) a3 k c3 _ (by exact t.Z.rd) om).mono ?_;rintro e w3 ⟨a4,c4,rfl,F,hb⟩;have H:=Jh (zI m.Z hb);have c:=Jh (F.mono m.Z.size);clear F hb;go_wp2_with fail;go_ret;exact ⟨_,_,rfl,c.Z,H.Z⟩
theorem zMH (w:World) {a:Act} {K:Act->World->Prop}
 (t:o.guard=none) (s x:Operand) (z:o.op= .call {callee:= .builtin .append,args:=#[s,x],argTypes:=#[22,22]})
 (B n f:Nat) (m:Option Addr) (xs:List Int) (L:a.eval s= .slice m n f) (J:OwnA w B m n f xs) (g:Nat) (v:Int) (M:a.eval x= .slice ↑g 1 1)
 (hc:w.cell? g=some ↑v) (hn:n<=1048576) (I:B<=w.heap.size)
 (hK: ∀e c w',OwnA w' B e (n+1) c (xs++ [v])->w.grownBy w' (zL m)->K (a.put o.dst (.slice e (n+1) c)) w'):
 if Region.wanted o (yielded ops a.tmps)=true then Oper.wp prog o a w K Q else E:=by
 have hw:Region.wanted o (yielded ops a.tmps)=true:=by simp [Region.wanted,t]
 rw [if_pos hw];obtain ⟨i,hi,C,D,F⟩:=info_parts qD;refine wp_append_own w s x 22 z B 3 i ↑Z0 1 8 underlying22 hi C D F rfl dC _ n (xs.map (Value.int .i64)) L J.toRow ↑g 1 1 [↑v] M rfl ?_ ?_ (by unfold maxLen;omega) om I ?_;intro j u l
 match j,l with
 | 0,l=>simp at l;subst l;simpa [Addr.add] using hc
 intro u G;simp at G;subst G;rfl;intro O w' h2 h3 _;have h4:w'.ownsRow B 3 1 O (n+1) ((xs++ [v]).map (Value.int .i64)):=by simpa using h2
 obtain ⟨e,c,rfl,H⟩:=OwnA.ofRow h4;rw [ud] at h3;exact hK e c w' H h3
set_option maxRecDepth 100000 in
theorem VI {d:Int} {p:Int} (L:Lat A B (N:Int) g d a b p q) (n:Nat) (nm:Nat->Nat) (b0:zED A B d n nm) (hs:yi d d=true) (hq:(n:Int)=d*d) (w:World):
 Calls prog 63 #[.agg #[A,B]] w (kP w (⟨d,d,Zi (JR A B d N nm) n⟩,true)):=by
 obtain ⟨b1,b2,b3⟩:=zFI hs;have n1:=L.n1;have n2:=L.n2;have N1:0<N:=om;have N2:N<=288:=om;have f0:n<=256:=om;have b5:1*1<=d*d:=Yr b1 b1 om om;have e8:1<=n:=om;have e6:0<=d*d:=om;have e7:d*d<=256:=b3;have F:=Jh L;have HQ:=Jh hq;have HS:=Jh hs;have d0:Aside _:=b0;clear L hq hs b0 b3 b5;go_in;go_wp2_with fail;refine (qI _ _ _).mono ?_;rw [qR F.Z];rintro e w1 ⟨rfl,hb⟩;have b6:=Jh (zI nV hb);have J:=Jh (((Blk.new w 96 #[A,B]).alloc (.cells ↑Zp 32)).zA hb);have d7:=Jh ((Blk.zD (g:=w.heap.size+1) (w:=w.alloc (.cells #[A,B] 96)) 32 ↑Zp sI).zA hb);obtain ⟨z,c0,c1⟩:=J.Z.c2;clear hb;go_wp2_with fail;refine (wO F.Z _).mono ?_;rintro e w2 ⟨rfl,hb⟩;have b7:=Jh (zI b6.Z hb);have M:=Jh (J.Z.zA hb);have d8:=Jh (d7.Z.zA hb);clear hb z c0 c1;go_wp2_with fail;refine (qr _ _ _ HS.Z).mono ?_;rintro e w2 ⟨rfl,rfl⟩;obtain ⟨z,c0,c1⟩:=M.Z.c2;go_wp2_with fail;refine (UL F.Z _).mono ?_;rintro e w3 ⟨a3,c3,rfl,ho,hb⟩
 obtain ⟨C,e5,rfl,b4⟩: ∃C,w2.heap.size<=C/\a3=some ⟨C,0,none⟩/\Own w3 C N c3 (gen N (fun i=>(yz (YX A B d) (i:Int) N:Int))):=by
  rcases ho with ⟨_,h0,_⟩ | ⟨C,h1,h2,h3⟩
  omega;exact ⟨C,h2,h1,h3⟩
 have b8:=Jh (zI b7.Z hb);have d6:=Jh (M.Z.zA hb);have e0:=Jh (d8.Z.zA hb);have I:=Jh b4;clear hb ho b4 e5 z c0 c1;go_wp2_with fail
 go_loopw [7,8] (fun s i wr=> ∃(k:Nat) (a4:Option Addr) (c4:Nat),k<=n/\i=↑k/\s= .slice a4 k c4/\OwnA wr w3 a4 k c4 (gen k (va A B d N nm))/\Below w3 w3 wr) (fun _ i _=>n - (intOf i).toNat)
 case atStart=>exact ⟨0,_,0,nZ,rfl,rfl,OwnA.mk (Qz _) nI,nJ⟩
 obtain ⟨k,a4,c4,hk,rfl,rfl,ho,j⟩:=hrel;have HO:=Jh ho;have HW:=Jh j;have KL:=Jh (d6.Z.zA j);have KP:=Jh (e0.Z.zA j);have HR:=Jh (I.Z.below j I.Z.lt);clear ho j;by_cases Y:k<n
 . obtain ⟨l0,c0,c1⟩:=KL.Z.c2
   have kn:(k:Int)<d*d:=by have:=HQ.Z;omega
   obtain ⟨u1,u2,v1,v2,t1,t2⟩:=zHg (W:=d) b1 om Y;have f:=Jh (d0.out k Y);obtain ⟨U,hU⟩: ∃U,(k:Int) % d=U:=⟨_,rfl⟩
   obtain ⟨V,hV⟩: ∃V,(k:Int)/d=V:=⟨_,rfl⟩
   rw [hU] at u1 u2 t1 f;rw [hV] at v1 v2 t2 f;obtain ⟨t,ht⟩: ∃t,nm k=t:=⟨_,rfl⟩
   rw [ht] at f;have tN:t<N:=by have:=(F.Z.isName.1 f.Z).2.1;omega
   have f1:(t:Int)<(N:Int):=om;obtain ⟨R,hR⟩: ∃R,va A B d N nm k=R:=⟨_,rfl⟩
   have cr:=jE HR.Z tN;have T:((yz (YX A B d) (t:Int) N:Nat):Int)=R:=by rw [<-hR,<-ht];rfl
   rw [T] at cr;have t3:IntKind.i64.wrap U=U:=Yc _ om;have t4:IntKind.i64.wrap V=V:=Yc _ om;have z1: ¬d=0:=om;have z2:(d==0)=false:=sO;have d3:=Jh hR;clear hU hV ht hR T;go_upto_region 11 with fail;have MK:Hd (∀v,BelowL wr v->Jc v w A/\Jc v (w,1) B/\v.cell? ⟨C,t,none⟩=some (.int .i64 R)/\BelowL wr v):=Jh (fun v h=>⟨(h.Z.cell l0).trans c0,(h.Z.cell l0).trans c1,(h.Z.cell HR.Z.lt).trans cr,h⟩);refine zh 13 MK zK (MK.Z _ lS) ?_;intro c;have e2:=wK c;refine zM 0 ?_;refine zM 1 ?_;refine zM 2 ?_;refine zM 3 ?_;refine zM 4 ?_;refine zM 5 ?_;refine zM 6 ?_;refine zM 7 ?_;refine zM 8 ?_;refine zW 9 (fun K hK=>?_);go_simp
   go_at_call 106
   ((with_reducible refine (zHC F.Z U V _ f.Z om om om om _).mono ?_);rintro e v1 ⟨rfl,e4⟩);have m:=BelowL.call e2 e4;go_wp2_with fail;refine hK.out _ _ (fun _=>Jd (MK.Z _ m)) (fun hH2=>?_);clear hK K c;have c:=hH2 dC;refine zM 10 ?_;refine zM 11 ?_;refine zW 12 (fun K hK=>?_);go_simp;have e3:=BelowL.alloc m (.cells #[.int .i64 R] 3);refine hK.out _ _ (fun _=>Jd (MK.Z _ e3)) (fun hH2=>?_);clear hK K;have H:=Jh (HO.Z.zA m.Z);have l:=Jh (zI HW.Z m.Z);refine zW 13 (fun K hK=>?_);refine zMH _ (by rfl) (.tmp 33) (.tmp 45) (by rfl) w3.heap.size k c4 a4 (gen k (va A B d N nm)) (by rfl) (H.Z.alloc _) v1.heap.size R (by rfl) (by first | go_simp | simp) om (oS l.Z.size) ?_;intro e1 P w5 u X;have d5:=Jh (((l.Z.alloc l.Z.size _)).grown X (oS l.Z.size) (fun b hb=>by have:=H.Z.bd b hb;omega));rw [<-d3.Z,jG] at u;have d1:=Jh u;clear u X;refine hK.out _ _ (fun h=>absurd h dC) (fun hH2=>?_);clear hK K;refine zW 14 (fun K hK=>?_);go_simp;refine hK.out _ _ (fun h=>absurd h dC) (fun hH2=>?_);clear hK K hH2;refine zx zK ?_ _;(try go_simp);go_wp2_with fail;go_roundw
   case rel=>exact ⟨k+1,e1,P,om,by go_num,rfl,d1.Z,d5.Z⟩
   exact Jm
 obtain rfl:k=n:=om;have kn: ¬(k:Int)<d*d:=by have:=HQ.Z;omega
 have D:=Jh (zI b8.Z HW.Z);go_wp2_with fail;refine (VA (JR A B d N nm) a4 k c4 _ (by exact HO.Z.rd) om).mono ?_;rintro e w6 ⟨a5,c5,rfl,ho,hb⟩;have c8:=Jh (zI D.Z hb);have O:=Jh (KP.Z.zA hb);have d2:=Jh ho;have l5:w.heap.size+1<wr.heap.size:=KP.Z.lt;have d4:=Jh D.Z.size;clear ho hb;obtain ⟨r0,r1,r2,r3⟩:=O.Z.c3;obtain ⟨q0,q1,q2⟩:=O.Z.f3;go_wp2_with fail
 exact bodyPost_ret (v:= .tuple #[.agg #[d,d, .slice a5 k c5], .bool true]) (by simp [results,results63,go_sem,r1,r2,r3]) rfl
  ⟨_,_,_,rfl,OwnA.mono (((d2.Z.other sO _).other sO _).other sO _) d4.Z,om,
   ((c8.Z.setCell sD _).setCell sD _).setCell sD _⟩
end Go.Proofs.YtlenfgdjdianiaaGreatDoor
