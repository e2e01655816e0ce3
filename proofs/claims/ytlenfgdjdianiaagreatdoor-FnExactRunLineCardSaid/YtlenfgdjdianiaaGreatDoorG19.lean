/- Facts on which this claim rests, 19. -/
import Derived.Test.YtlenfgdjdianiaaGreatDoorG18
set_option linter.all false
set_option maxHeartbeats 6400000
namespace Go.Proofs.YtlenfgdjdianiaaGreatDoor
open Go.RowKit Tq Go.Proofs.Tryz
variable {alt : Bool} {y : Int}
structure SSt (w:World) (B gv gd ge n c:Nat) (vs ds es:List Int):Prop where
 hv:B<=gv
 hd:B<=gd
 he:B<=ge
 n1:gv≠gd
 n2:gv≠ge
 n3:gd≠ge
 vals:Own w gv n c vs
 dots:Own w gd n n ds
 errs:Own w ge n n es
namespace SSt
variable {w w' : World} {B gv gd ge n c : Nat} {vs ds es : List Int}
theorem below (h:SSt w B gv gd ge n c vs ds es) (hb:Below w w w'):SSt w' B gv gd ge n c vs ds es:=
 ⟨h.hv,h.hd,h.he,h.n1,h.n2,h.n3,h.vals.below hb h.vals.lt,h.dots.below hb h.dots.lt,h.errs.below hb h.errs.lt⟩
theorem drewN (h:SSt w B gv gd ge n c vs ds es) (m:Nat):SSt (w.drewN m) B gv gd ge n c vs ds es:=
 ⟨h.hv,h.hd,h.he,h.n1,h.n2,h.n3,h.vals.drewN m,h.dots.drewN m,h.errs.drewN m⟩
theorem setVal (h:SSt w B gv gd ge n c vs ds es) (j:Nat) (v:Int):SSt (w.setCell (gv,j) ↑v) B gv gd ge n c (vs.set j v) ds es:=
 ⟨h.hv,h.hd,h.he,h.n1,h.n2,h.n3,h.vals.set j v,h.dots.other (by simp;exact h.n1) _,h.errs.other (by simp;exact h.n2) _⟩
theorem setDot (h:SSt w B gv gd ge n c vs ds es) (j:Nat) (v:Int):SSt (w.setCell (gd,j) ↑v) B gv gd ge n c vs (ds.set j v) es:=
 ⟨h.hv,h.hd,h.he,h.n1,h.n2,h.n3,h.vals.other (by simp;exact fun e=>h.n1 e.symm) _,h.dots.set j v,h.errs.other (by simp;exact h.n3) _⟩
theorem setErr (h:SSt w B gv gd ge n c vs ds es) (j:Nat) (v:Int):SSt (w.setCell (ge,j) ↑v) B gv gd ge n c vs ds (es.set j v):=
 ⟨h.hv,h.hd,h.he,h.n1,h.n2,h.n3,h.vals.other (by simp;exact fun e=>h.n2 e.symm) _,h.dots.other (by simp;exact fun e=>h.n3 e.symm) _,h.errs.set j v⟩
theorem trio (h:SSt w B gv gd ge n c vs ds es): ∀i,kE gv gd ge i->B<=i:=by
 have:=h.hv;have:=h.hd;have:=h.he;rintro i (rfl | rfl | rfl) <;>assumption
theorem trioLt (h:SSt w B gv gd ge n c vs ds es): ∀i,kE gv gd ge i->i<w.heap.size:=by
 have:=h.vals.lt;have:=h.dots.lt;have:=h.errs.lt;rintro i (rfl | rfl | rfl) <;>assumption
end SSt
def Pt (alt:Bool) (y:Int):Bool:=decide (alt=true/\y % 2=1)
theorem zAY (h:alt=true/\y % 2=1):Pt alt y=true:=decide_eq_true h
theorem Wx (h: ¬(alt=true/\y % 2=1)):Pt alt y=false:=decide_eq_false h
set_option maxRecDepth 100000 in
theorem dM (f1:Option Addr) (kn U:Nat) (W H:Int) (ad:Option Addr) (n o:Nat) (xs:List Int) (alt:Bool) (ks:List Prt) (w:World)
 (e6:ks.length=kn) (i6:Rd w f1 (flat ks)) (n2:kn<=U) (c0:kP ks=true) (hn:xs.length=n) (ha:Rd w ad xs) (hp:zT W H xs 255=true):
 Calls prog 100 #[.slice f1 kn U, .agg #[W,H, .slice ad n o], .bool alt] w fun e w'=> ∃gd ge,e= .returned (.tuple #[.slice (some ⟨gd,0,none⟩) n n, .slice (some ⟨ge,0,none⟩) n n,(yM alt ks W H xs n).lost])/\
  Own w' gd n n (yM alt ks W H xs n).dots/\Own w' ge n n (yM alt ks W H xs n).errs/\w.heap.size<=gd/\w.heap.size<=ge/\Below w w w':=by
 obtain ⟨f,d0,k0,z⟩:=JG e6 i6 c0 (jr.of (alt:=alt) hn c0 hp);obtain ⟨k1,k2,k3⟩:=XZ e6 c0;obtain ⟨HK,HN,HA⟩:=JF k3 hn ha;clear hn ha;obtain ⟨hs,hq,hi⟩:=yu HN.Z hp;obtain ⟨b1,b2,b3,b4,b5,b6⟩:=yP hs;obtain ⟨HQ,HI,HS⟩:=JF hq hi hs;have q7:1<=n:=om;have q8:n<=1024:=om;clear hq hi hs;clear e6 i6 c0 k3;obtain ⟨ba,oa,d7,n0,_⟩:=HA.Z.at (oh HN);subst d7;have j4:=Jh ((HA.Z.alloc (.cells #[W,H, .slice (some ↑(ba,oa)) n o] 31)).alloc (.cells #[] 3))
 have j7:Hd (RowA ((w.alloc (.cells #[W,H, .slice (some ↑(ba,oa)) n o] 31)).alloc (.cells #[] 3)) 3 1 (w.heap.size+1) ↑(w.heap.size+1) 0 0 []):=Jh (by
  have h:=Hq (w.alloc (.cells #[W,H, .slice (some ↑(ba,oa)) n o] 31)) 3 1;rw [show (w.alloc (.cells #[W,H, .slice (some ↑(ba,oa)) n o] 31)).heap.size=w.heap.size+1 by simp] at h
  exact RowA.mk h nI)
 go_in;go_upto_region 2 with (at_builtin;refine NZ _ rfl 22 3 1 8 ↑Z0 underlying22 PG rfl dC dC (.tmp 24) (.tmp 26) rfl (w.heap.size+1) 0 _ rfl j7.Z ba oa n o xs rfl (oh HN) (fun j hj=>by obtain ⟨b2,o2,h3,h4,h5⟩:=j4.Z.at (oh HN);cases h3;exact h5 j (oh HN)) om sI ?_;intro m5 s w5 i8 e0);obtain ⟨k4,d4,j5⟩:=JF i8.toOwn (((Blk.new w 31 #[W,H, .slice (some ↑(ba,oa)) n o]).alloc (.cells #[] 3)).grown e0 (by simp [zO])) ((zM (Joins.below_alloc1 w (.cells #[W,H, .slice (some ↑(ba,oa)) n o] 31)) (.cells #[] 3)).grown e0 sO (fun k hk=>by simp [zO] at hk;omega));clear i8 e0
 obtain ⟨gv,n1,h7,e8⟩: ∃g,m5=some ⟨g,0,none⟩/\w.heap.size+1<=g/\Own w5 g n s xs:=by
  rcases k4.Z with ⟨_,h,_,_⟩ | h
  omega;exact h
 subst n1;have m3:=Jh e8;have m7:=e8.lt;clear e8;go_upto_region 3 with (at_make;refine uE _ rfl _ _ rfl .i64 .i64 n n n rfl rfl rfl rfl om ?_;intro M1 h8);go_upto_region 4 with (at_make;refine uE _ rfl _ _ rfl .i64 .i64 n n n rfl rfl rfl rfl om ?_;intro M2 i0)
 have d3:Hd (SSt ((w5.alloc (.cells M1 3)).alloc (.cells M2 3)) (w.heap.size+1) gv w5 (w5.heap.size+1) n s xs (List.replicate n 0) (List.replicate n 0)):=Jh
  ⟨h7,by have:=d4.Z.lt;omega,by have:=d4.Z.lt;omega,om,om,om,(m3.Z.alloc _).alloc _,(h8.own w5).alloc _,i0.own' _ sI⟩
 have g5:=Jh ((d4.Z.alloc (.cells M1 3)).alloc (.cells M2 3));have c5:=Jh (zM (zM j5.Z (.cells M1 3)) (.cells M2 3));obtain ⟨w7,j0⟩:=zN ((w5.alloc (.cells M1 3)).alloc (.cells M2 3):World);rw [<-j0] at d3 g5 c5⊢;obtain ⟨gd,i4⟩: ∃gd,w5.heap.size=gd:=⟨_,rfl⟩
 obtain ⟨ge,i5⟩: ∃ge,w5.heap.size+1=ge:=⟨_,rfl⟩
 rw [i5,i4] at d3⊢;clear j0 i4 i5 h8 i0 h7 m7;go_wp2_with fail;refine (Nl _ _ _ ks _ f.Z (by exact d0.Z.below c5.Z) om n2).mono ?_;rw [Kw f.Z k0.Z];rintro e w8 ⟨rfl,hb⟩;obtain ⟨k7,d5,x⟩:=JF (d3.Z.below hb) (g5.Z.zA hb) (zL c5.Z hb);clear hb;obtain ⟨l0,o0,o1,o2⟩:=d5.Z.c3
 go_wp2
 go_loopw [13,38] (fun f2 i wr=> ∃(t:Nat) (ds es vs:List Int) (L:Int),t<=n/\i=↑t/\f2=↑L/\Hd (wU alt ks W H xs n t ds es vs L)/\Hd (SSt wr (w.heap.size+1) gv gd ge n s vs ds es)/\Hd (Keep (kE gv gd ge) w8 wr)) (fun _ i _=>n - (intOf i).toNat)
 exact ⟨0,_,_,_,_,nZ,rfl,rfl,Jh (wU.start z.Z),k7,Jh (Keep.refl _ _)⟩;obtain ⟨t,ds,es,vs,L,ht,rfl,rfl,A,b,I⟩:=hrel;have d6:=Jh (I.Z.blk d5.Z (fun h=>by have:=b.Z.trio _ h;omega));clear l0 o0 o1 o2;obtain ⟨l0,o0,o1,o2⟩:=d6.Z.c3;by_cases c1:t<n
 . have e1:0<=(t:Int) % W:=Yg _ om
   have e2:(t:Int) % W<W:=Ye _ om;have e3:0<=(t:Int)/W:=Yw om om;have e4:(t:Int)/W<=t:=Int.ediv_le_self _ om;have p7:(W==0)=false:=sO;have p8: ¬W=0:=om;go_upto_region 12 with fail
   go_cut [54] (fun p3 wx=>p3= .bool (Pt alt ((t:Int)/W))/\wx=wr)
   . cases alt
     case false=>
      go_wp2
      go_meet;exact ⟨by rw [Wx sI],rfl⟩
     by_cases hy:(t:Int)/W % 2=1
     . have n5:((t:Int)/W % 2==1)=true:=by simpa using hy
       have HY:=Jh hy;clear hy
       go_wp2
       go_meet;exact ⟨by rw [zAY ⟨rfl,HY.Z⟩],rfl⟩
     have n5:((t:Int)/W % 2==1)=false:=by simpa using hy
     have HY:=Jh hy;clear hy
     go_wp2
     go_meet;exact ⟨by rw [Wx (fun h=>HY.Z h.2)],rfl⟩
   obtain ⟨rfl,rfl⟩:=hcut
   go_upto_if 54 with (fail)
   go_cut [16,17] (fun n6 n7 wx=>n6=↑(xAt alt W t)/\n7=↑(qK alt ((t:Int)/W))/\wx=wc)
   . by_cases hr:Pt alt ((t:Int)/W)=true
     . have J:=Jh hr
       rw [hr];clear hr
       go_wp2
       go_meet;exact ⟨by unfold xAt;rw [if_pos (of_decide_eq_true J.Z)],by unfold qK;rw [if_pos (of_decide_eq_true J.Z)],rfl⟩
     have e7:Pt alt ((t:Int)/W)=false:=by simpa using hr
     have J:=Jh e7;rw [e7];clear hr e7
     go_wp2
     go_meet;exact ⟨by unfold xAt;rw [if_neg (of_decide_eq_false J.Z)],by unfold qK;rw [if_neg (of_decide_eq_false J.Z)],rfl⟩
   obtain ⟨rfl,rfl,rfl⟩:=hcut;obtain ⟨q1,q2,q3,q4,q5,q6⟩:=XR (alt:=alt) z.Z.W1 z.Z.hn c1;obtain ⟨x1,x2⟩:=IV (alt:=alt) (W:=W) (i:=t) b1;obtain ⟨h1,h2,h3,h4,h5,h6⟩:=A.Z.here z.Z c1;obtain ⟨b7,O,b8⟩:=JF (fun k hk=>A.Z.safe z.Z c1 k hk) (A.Z.step z.Z c1) (show∀q,wG alt W H t (prt ks q)=tgt W H (xAt alt W t) ((t:Int)/W) (qK alt ((t:Int)/W)) (prt ks q) from fun q=>rfl);have T:qK alt ((t:Int)/W)=1\/qK alt ((t:Int)/W)=-1:=by unfold qK;split <;>simp
   obtain ⟨j,hj⟩: ∃j,zU alt W t=j:=⟨_,rfl⟩
   rw [hj] at q1 q2 h2 h3 h4 b7 O;obtain ⟨v,hv⟩: ∃v,vs.getD j 0=v:=⟨_,rfl⟩
   rw [hv] at h3 h4 b7 O;obtain ⟨X,hX⟩: ∃X,xAt alt W t=X:=⟨_,rfl⟩
   obtain ⟨Y,hY⟩: ∃Y,(t:Int)/W=Y:=⟨_,rfl⟩
   rw [hY] at T b8 e3 e4 q2 q3 q4;rw [hX] at x1 x2 q2 b8;obtain ⟨f5,f0⟩: ∃f5,qK alt Y=f5:=⟨_,rfl⟩
   rw [f0] at T b8;rw [hX,hY,f0];have j2:=wF x1 x2 q3 q4;obtain ⟨V,hV⟩: ∃V,Y*W=V:=⟨_,rfl⟩
   rw [hV] at q2 j2;obtain ⟨r1,_⟩:=j2;have r0:V+X=(j:Int):=q2.symm;have g1:=b.Z.vals.cell q1;rw [hv] at g1;have g3:=b.Z.dots.cell q1;have f3:=b.Z.dots.frozen j;have vl:=b.Z.vals.lt;have dl:=b.Z.dots.lt;have el:=b.Z.errs.lt;have j6:=Jh h2;have p5:=Jh hv;clear h1 h2 q2 q5 q6 hj hv hX hY f0
   go_upto_if 71 with (fail)
   obtain ⟨wr,j1⟩:=zN wc;rw [<-j1] at b I d6 vl dl el g1 g3 f3 l0 o0 o1 o2⊢;clear j1
   go_cut [19] (fun n8 wx=>n8= .int .i64 (yN v)/\Hd (SSt wx (w.heap.size+1) gv gd ge n s vs (ds.set j (ZK v)) es)/\Hd (Keep (kE gv gd ge) wr wx))
   . by_cases h0:128<=v
     . go_wp2
       go_meet;obtain ⟨d1,d2⟩:=WS h0;rw [d1,d2];exact ⟨rfl,Jh (b.Z.setDot j 1),Jh ((Keep.refl _ _).set (a:=⟨gd,j,none⟩) (show kE gv gd ge gd from kE.p) _)⟩
     go_wp2
     go_meet;obtain ⟨d1,d2⟩:=gu (show ¬128<=v by omega);rw [d1,d2];exact ⟨rfl,Jh (by rw [FM j6.Z (by rw [b.Z.dots.len];exact q1)];exact b.Z),Jh (Keep.refl _ _)⟩
   obtain ⟨rfl,N,f6⟩:=hcut;have eb:=Al v;obtain ⟨E,hE⟩: ∃E,yN v=E:=⟨_,rfl⟩
   rw [hE] at eb b7 O⊢;obtain ⟨dd,i3⟩: ∃dd,ZK v=dd:=⟨_,rfl⟩
   rw [i3] at N O;have m6:=N.Z.errs.lt;have g4:=N.Z.errs.cell q1;have f4:=N.Z.errs.frozen j;obtain ⟨p6,g0,f8⟩:=JF (f6.Z.blk d6.Z (fun h=>by have:=b.Z.trio _ h;omega)) (N.Z.setErr j E) (f6.Z.set (a:=⟨ge,j,none⟩) (show kE gv gd ge ge from kE.r) (.int .i64 E));clear l0 o0 o1 o2 g1 g3 f3 hE i3 vl dl el;go_wp2_with fail;refine (Nn f1 kn U ks (yL ks kn) E _ f.Z (by exact d0.Z.below (x.Z.trans ((I.Z.trans f8.Z).below (B:=w.heap.size) (fun i hi=>by have:=b.Z.trio i hi;omega) (og x.Z.size)))) k1 k2 HK.Z rfl om om).mono ?_;rintro e2 w9 ⟨a9,m9,c9,rfl,c4,n4,d8⟩
   obtain rfl:m9=kn:=by
    have h:=c4.len;rw [UQ,f.Z] at h;exact h.symm
   obtain ⟨k5,k8,j8,m0⟩:=JG c4 (g0.Z.below d8) ((I.Z.trans f8.Z).trans (Keep.zF d8)) g0.Z.trioLt;have g2:Hd ((yR ks (yL ks m9) E).length=m9):=Jh c4.len;clear c4 d8 n4 g4 f4 m6
   go_wp2
   go_loopw [13,86] (fun f2 i wy=> ∃k:Nat,k<=m9/\i=↑k/\f2= .int .i64 (xJ alt ks W H t E (vs,L) k).2/\Hd (SSt wy (w.heap.size+1) gv gd ge n s (xJ alt ks W H t E (vs,L) k).1 (ds.set j dd) (es.set j E))/\Hd (Keep (kE gv gd ge) w9 wy)) (fun _ i _=>m9 - (intOf i).toNat)
   exact ⟨0,nZ,rfl,rfl,k8,Jh (Keep.refl _ _)⟩;obtain ⟨k,hk,rfl,rfl,l,F⟩:=hrel;have c8:=Jh (j8.Z.trans F.Z);have m4:=Jh (c8.Z.blk d5.Z (fun h=>by have:=b.Z.trio _ h;omega));obtain ⟨l0,o0,o1,o2⟩:=m4.Z.c3;by_cases i7:k<m9
   . obtain ⟨ba,oa,d7,n0,i2⟩:=(F.Z.ownA k5.Z m0.Z).rd.at (oh g2)
     subst d7;have a1:=i2 k (oh g2);clear i2;obtain ⟨bk,ok,n3,p4,p0,p1,p2⟩:=wm (d0.Z.below (x.Z.trans (c8.Z.below (B:=w.heap.size) (fun i hi=>by have:=b.Z.trio i hi;omega) (og x.Z.size)))) (k:=k) (oh f);subst n3;obtain ⟨S,hS⟩: ∃S,(yR ks (yL ks m9) E).getD k 0=S:=⟨_,rfl⟩
     have sb:=FN (e:=E) f.Z k1 k2 HK.Z k i7;obtain ⟨g6,g8,u⟩:=b7.Z k (oh f);have C:=Jh (b8.Z k);have pb:=wC (qz HK.Z i7).1;obtain ⟨p,hp⟩: ∃p,prt ks k=p:=⟨_,rfl⟩
     rw [hp] at p0 p1 p2 C pb u;rw [hS] at a1 sb;obtain ⟨PX,PY,PT⟩:=p;dsimp only at p0 p1 p2 C pb u;obtain ⟨r2,r3,r4,r5,_⟩:=pb;obtain ⟨M,hM⟩: ∃M,f5*PX=M:=⟨_,rfl⟩
     have m1:-4<=M/\M<=4:=by rcases T with h | h <;>(rw [h] at hM;omega)
     obtain ⟨m1,m2⟩:=m1;have m:Hd (xJ alt ks W H t E (vs,L) (k+1)=qD (xJ alt ks W H t E (vs,L) k) (wG alt W H t ⟨PX,PY,PT⟩) S):=Jh (by rw [<-hp,<-hS,<-f.Z];rfl);obtain ⟨TG,i1⟩: ∃TG,wG alt W H t ⟨PX,PY,PT⟩=TG:=⟨_,rfl⟩
     rw [i1] at m C u;obtain ⟨G,hG⟩: ∃G,xJ alt ks W H t E (vs,L) k=G:=⟨_,rfl⟩
     rw [hG] at l m g6 g8 u;rw [hG];obtain ⟨GR,GL⟩:=G;dsimp only at l g6 g8 u⊢;have GV:=Jh u;have b0:=Jh hM;clear u hp hS hG i1;by_cases hu:0<=X+M/\X+M<W
     case neg=>
      have HU:=Jh hu;have P:Hd (TG=none):=Jh (by rw [C.Z];exact aF (fun h=>HU.Z (by rw [b0.Z] at h;exact ⟨h.1,h.2.1⟩)));clear hu;go_wp2_with fail;refine (kD _ _ _ _ (oh HU)).mono ?_;rintro e5 j3 ⟨rfl,rfl⟩
      go_wp2
      go_roundw
      . exact ⟨k+1,om,by go_num,by rw [m.Z,P.Z];rfl,by rw [m.Z,P.Z];exact l,F⟩
      exact Jm
     obtain ⟨u1,u2⟩:=hu;by_cases hy:Y+PY<H
     case neg=>
      have HU:=Jh hy;have P:Hd (TG=none):=Jh (by rw [C.Z];exact aF (fun h=>HU.Z h.2.2.2));go_wp2_with fail;refine (yJ _ _ _ _ om om).mono ?_;rintro e5 j3 ⟨rfl,rfl⟩
      go_wp2
      go_roundw
      . exact ⟨k+1,om,by go_num,by rw [m.Z,P.Z];rfl,by rw [m.Z,P.Z];exact l,F⟩
      exact Jm
     have R:Hd (TG=some ((Y+PY)*W+(X+M)).toNat):=Jh (by rw [C.Z,<-b0.Z];exact zDN ⟨by rw [b0.Z];exact u1,by rw [b0.Z];exact u2,by show 0<=Y+PY;omega,hy⟩);obtain ⟨s1,s2⟩:=wF u1 u2 (show 0<=Y+PY by omega) hy;obtain ⟨V2,m8⟩: ∃V2,(Y+PY)*W=V2:=⟨_,rfl⟩
     rw [m8] at s1 R;obtain ⟨D,q0⟩: ∃D:Nat,V2+(X+M)=(D:Int):=⟨(V2+(X+M)).toNat,om⟩
     rw [show (V2+(X+M)).toNat=D by omega] at R;obtain ⟨jn,v1,v2⟩:=GV.Z D R.Z;have g7:=l.Z.vals.cell jn;have f7:=l.Z.vals.frozen D;have vl:=l.Z.vals.lt;obtain ⟨Q,hQ⟩: ∃Q,GR.getD D 0=Q:=⟨_,rfl⟩
     rw [hQ] at g7 v1 v2;have k6:=Jh hQ;have z1:IntKind.i64.wrap V2=V2:=Yc _ om;have z2:IntKind.i64.wrap (D:Int)=(D:Int):=Yc _ om;have z3:IntKind.i64.wrap (Q+S)=Q+S:=Yc _ om;have z4:(0:Int)<=(D:Int):=om;have z5:(D:Int)<(n:Int):=om;clear hQ s2;go_wp2_with fail;refine (yJ _ _ _ _ om om).mono ?_;rintro e5 j3 ⟨rfl,rfl⟩
     go_wp2
     go_region
     clear z1 z2 z3 g7 f7
     go_wp2
     go_roundw
     . exact ⟨k+1,om,by go_num,by rw [m.Z,R.Z];rfl,by rw [m.Z,R.Z];simp only [qD,k6.Z];exact Jh ((l.Z.setVal D (Q+S)).drewN 1),Jh ((F.Z.set (a:=↑(gv,D)) (show kE gv gd ge gv from kE.d) _).drew)⟩
     exact Jm
   obtain rfl:m9=k:=om
   go_wp2
   go_roundw
   . exact ⟨t+1,ds.set j dd,es.set j E,_,_,om,by go_num,rfl,Jh (by have h:=O.Z;rw [f.Z] at h;exact h),l,c8⟩
   exact Jm
 obtain rfl:t=n:=om
 go_wp2
 go_ret3
 exact ⟨gd,ge,by rw [A.Z.hL];rfl,by have h:=b.Z.dots;rw [A.Z.hd] at h;exact h,by have h:=b.Z.errs;rw [A.Z.he] at h;exact h,by have:=b.Z.hd;omega,by have:=b.Z.he;omega,x.Z.trans (I.Z.below (B:=w.heap.size) (fun i hi=>by have:=b.Z.trio i hi;omega) (og x.Z.size))⟩
def WH (w:World) (R:Pic × Int × Bool) (e:Ending) (w':World):Prop:=
 ∃a n c,e= .returned (.tuple #[.agg #[R.1.W,R.1.H, .slice a n c],R.2.1, .bool R.2.2])/\OwnA w' w a n c R.1.ink/\n<=1048576/\Below w w w'
section
set_option maxRecDepth 100000
theorem AU (m:Option Addr) (L f:Nat) (ks:List Prt) (W H:Int) (k:Option Addr) (n b:Nat) (xs:List Int) (alt:Bool) (w:World)
 (G:ks.length=L) (I:Rd w m (flat ks)) (b4:L<=1048576) (F:L<=f) (hn:xs.length=n) (ha:Rd w k xs) (hl:n<=↑Zn):
 Calls prog 161 #[.slice m L f, .agg #[W,H, .slice k n b], .bool alt] w (WH w (jd ks W H xs alt)):=by
 obtain ⟨s,u,M,HA,T⟩:=JI G ((I.alloc (.cells #[W,H, .slice k n b] 31)).alloc (.cells ↑Zp 31)) hn ((ha.alloc (.cells #[W,H, .slice k n b] 31)).alloc (.cells ↑Zp 31)) (Joins.below_alloc2 w (.cells #[W,H, .slice k n b] 31) (.cells ↑Zp 31));have b1:=Jh ((Blk.new w 31 #[W,H, .slice k n b]).alloc (.cells ↑Zp 31));have b3:=Jh (Blk.zD (g:=w.heap.size+1) (w:=w.alloc (.cells #[W,H, .slice k n b] 31)) 31 ↑Zp sI);obtain ⟨R,hR⟩: ∃R,jd ks W H xs alt=R:=⟨_,rfl⟩
 rw [hR];have HR:=Jh hR;clear G I hn ha hR;go_in;go_wp2_with fail;refine (JZ _ _ _ ks _ s.Z (by exact u.Z) b4 F).mono ?_;rintro e w1 ⟨rfl,hb⟩;obtain ⟨q,A,l,x,o⟩:=JI (T.Z.trans (hb.mono sO)) (b1.Z.zA hb) (b3.Z.zA hb) (u.Z.below hb) (HA.Z.below hb);clear hb;by_cases hk:kP ks=true
 case neg=>
  have E:kP ks=false:=by simpa using hk
  rw [E];have i:=q;obtain rfl:R=(xF,0,false):=HR.Z.symm.trans (VH (fun h=>hk h.1));clear hk E;obtain ⟨P,D,d1,d2⟩:=l.Z.c3;obtain ⟨f0,f1,f2⟩:=l.Z.f3
  go_wp2
  exact bodyPost_ret (v:= .tuple #[.agg ↑Zp,Z0, .bool false]) (by simp [results,results161,go_sem,D,d1,d2]) rfl ⟨none,0,0,rfl,oN,om,((i.Z.setCell sI _).setCell sI _).setCell sI _⟩
 rw [hk];have t:=Jh hk;clear hk;obtain ⟨l1,c0,c1,c2⟩:=A.Z.c3;go_wp2_with fail;refine (xV _ _ _ _ _ xs _ M.Z (by exact o.Z) hl).mono ?_;rintro e w2 ⟨rfl,hb⟩;obtain ⟨i,b2,j,z,Q⟩:=JI (zL q.Z hb) (A.Z.zA hb) (l.Z.zA hb) (x.Z.below hb) (o.Z.below hb);clear hb l1 c0 c1 c2;by_cases hp:zT W H xs 255=true
 case neg=>
  have J:zT W H xs 255=false:=by simpa using hp
  rw [J];obtain rfl:R=(xF,0,false):=HR.Z.symm.trans (VH (fun h=>hp h.2));clear hp J;obtain ⟨P,D,d1,d2⟩:=j.Z.c3;obtain ⟨f0,f1,f2⟩:=j.Z.f3
  go_wp2
  exact bodyPost_ret (v:= .tuple #[.agg ↑Zp,Z0, .bool false]) (by simp [results,results161,go_sem,D,d1,d2]) rfl ⟨none,0,0,rfl,oN,om,((i.Z.setCell sI _).setCell sI _).setCell sI _⟩
 rw [hp];have HP:=Jh hp;have b0:=Jh (HR.Z.symm.trans (Ak M.Z t.Z hp));obtain ⟨hs,hq,hi⟩:=yu M.Z hp;have b5:n<=1048576:=by have:=yP hs;omega
 clear hp hs hq hi;obtain ⟨l1,c0,c1,c2⟩:=b2.Z.c3;go_wp2_with fail;refine (Nb m L f W H k n b xs alt ks _ s.Z (by exact z.Z) F t.Z M.Z (by exact Q.Z) HP.Z).mono ?_;rintro e w3 ⟨O,gr,rc,rfl,o1,o2,h1,h2,hb⟩;obtain ⟨X,U,C,N⟩:=JG o1 (zL i.Z hb) (j.Z.zA hb) (show w.heap.size+1<O from Yb j.Z.lt h1);clear o1 o2 h1 h2 hb l1 c0 c1 c2;obtain ⟨P,D,d1,d2⟩:=C.Z.c3;obtain ⟨f0,f1,f2⟩:=C.Z.f3
 go_wp2
 go_region
 go_wp2_with fail;obtain rfl:=b0.Z;have Y:=Jh (((X.Z.other (a:=↑(w.heap.size+1)) (oS N.Z) ↑W).other (a:=↑(w.heap.size+1,1)) (oS N.Z) ↑H).other (a:=↑(w.heap.size+1,2)) (oS N.Z) (.slice ↑O n n));have V:=Jh (((U.Z.setCell (show w.heap.size<=(↑(w.heap.size+1):Addr).block by simp) ↑W).setCell (show w.heap.size<=(↑(w.heap.size+1,1):Addr).block by simp) ↑H).setCell (show w.heap.size<=(↑(w.heap.size+1,2):Addr).block by simp) (.slice ↑O n n))
 exact bodyPost_ret (v:= .tuple #[.agg #[W,H, .slice ↑O n n],(yM alt ks W H xs n).lost, .bool true]) (by simp [results,results161,go_sem,D,d1,d2,P,Yb P]) rfl
  ⟨_,_,_,rfl,OwnA.mk ((Y.Z.alloc _).drewN 1) (oh N),b5,(zM V.Z _).drew⟩
theorem qj (m:Option Addr) (M f:Nat) (ks:List Prt) (W H:Int) (k:Option Addr) (n b:Nat) (xs:List Int) (alt:Bool) (w:World)
 (I:ks.length=M) (J:Rd w m (flat ks)) (b4:M<=1048576) (G:M<=f) (hn:xs.length=n) (ha:Rd w k xs) (hl:n<=↑Zn):
 Calls prog 55 #[.slice m M f, .agg #[W,H, .slice k n b], .bool alt] w (WH w (jd ks W H xs alt)):=by
 obtain ⟨s,u,N,HA,T⟩:=JI I ((J.alloc (.cells #[W,H, .slice k n b] 31)).alloc (.cells ↑Zp 31)) hn ((ha.alloc (.cells #[W,H, .slice k n b] 31)).alloc (.cells ↑Zp 31)) (Joins.below_alloc2 w (.cells #[W,H, .slice k n b] 31) (.cells ↑Zp 31));have b1:=Jh ((Blk.new w 31 #[W,H, .slice k n b]).alloc (.cells ↑Zp 31));have b3:=Jh (Blk.zD (g:=w.heap.size+1) (w:=w.alloc (.cells #[W,H, .slice k n b] 31)) 31 ↑Zp sI);obtain ⟨R,hR⟩: ∃R,jd ks W H xs alt=R:=⟨_,rfl⟩
 rw [hR];have HR:=Jh hR;clear I J hn ha hR;go_in;go_wp2_with fail;refine (Jb _ _ _ ks _ s.Z (by exact u.Z) b4 G).mono ?_;rintro e w1 ⟨rfl,hb⟩;obtain ⟨q,A,l,x,o⟩:=JI (T.Z.trans (hb.mono sO)) (b1.Z.zA hb) (b3.Z.zA hb) (u.Z.below hb) (HA.Z.below hb);clear hb;by_cases hk:kP ks=true
 case neg=>
  have F:kP ks=false:=by simpa using hk
  rw [F];have i:=q;obtain rfl:R=(xF,0,false):=HR.Z.symm.trans (VH (fun h=>hk h.1));clear hk F;obtain ⟨m1,E,d1,d2⟩:=l.Z.c3;obtain ⟨f0,f1,f2⟩:=l.Z.f3
  go_wp2
  exact bodyPost_ret (v:= .tuple #[.agg ↑Zp,Z0, .bool false]) (by simp [results,results55,go_sem,E,d1,d2]) rfl ⟨none,0,0,rfl,oN,om,((i.Z.setCell sI _).setCell sI _).setCell sI _⟩
 rw [hk];have t:=Jh hk;clear hk;obtain ⟨P,c0,c1,c2⟩:=A.Z.c3;go_wp2_with fail;refine (yj _ _ _ _ _ xs _ N.Z (by exact o.Z) hl).mono ?_;rintro e w2 ⟨rfl,hb⟩;obtain ⟨i,C,j,z,Q⟩:=JI (zL q.Z hb) (A.Z.zA hb) (l.Z.zA hb) (x.Z.below hb) (o.Z.below hb);clear hb P c0 c1 c2;by_cases hp:zT W H xs 255=true
 case neg=>
  have L:zT W H xs 255=false:=by simpa using hp
  rw [L];obtain rfl:R=(xF,0,false):=HR.Z.symm.trans (VH (fun h=>hp h.2));clear hp L;obtain ⟨m1,E,d1,d2⟩:=j.Z.c3;obtain ⟨f0,f1,f2⟩:=j.Z.f3
  go_wp2
  exact bodyPost_ret (v:= .tuple #[.agg ↑Zp,Z0, .bool false]) (by simp [results,results55,go_sem,E,d1,d2]) rfl ⟨none,0,0,rfl,oN,om,((i.Z.setCell sI _).setCell sI _).setCell sI _⟩
 rw [hp];have HP:=Jh hp;have b0:=Jh (HR.Z.symm.trans (Ak N.Z t.Z hp));obtain ⟨hs,hq,hi⟩:=yu N.Z hp;have b5:n<=1048576:=by have:=yP hs;omega
 clear hp hs hq hi;obtain ⟨P,c0,c1,c2⟩:=C.Z.c3;go_wp2_with fail;refine (dM m M f W H k n b xs alt ks _ s.Z (by exact z.Z) G t.Z N.Z (by exact Q.Z) HP.Z).mono ?_;rintro e w3 ⟨gd,ge,rfl,o1,o2,h1,h2,hb⟩;obtain ⟨X,U,D,b2,O⟩:=JI o1 (zL i.Z hb) (j.Z.zA hb) (C.Z.zA hb) (show w.heap.size+1<gd from Yb j.Z.lt h1);clear o1 o2 h1 h2 hb P c0 c1 c2;obtain ⟨m1,E,d1,d2⟩:=D.Z.c3;obtain ⟨f0,f1,f2⟩:=D.Z.f3;obtain ⟨P,c0,c1,c2⟩:=b2.Z.c3;go_wp2_with fail;obtain rfl:=b0.Z;have Y:=Jh (((X.Z.other (a:=↑(w.heap.size+1)) (oS O.Z) ↑W).other (a:=↑(w.heap.size+1,1)) (oS O.Z) ↑H).other (a:=↑(w.heap.size+1,2)) (oS O.Z) (.slice ↑gd n n));have V:=Jh (((U.Z.setCell (show w.heap.size<=(↑(w.heap.size+1):Addr).block by simp) ↑W).setCell (show w.heap.size<=(↑(w.heap.size+1,1):Addr).block by simp) ↑H).setCell (show w.heap.size<=(↑(w.heap.size+1,2):Addr).block by simp) (.slice ↑gd n n))
 exact bodyPost_ret (v:= .tuple #[.agg #[W,H, .slice ↑gd n n],(yM alt ks W H xs n).lost, .bool true]) (by simp [results,results55,go_sem,E,d1,d2]) rfl
  ⟨_,_,_,rfl,OwnA.mk Y.Z (oh O),b5,V.Z⟩
end
def vJ (d:Dat):Pic × List UInt8:=(Xb d.2.1.W d.2.1.H d.2.1.ink d.1.W d.1.H d.1.ink,ZJ)
def xI (ks:List Prt) (alt:Bool) (d:Dat):Pic × List UInt8:=((jd ks d.1.W d.1.H d.1.ink alt).1,jG [(jd ks d.1.W d.1.H d.1.ink alt).2.1])
section
set_option maxRecDepth 100000
theorem Pp (D:Dsk) (w:World) (hr:RdD w D) (o:vK D):
 Calls prog 117 (#[.agg ↑D]++#[]) w (EN w (vJ D.dat)):=by
 show Calls prog 117 #[.agg ↑D] w _;have j:=Jh hr;have E:=o.p;have F:=o.m;have b:=Jh (zM (zM (Below.refl w w) (.cells ↑D 35)) (.cells ↑Zp 31));have f:=Jh (Blk.zD (g:=w.heap.size+1) (w:=w.alloc (.cells ↑D 35)) 31 ↑Zp sI);clear hr o;go_in;go_wp2_with fail;refine (BA D.M.W D.M.H D.M.a D.M.n D.M.c D.M.ink D.P.W D.P.H D.P.a D.P.n D.P.c D.P.ink _ j.Z.ml (by exact j.Z.mr.below b.Z) om j.Z.pl (by exact j.Z.pr.below b.Z) om).mono ?_;rintro e w1 ⟨a1,n1,k1,rfl,t,l,hb⟩;obtain ⟨k,i,q⟩:=JF (zL b.Z hb) (f.Z.zA hb) t;have u:Hd (w.heap.size+2<=w1.heap.size):=Jh (by have:=hb.size;simpa using this);clear hb t f;obtain ⟨C,c0,c1,c2⟩:=i.Z.c3;obtain ⟨x,z,A⟩:=i.Z.f3;go_wp2_with fail;obtain ⟨R,s⟩: ∃R,Xb D.M.W D.M.H D.M.ink D.P.W D.P.H D.P.ink=R:=⟨_,rfl⟩
 rw [s] at q⊢
 exact bodyPost_ret (v:= .tuple #[.agg #[R.W,R.H, .slice a1 n1 k1], .string ⟨#[111,107]⟩]) (by simp [results,results117,go_sem,c0,c1,c2]) rfl
  ⟨R.W,R.H,a1,n1,k1,R.ink,rfl,s.symm,OwnA.mono (((q.Z.other sI _).other sI _).other sI _) sO,l,((k.Z.setCell sI _).setCell sI _).setCell sI _⟩
theorem Nj (O M J kc:Nat) (q:Option Addr) (ks:List Prt) (alt:Bool) (D:Dsk) (w:World) (hr:RdD w D) (hs:vK D) (hL:qZ w)
 (I:w.cell? O=some (.slice q J kc)) (A:w.cell? M=some (.bool alt)) (b3:O<w.heap.size) (b0:M<w.heap.size)
 (C:ks.length=J) (F:Rd w q (flat ks)) (b1:J<=1048576) (b2:J<=kc) (hi:yg (jd ks D.P.W D.P.H D.P.ink alt).2.1):
 Calls prog 160 (#[.agg ↑D]++#[.pointer ↑O, .pointer ↑M]) w (EN w (xI ks alt D.dat)):=by
 show Calls prog 160 #[.agg ↑D, .pointer ↑O, .pointer ↑M] w _;obtain ⟨HR,HK,T,U⟩:=JG hr C F hL;have s1:=hs.p;have b:=Jh (zM (zM (Below.refl w w) (.cells ↑D 35)) (.cells ↑Zp 31));have s:=Jh (Blk.zD (g:=w.heap.size+1) (w:=w.alloc (.cells ↑D 35)) 31 ↑Zp sI);obtain ⟨R,N⟩: ∃R,jd ks D.P.W D.P.H D.P.ink alt=R:=⟨_,rfl⟩
 rw [N] at hi;have HI:=Jh hi;have Y:=Jh N;have E:Hd (xI ks alt D.dat=(R.1,jG [R.2.1])):=Jh (by unfold xI;rw [show D.dat.1.W=D.P.W from rfl,show D.dat.1.H=D.P.H from rfl,show D.dat.1.ink=D.P.ink from rfl,N]);rw [E.Z];have e1:=(b.Z.cell b3).trans I;have e2:=(b.Z.cell b0).trans A;clear hr hs C F hL hi N I A;go_in;go_wp2_with fail;refine (AU q J kc ks D.P.W D.P.H D.P.a D.P.n D.P.c D.P.ink alt _ HK.Z (by exact T.Z.below b.Z) b1 b2 HR.Z.pl (by exact HR.Z.pr.below b.Z) om).mono ?_;rw [Y.Z];rintro e w1 ⟨a1,n1,k1,rfl,ho,b4,hb⟩;obtain ⟨k,t,z,HO⟩:=JG (zM (zL b.Z hb) (.cells #[R.1.W,R.1.H, .slice a1 n1 k1] 31)) ((s.Z.zA hb).alloc (.cells #[R.1.W,R.1.H, .slice a1 n1 k1] 31)) (Blk.new w1 31 #[R.1.W,R.1.H, .slice a1 n1 k1]) (ho.alloc (.cells #[R.1.W,R.1.H, .slice a1 n1 k1] 31));have HZ:Hd (w.heap.size+2<=w1.heap.size):=Jh (by have:=hb.size;simpa using this);obtain ⟨w2,m⟩:=zN (w1.alloc (.cells #[R.1.W,R.1.H, .slice a1 n1 k1] 31));rw [<-m] at k t z HO;clear hb ho s e1 e2;go_upto_region 2 with fail;rw [<-m];clear m;obtain ⟨t0,c0,c1,c2⟩:=z.Z.c3;have L:Hd (∀v,BelowL w2 v->(JB v w1 R.1.W R.1.H (.slice a1 n1 k1) (BelowL w2 v):Prop)):=Jh (fun v h=>⟨(h.Z.cell t0).trans c0,(h.Z.cell t0).trans c1,(h.Z.cell t0).trans c2,h⟩);clear c0 c1 c2 t0;refine yA 4 L zK (L.Z _ lS) ?_;intro f;have b7:=Xo f;refine zP 0 ?_;refine zP 1 ?_;refine zf 2 (fun K hK=>?_);go_simp;have l:BelowL w2 (w2.alloc (.cells #[R.2.1] 3)).drew:=BelowL.mk (zM bR _).drew;have b6:Rd (w2.alloc (.cells #[R.2.1] 3)).drew ↑w2 [R.2.1]:=(Wv w2 R.2.1 3).below bR.drew;refine hK.out _ _ (fun _=>Jd (L.Z _ l)) (fun hH2=>?_);clear hK K f hH2;have V:=(U.Z.below k.Z).below l.Z;refine zf 3 (fun K hK=>?_);go_simp
 go_at_call 162
 refine (Zl ↑w2 1 1 [R.2.1] _ rfl (by exact b6) om (fun x hx=>by simp at hx;rw [hx];exact HI.Z) V).mono ?_;rintro e v2 ⟨rfl,b5⟩;have j:=BelowL.call l b5;go_wp2_with fail;refine hK.out _ _ (fun _=>Jd (L.Z _ j)) (fun hH2=>?_);clear hK K hH2;have u:=t.Z.zA j.Z;have X:=Jh (HO.Z.zA j.Z);have Q:=Jh (zL k.Z j.Z);obtain ⟨l0,c0,c1,c2⟩:=u.c3;obtain ⟨f0,f1,f2⟩:=u.f3;refine zf 4 (fun K hK=>?_);go_simp;refine hK.out _ _ (fun h=>absurd h dC) (fun hH2=>?_);clear hK K hH2;refine zf 5 (fun K hK=>?_);go_simp;refine hK.out _ _ (fun h=>absurd h dC) (fun hH2=>?_);clear hK K hH2;refine yG zK ?_ _;(try go_simp);go_wp2_with fail;have hz:=HZ.Z
 exact bodyPost_ret (v:= .tuple #[.agg #[R.1.W,R.1.H, .slice a1 n1 k1], .string ⟨(jG [R.2.1]).toArray⟩]) (by simp [results,results160,go_sem,c0,c1,c2]) rfl
  ⟨R.1.W,R.1.H,a1,n1,k1,R.1.ink,rfl,rfl,OwnA.mono (((X.Z.other sI _).other sI _).other sI _) sO,b4,((Q.Z.setCell sI _).setCell sI _).setCell sI _⟩
theorem Sw (D:Dsk) (B g:Nat) (w:World) (f:jJ w B g D):
 Calls prog 116 (#[.agg #[D.M.W,D.M.H, .slice D.M.a D.M.n D.M.c]]++#[]) w (Fa w B g D (⟨(Za D.M.W D.M.H D.M.ink).W,(Za D.M.W D.M.H D.M.ink).H,(Za D.M.W D.M.H D.M.ink).ranks⟩:Pic)):=by
 show Calls prog 116 #[.agg #[D.M.W,D.M.H, .slice D.M.a D.M.n D.M.c]] w _;refine (Az D.M.W D.M.H D.M.a D.M.n D.M.c D.M.ink w f.own.m.len f.own.m.rd (og f.small.m)).mono ?_;rintro e w1 ⟨a1,n1,k1,rfl,k,j,hb⟩;have l:=f.box.lt
 exact ⟨⟨_,_,a1,n1,k1,_⟩,rfl,rfl,k.mono f.size,fun b i=>by
  have h1:=k.bd b i
  exact ⟨om,fun hd=>by have:=(f.own.bd b hd).2;omega⟩,j,hb⟩
end
end Go.Proofs.YtlenfgdjdianiaaGreatDoor
