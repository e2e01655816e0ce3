/- Facts on which this claim rests, 46. -/
import Derived.Test.YtlenfgdjdianiaaGreatDoorF45
set_option linter.all false
set_option maxHeartbeats 6400000
namespace Go.Proofs.YtlenfgdjdianiaaGreatDoor
section
open Go.RowKit Tq Go.Proofs.Tryz
variable {s : ByteArray}
set_option maxRecDepth 100000 in
theorem zGy (D:Dsk) (w:World) (hr:RdD w D) (hs:jX D):
 Calls prog 18 #[D.val] w (zR (.bool (yX D.dat)) w):=by
 obtain ⟨r1,r2,r3,r4,r5,r6⟩:=hr;obtain ⟨s1,s2,s3,s4⟩:=hs;have d0:yX D.dat=yX (D.P.pic,D.M.pic,zS D.ps):=rfl;obtain ⟨⟨W,H,X,pn,Y,xs⟩,⟨t,q,O,T,Q,y⟩,a,n,c,ps⟩:=D;rw [d0];dsimp only [PV.pic] at*;show Calls prog 18 #[.agg #[W,H, .slice X pn Y,t,q, .slice O T Q, .slice a n c]] w _;have R1:=Jh r1;have R2:=Jh r2;have R3:=Jh r3;have R4:=Jh r4;have F:=Jh r5;have R6:=Jh r6;have S4:=Jh s4;have KB:=Jh (Blk.new w 35 #[W,H, .slice X pn Y,t,q, .slice O T Q, .slice a n c]);have z:=Jh (zJ (Below.refl w w) (.cells #[W,H, .slice X pn Y,t,q, .slice O T Q, .slice a n c] 35));clear r1 r2 r3 r4 r5 r6 s4 d0;go_in;go_wp2_with fail;refine (yT W H X pn Y xs _ R1.Z (by exact R2.Z.below z.Z) om).mono ?_;rintro e w1 ⟨rfl,hb⟩;have x:=Jh (zI z.Z hb);have A:=Jh (KB.Z.zA hb);clear hb;obtain ⟨I,c0,c1,c2,c3,c4,c5,c6⟩:=A.Z.c7;by_cases hp:zP W H xs 255=true
 case neg=>
  have b3:zP W H xs 255=false:=by simpa using hp
  have E:Hd (yX (⟨W,H,xs⟩,⟨t,q,y⟩,zS ps)=false):=Jh (zEa hp);rw [b3];go_wp2_with fail;go_ret;exact ⟨zX E.Z.symm,x.Z⟩
 rw [hp];go_wp2_with fail;refine (xW t q O T Q y _ R3.Z (by exact R4.Z.below x.Z) om).mono ?_;rintro e w2 ⟨rfl,hb⟩;have j:=Jh (zI x.Z hb);have L:=Jh (A.Z.zA hb);clear hb I c0 c1 c2 c3 c4 c5 c6;obtain ⟨I,c0,c1,c2,c3,c4,c5,c6⟩:=L.Z.c7;by_cases hm:zq t q y=true
 case neg=>
  have b2:zq t q y=false:=by simpa using hm
  have E:Hd (yX (⟨W,H,xs⟩,⟨t,q,y⟩,zS ps)=false):=Jh (zEZ hm);rw [b2];go_wp2_with fail;go_ret;exact ⟨zX E.Z.symm,j.Z⟩
 rw [hm];by_cases hz:n=0
 . have E:Hd (yX (⟨W,H,xs⟩,⟨t,q,y⟩,zS ps)=true):=Jh (zEY hp hm (by rw [xa,F.Z];exact hz))
   subst hz;go_wp2_with fail;go_ret;exact ⟨zX E.Z.symm,j.Z⟩
 have b6:((n:Int)==0)=false:=sO
 have E0:yX (⟨W,H,xs⟩,⟨t,q,y⟩,zS ps)=(yc (zS ps) && decide ((pv ps 0).W=W/\(pv ps 0).H=H)):=by
  rw [zEb (d:=(⟨W,H,xs⟩,⟨t,q,y⟩,zS ps)) hp hm (by rw [xa,F.Z];exact hz)];dsimp only;rw [uT ps 0 (by rw [F.Z];omega)];rfl
 obtain ⟨b,off,b0,b1⟩:=(R6.Z.below j.Z).addr (by rw [F.Z];omega);subst b0;have RV:=Jh (R6.Z.below j.Z)
 have N:Hd (∀v,BelowL w2 v->Jc v (b,off) (pv ps 0).W/\Jc v (b,off+1) (pv ps 0).H):=Jh (fun v hv=>by
  obtain ⟨_,a0,a1,_⟩:=(RV.Z.below hv.Z).cells (k:=0) (by rw [F.Z];omega);simp only [Nat.zero_mul,Yy] at a0 a1
  exact ⟨a0,a1⟩)
 have J:Hd (∀v,BelowL w2 v->Calls prog 47 #[.slice (some ↑(b,off)) n c] v fun e v'=>e= .returned (.bool (yc (zS ps)))/\Below v.heap.size v v'):=Jh (fun v hv=>UG (some ↑(b,off)) n c ps v F.Z (RV.Z.below hv.Z) om S4.Z);obtain ⟨U,B⟩: ∃U,(pv ps 0).W=U:=⟨_,rfl⟩
 obtain ⟨V,C⟩: ∃V,(pv ps 0).H=V:=⟨_,rfl⟩
 obtain ⟨K,hK⟩: ∃K,yc (zS ps)=K:=⟨_,rfl⟩
 rw [B,C] at N;rw [hK] at J;rw [B,C,hK] at E0;have E:=Jh E0;have u:Hd (∀v,BelowL w2 v->Jc v w W/\Jc v (w,1) H/\Jc v (w,6) (.slice (some ↑(b,off)) n c)/\Jc v (b,off) (.int .i64 U)/\Jc v (b,off+1) (.int .i64 V)/\BelowL w2 v):=Jh (fun v h=>⟨(h.Z.cell I).trans c0,(h.Z.cell I).trans c1,(h.Z.cell I).trans c6,(N.Z v h).1,(N.Z v h).2,h⟩);clear B C hK E0 hp hm;have n1:(0:Int)<(n:Int):=om;have n2:0<n:=om;go_upto_region 5 with fail;clear c0 c1 c2 c3 c4 c5 c6 I N KB A L z x R1 R2 R3 R4 b1;cases K with
 | false=>
  refine wp_region_held_drew (S:=u) zK (u.Z _ lS) ?_;intro f;refine hTs 0 ?_;refine hTs 1 ?_;refine zy 2 (fun K hK=>?_);go_simp
  go_at_call 47
  ((with_reducible refine (J.Z _ lS).mono ?_);rintro e v1 ⟨rfl,m⟩);have g:=BelowL.call lS m;have l:=Jh (zI j.Z g.Z);go_wp2_with fail;refine hK.out _ _ (Jd (u.Z _ g)) (fun f=>?_);clear hK K;refine zv ?_;refine hTs 3 ?_;refine hSs 4 ?_;refine hSs 5 ?_;refine hSs 6 ?_;refine hSs 7 ?_;refine hSs 8 ?_;refine hSs 9 ?_;refine hSs 10 ?_;refine hSs 11 ?_;refine zy 12 (fun K hK=>?_);go_simp;refine hK.out _ _ (by first | exact f | assumption) (fun f=>?_);clear hK K;refine zv ?_;refine hTs 13 ?_;refine hTs 14 ?_;refine hSs 15 ?_;refine hSs 16 ?_;refine hSs 17 ?_;refine hSs 18 ?_;refine hSs 19 ?_;refine hSs 20 ?_;refine hSs 21 ?_;refine hSs 22 ?_;refine zy 23 (fun K hK=>?_);go_simp;refine hK.out _ _ (by first | exact f | assumption) (fun f=>?_);clear hK K;refine zv ?_;refine hTs 24 ?_;refine hTs 25 ?_;refine wpAnyH_done zK ?_ _;go_wp2_with fail;go_ret;exact ⟨zX (by rw [E.Z];rfl),l.Z⟩
 | true=>
  by_cases B:U=W
  case neg=>
   have b4:(U==W)=false:=by simpa using B
   refine wp_region_held_drew (S:=u) zK (u.Z _ lS) ?_;intro f;refine hTs 0 ?_;refine hTs 1 ?_;refine zv ?_;refine zy 2 (fun K hK=>?_);go_simp
   go_at_call 47
   ((with_reducible refine (J.Z _ lS).mono ?_);rintro e v1 ⟨rfl,m⟩);have g:=BelowL.call lS m;have l:=Jh (zI j.Z g.Z);go_wp2_with fail;refine hK.out _ _ (Jd (u.Z _ g)) (fun f=>?_);clear hK K;refine zv ?_;refine hTs 3 ?_;refine hTs 4 ?_;refine hTs 5 ?_;refine hTs 6 ?_;refine hTs 7 ?_;refine hTs 8 ?_;refine hTs 9 ?_;refine hTs 10 ?_;refine hTs 11 ?_;refine zv ?_;refine hTs 12 ?_;refine hTs 13 ?_;refine hTs 14 ?_;refine zv ?_;refine hSs 15 ?_;refine hSs 16 ?_;refine hSs 17 ?_;refine hSs 18 ?_;refine hSs 19 ?_;refine hSs 20 ?_;refine hSs 21 ?_;refine hSs 22 ?_;refine zy 23 (fun K hK=>?_);go_simp;refine hK.out _ _ (by first | exact f | assumption) (fun f=>?_);clear hK K;refine zv ?_;refine hTs 24 ?_;refine hTs 25 ?_;refine zv ?_;refine wpAnyH_done zK ?_ _;go_wp2_with fail;go_ret;exact ⟨zX (by rw [E.Z];simp [B]),l.Z⟩
  subst B;by_cases C:V=H
  case neg=>
   have b5:(V==H)=false:=by simpa using C
   go_region_held3 (fun v=>Jc v w (.int .i64 U)/\Jc v (w,1) H/\Jc v (w,6) (.slice (some ↑(b,off)) n c)/\Jc v (b,off) (.int .i64 U)/\Jc v (b,off+1) (.int .i64 V)/\BelowL w2 v)
    (first | exact u.Z _ g | exact u.Z _ lS)
    (first
     | (go_at_call 47;((with_reducible refine (J.Z _ (zEF aS)).mono ?_);rintro e v1 ⟨rfl,m⟩;have g:=BelowL.call (zEF aS) m)))
   have l:=Jh (zI j.Z g.Z);go_wp2_with fail;go_ret;exact ⟨zX (by rw [E.Z];simp [C]),l.Z⟩
  subst C
  go_region_held3 (fun v=>Jc v w (.int .i64 U)/\Jc v (w,1) (.int .i64 V)/\Jc v (w,6) (.slice (some ↑(b,off)) n c)/\Jc v (b,off) (.int .i64 U)/\Jc v (b,off+1) (.int .i64 V)/\BelowL w2 v)
   (first | exact u.Z _ g | exact u.Z _ lS)
   (first
    | (go_at_call 47;((with_reducible refine (J.Z _ (zEF aS)).mono ?_);rintro e v1 ⟨rfl,m⟩;have g:=BelowL.call (zEF aS) m)))
  have l:=Jh (zI j.Z g.Z);go_wp2_with fail;go_ret;exact ⟨zX (by rw [E.Z];simp),l.Z⟩
theorem zAd: ∀ {l:List UInt8},(∃c,c ∈ l/\c.toNat=32)->2<=(xi l).length
 | [],h=>by obtain ⟨c,hc,_⟩:=h;cases hc
 | d::r,h=>by
  unfold xi;have hp:=List.length_pos_iff.2 (Uf r);split;rw [List.length_cons];omega;rename_i f
  have h2: ∃c,c ∈ r/\c.toNat=32:=by
   obtain ⟨c,hc,e⟩:=h;rcases List.mem_cons.1 hc with rfl | hc
   exact absurd e f;exact ⟨c,hc,e⟩
  have a:=zAd h2;split;rename_i b;rw [b] at a;simp at a;rename_i b;rw [b] at a;simpa using a
theorem zNo (h:(yJ s).length=1):yJ s=[s]/\ ∀c,c ∈ s.toList->c.toNat≠32:=by
 have hc:=wV s;have hl:(xi s.data.toList).length=1:=by rw [<-hc];simp [zk,h]
 have no: ∀c,c ∈ s.data.toList->c.toNat≠32:=fun c hc e=>by
  have:=zAd ⟨c,hc,e⟩;omega
 refine ⟨zBi ?_,by rw [Yf];exact no⟩;rw [hc,qu no];simp [zk]
set_option maxRecDepth 100000 in
theorem zFn (D:Dsk) (s:ByteArray) (w:World) (hr:RdD w D) (hs:jX D) (ha:UY D) (hz:s.size<=1048576):
 Calls prog 6 #[D.val, .string s] w (zBn w (kW D.dat s)):=by
 have HR:=Jh hr;have HS:=Jh hs;have HA:=Jh ha;obtain ⟨w0,hw0⟩:=zN ((w.alloc (.cells D.cells 35)).alloc (.cells ↑Zd 35):World);refine zOs ?_;intro KA KR HB0;have i8:Hd (w0.heap.size=w.heap.size+2):=Jh (by rw [hw0];simp);clear hr hs ha;show Calls prog 6 #[.agg ↑D, .string s] w _;go_in;go_upto_region 1 with fail;refine ym3 ?_;clear hw0;intro l0 c0 c1 c2 c3 c4 c5 c6;go_wp2_with fail;refine (zHH D w0 (HR.Z.below HB0.Z) HS.Z HA.Z).mono ?_;rintro e w1 ⟨E,rfl,ho,hd,h4,hb⟩;have HD:=Jh hd;have b8:=Jh h4;have HEB:=Jh ho.bd;have j0:=Jh hb.size;unfold Dsk.val;obtain ⟨w2,F⟩:=zN (w1.alloc (.cells E.cells 35):World);have j7:Hd (Blk w2 w1 35 ↑E):=Jh (by rw [F];exact Blk.new w1 _ _);have i0:Hd (yG w2 w0 E):=Jh (by rw [F];exact ho.alloc _);have W:Hd (Below w0 w0 w2):=Jh (by rw [F];exact zJ hb _);have j6:=Jh (KA.Z.zA W.Z);have k3:=Jh (KR.Z.zA W.Z);have j1:Hd (w2.heap.size=w1.heap.size+1):=Jh (by rw [F];simp);clear ho hd h4 hb l0 c0 c1 c2 c3 c4 c5 c6;go_upto_region 2 with fail;rw [show w1.alloc (.cells ↑E 35)=w2 from F.symm];clear F;obtain ⟨l0,c0,c1,c2,c3,c4,c5,c6⟩:=j6.Z.c7;go_wp2_with fail;refine (zGy D w2 ((HR.Z.below HB0.Z).below W.Z) HS.Z).mono ?_;rintro e w3 ⟨rfl,hb⟩;have f8:=Jh (j7.Z.zA hb);have Y:=Jh (k3.Z.zA hb);have e3:=Jh (i0.Z.below hb);have h7:=Jh (zI W.Z hb);have e7:Hd (Below w w w3):=Jh (Below.trans HB0.Z (h7.Z.mono HB0.Z.size));have j2:=Jh hb.size;clear hb l0 c0 c1 c2 c3 c4 c5 c6;have p5:=i8.Z;have p6:=j0.Z;have p7:=j1.Z;have p8:=j2.Z;by_cases hk:yX D.dat=true
 case neg=>
  have m1:yX D.dat=false:=by simpa using hk
  have B:Hd (kW D.dat s=(D.dat,zEM)):=Jh (by unfold kW;rw [if_neg hk]);rw [m1];obtain ⟨l0,c0,c1,c2,c3,c4,c5,c6⟩:=f8.Z.c7;obtain ⟨r0,x0,x1,x2,x3,x4,x5,x6⟩:=Y.Z.c7;obtain ⟨f0,f1,f2,f3,f4,f5,f6⟩:=Y.Z.f7;go_wp2_with fail;refine bodyPost_ret (v:= .tuple #[E.val, .string ⟨#[98,97,100]⟩]) (by simp [results,results6,go_sem,Dsk.val,x0,x1,x2,x3,x4,x5,x6]) rfl ⟨E,by rw [B.Z];try rfl,?_,by rw [B.Z];exact HD.Z,b8.Z,?_⟩;have ho:yG _ w E:=e3.Z.mono om
  with_reducible refine yG.set7 ho ?_ _ _ _ _ _ _ _
  exact (fun b hb=>ho.ne_desk Y.Z b hb);exact zc e7.Z om _ _ _ _ _ _ _
 have h8:Hd (yX E.dat=true):=Jh (by rw [HD.Z];exact hk);rw [hk];go_wp2_with fail;refine (zFr s w3 hz).mono ?_;rintro e w4 ⟨ad,n,c,rfl,Q,hb⟩;have HRW:=Jh Q;have f:=Jh Q.len;have d6:=Jh (wW s);have KE4:=Jh (f8.Z.zA hb);have KR4:=Jh (Y.Z.zA hb);have e4:=Jh (e3.Z.below hb);have HW4:=Jh (zI e7.Z (hb));have j3:=Jh hb.size;have q0:=j3.Z;clear hb Q;have b5:ModIn w4 w0 E:=⟨e4.Z,b8.Z,h8.Z,om⟩
 have I:=Jh b5;clear b5;have p2:1<=n:=by rw [<-f.Z];exact d6.Z.1
 have p3:n<=1048577:=by have:=d6.Z.2;rw [f.Z] at this;omega
 obtain ⟨bw,V,k8,m0,M⟩:=HRW.Z.rd 0 (by rw [f.Z];omega);subst k8;rw [Yy] at M;obtain ⟨y,T⟩: ∃t,(yJ s)[0]'(by rw [f.Z];omega)=t:=⟨_,rfl⟩
 rw [T] at M;have e6:Hd ((yJ s).getD 0 ByteArray.empty=y):=Jh (by rw [Yh,Ya (by rw [f.Z];omega),T];rfl)
 have H:Hd (yJ s=y::(yJ s).tail):=Jh (by
  have h0:0<(yJ s).length:=by rw [f.Z];omega
  cases hw:yJ s with
  | nil=>rw [hw] at h0;simp at h0
  | cons a b=>simp only [hw] at T;rw [<-T];rfl)
 clear T;by_cases h1:n=1
 . have b6:((n:Int)==1)=true:=by rw [h1];rfl
   have O:=zNo (s:=s) (by rw [f.Z];exact h1)
   have d4:Hd (y=s):=Jh (by
    have e:=H.Z;rw [O.1] at e
    exact (List.cons.inj e).1.symm)
   have h6:Hd (∀c,c ∈ y.toList->c.toNat≠32):=Jh (by rw [d4.Z];exact O.2)
   have B:Hd (kW D.dat s=zCN y.toList E.dat):=Jh (by
    rw [zOL hk (by rw [f.Z];exact h1),d4.Z,HD.Z,Yf];unfold zCN;by_cases h0:s.size=0
    rw [if_pos h0,if_pos (by rw [UF] at h0;exact List.eq_nil_of_length_eq_zero h0)];rw [if_neg h0,if_neg (fun e=>h0 (by rw [UF,e];rfl))]
    cases jY s.data.toList <;>rfl)
   clear O;have m4:(0:Int)<(n:Int):=om;obtain ⟨l0,c0,c1,c2,c3,c4,c5,c6⟩:=KE4.Z.c7;go_upto_region 6 with fail;refine zh 7 (fun v=>JD v w1 E (Jc v (bw,V) (.string y))) zK ⟨c0,c1,c2,c3,c4,c5,c6,M⟩ ?_;intro l;clear c0 c1 c2 c3 c4 c5 c6;refine Xx ?_;refine tTs 3 ?_;refine zW 4 (fun K hK=>?_);go_simp;refine (show Calls prog _ _ _ (ModOut _ w0 E (zCN y.toList E.dat)) from zHL E y w4.drew w0 (I.Z.below bR.drew) h6.Z).mono ?_;rintro e v9 ⟨E9,rfl,ho9,hd9,hs9,hk9⟩;refine zQs ?_;intro HO9 HD9 HS9 HKB HB9 KR9 KE9
   have J:(JD v9 w1 E (Jc v9 (bw,V) (.string y)):Prop):=by
    obtain ⟨_,y0,y1,y2,y3,y4,y5,y6⟩:=KE9.Z.c7;refine zRJ ?_;intro hwb hw9;exact ⟨y0,y1,y2,y3,y4,y5,y6,hw9 _ _ M⟩
   clear ho9 hd9 hs9 hk9;refine UX ?_;intro r0 x0 x1 x2 x3 x4 x5 x6 f0 f1 f2 f3 f4 f5 f6;go_wp2_with fail;refine hK.out _ _ (fun _=>Jd (J)) (fun hHz=>?_);clear hK K l;have l:=hHz dC;clear hHz;refine tTs 5 ?_;refine tTs 6 ?_;refine zW 7 (fun K hK=>?_);refine ym14 ?_;clear hK K;refine zCa ?_;(try go_simp);go_wp2_with fail;refine bodyPost_ret (v:= .tuple #[E9.val, .string ⟨(zCN y.toList E.dat).2.toArray⟩]) (by simp [results,results6,go_sem,Dsk.val,x0,x1,x2,x3,x4,x5,x6]) rfl ⟨E9,by rw [B.Z];try rfl,?_,by rw [B.Z];exact HD9.Z,HS9.Z,?_⟩;exact zPB;exact zc HB9.Z om _ _ _ _ _ _ _
 have b6:((n:Int)==1)=false:=sO;have m4:(0:Int)<(n:Int):=om;by_cases C:n=3/\y.toList=jS
 . obtain ⟨h3,N⟩:=C
   have g4:((n:Int)==3)=true:=by rw [h3];rfl
   obtain ⟨n2,q2,e1,_,d0⟩:=HRW.Z.rd 1 (by rw [f.Z];omega);cases e1;obtain ⟨n3,q3,e2,_,d1⟩:=HRW.Z.rd 2 (by rw [f.Z];omega);cases e2;obtain ⟨s1,b0⟩: ∃t,(yJ s)[1]'(by rw [f.Z];omega)=t:=⟨_,rfl⟩
   obtain ⟨s2,b1⟩: ∃t,(yJ s)[2]'(by rw [f.Z];omega)=t:=⟨_,rfl⟩
   rw [b0] at d0;rw [b1] at d1;have e0:y=⟨#[100,105,102,102,117,115,101]⟩:=ByteArray.ext (Array.toList_inj.1 (by rw [<-Yf];exact N))
   have B:Hd (kW D.dat s=VV s1.toList s2.toList E.dat):=Jh (by
    rw [HD.Z];refine zFa hk ?_;have m3:(yJ s).length=3:=by rw [f.Z];exact h3
    match hw:yJ s,m3 with
    | [p,q,r],_=>
     simp only [hw] at b0 b1
     have hp:p=y:=by
      have e:=H.Z;rw [hw] at e;exact (List.cons.inj e).1
     have k6:q=s1:=b0;have k7:r=s2:=b1;rw [hp,k6,k7];show [y.data.toList,s1.data.toList,s2.data.toList]=_
     rw [<-Yf,<-Yf,<-Yf,N])
   clear b0 b1 N;subst e0;have n0:(1:Int)<(n:Int):=om;have n1:(2:Int)<(n:Int):=om;obtain ⟨l0,c0,c1,c2,c3,c4,c5,c6⟩:=KE4.Z.c7;go_upto_region 8 with fail;refine zh 10 (fun v=>JD v w1 E (Jc v (bw,V+1) (.string s1)/\Jc v (bw,V+2) (.string s2))) zK ⟨c0,c1,c2,c3,c4,c5,c6,d0,d1⟩ ?_;intro l;clear c0 c1 c2 c3 c4 c5 c6;refine Xx ?_;refine tTs 3 ?_;refine tTs 4 ?_;refine tTs 5 ?_;refine tTs 6 ?_;refine zW 7 (fun K hK=>?_);go_simp;refine (show Calls prog _ _ _ (ModOut _ w0 E (VV s1.toList s2.toList E.dat)) from zCU E s1 s2 w4.drew w0 (I.Z.below bR.drew)).mono ?_;rintro e v9 ⟨E9,rfl,ho9,hd9,hs9,hk9⟩;refine zQs ?_;intro HO9 HD9 HS9 HKB HB9 KR9 KE9
   have J:(JD v9 w1 E (Jc v9 (bw,V+1) (.string s1)/\Jc v9 (bw,V+2) (.string s2)):Prop):=by
    obtain ⟨_,y0,y1,y2,y3,y4,y5,y6⟩:=KE9.Z.c7;refine zRJ ?_;intro hwb hw9;exact ⟨y0,y1,y2,y3,y4,y5,y6,hw9 _ _ d0,hw9 _ _ d1⟩
   clear ho9 hd9 hs9 hk9;refine UX ?_;intro r0 x0 x1 x2 x3 x4 x5 x6 f0 f1 f2 f3 f4 f5 f6;go_wp2_with fail;refine hK.out _ _ (fun _=>Jd (J)) (fun hHz=>?_);clear hK K l;have l:=hHz dC;clear hHz;refine tTs 8 ?_;refine tTs 9 ?_;refine zW 10 (fun K hK=>?_);refine ym14 ?_;clear hK K;refine zW 11 (fun K hK=>?_);refine ym14 ?_;clear hK K;refine zx zK ?_ _;(try go_simp);go_wp2_with fail;refine bodyPost_ret (v:= .tuple #[E9.val, .string ⟨(VV s1.toList s2.toList E.dat).2.toArray⟩]) (by simp [results,results6,go_sem,Dsk.val,x0,x1,x2,x3,x4,x5,x6]) rfl ⟨E9,by rw [B.Z];try rfl,?_,by rw [B.Z];exact HD9.Z,HS9.Z,?_⟩;exact zPB;exact zc HB9.Z om _ _ _ _ _ _ _
 have e5:Hd (kW D.dat s=match jV (zk (yJ s).tail) with | none=>(D.dat,jc) | some xs=>uS y.toList xs D.dat):=Jh (by
  rw [zLu hk (by rw [f.Z];omega) (by
   rw [f.Z,e6.Z,<-Yf];exact C),e6.Z,<-Yf]
  cases jV (zk (yJ s).tail) with
  | none=>rfl
  | some xs=>rfl)
 obtain ⟨m,rfl⟩: ∃m,n=m+1:=⟨n - 1,om⟩
 go_upto_region 7 with fail
 go_cut [39] (fun m6 wx=>m6= .bool false/\wx=w4)
 case first=>
  by_cases h3:m=2
  . have g4:((((m+1:Nat):Nat):Int)==3)=true:=by rw [h3];rfl
    have g5:((m:Int)+1==3)=true:=by rw [h3];rfl
    have N: ¬y.toList=[100,105,102,102,117,115,101]:=fun e=>C ⟨om,e⟩;have n5:(y.toList==[100,105,102,102,117,115,101])=false:=by rw [beq_eq_false_iff_ne];exact N
    clear C;go_wp2_with fail;go_meet;exact ⟨rfl,rfl⟩
  have g4:((((m+1:Nat):Nat):Int)==3)=false:=sO;have g5:((m:Int)+1==3)=false:=sO;clear C;go_wp2_with fail;go_meet;exact ⟨rfl,rfl⟩
 obtain ⟨rfl,rfl⟩:=hcut;have n8:1<=m:=om;clear C b6 h1;have p0:(1:Int)<=(m:Int)+1:=om;have b4:=HRW.Z.2
 have p1:m+1<=c:=by
  rcases b4 with ⟨e,_⟩ | ⟨g,cp,n4,e,_,_,h2,_⟩
  cases e;cases e;exact h2
 clear b4;have m7:(1:Int)<=(c:Int):=om;have m8:((m:Int)+1)<=(c:Int):=om;have p4: ¬c=1:=om;go_upto_region 10 with fail;obtain ⟨w5,U⟩:=zN (wc.alloc (.cells #[] 3):World);have d7:Hd (OwnA w5 wc.heap.size ↑wc 0 0 []):=Jh (by rw [U];exact (RowA.mk (vF wc 3 1) nI).toOwn6);have d3:Hd (Below wc wc w5):=Jh (by rw [U];exact nJ);have j4:Hd (w5.heap.size=wc.heap.size+1):=Jh (by rw [U];simp);rw [<-U];clear U;go_wp2_with fail
 go_loopw [8,54] (fun v i wr=> ∃(k:Nat) (a:Option Addr) (cp:Nat) (xs:List Int),k<=m/\i=↑k/\v= .slice a k cp/\OwnA wr wc a k cp xs/\(∀j,j<k->xo ((zk (yJ s).tail).getD j [])=some (xs.getD j 0))/\(∀x,x ∈ xs->yK x)/\Below wc wc wr) (fun _ i _=>m - (intOf i).toNat)
 case atStart=>exact ⟨0,_,0,[],nZ,rfl,rfl,d7.Z,fun j hj=>om,fun x hx=>by simp at hx,d3.Z⟩
 obtain ⟨k,a,cp,xs,n6,rfl,rfl,P,b7,h5,g2⟩:=hrel;have HN:=Jh P;have HV:=Jh b7;have i7:=Jh h5;have A:=Jh g2;have X:=Jh P.len;clear P b7 h5 g2 d7 d3 j4;have g0:=Jh (KE4.Z.zA A.Z);have k4:=Jh (KR4.Z.zA A.Z);have d5:=Jh (I.Z.below A.Z);have i6:=Jh (zI HW4.Z A.Z);have j5:=Jh A.Z.size;have k0:(0:Int)<=(k:Int):=om;by_cases n7:k<m
 . have k1:(k:Int)<(m:Int):=om
   obtain ⟨b',o',e',_,d2⟩:=(HRW.Z.rd.below A.Z) (k+1) (by rw [f.Z];omega)
   cases e';obtain ⟨sk,b2⟩: ∃t,(yJ s)[k+1]'(by rw [f.Z];omega)=t:=⟨_,rfl⟩
   rw [b2,show V+(k+1)=V+1+k by omega] at d2
   have g8:sk.size<=1048576:=by
    have:=zHW s sk (by rw [<-b2];exact List.getElem_mem _);omega
   have e8:Hd ((zk (yJ s).tail).getD k []=sk.data.toList):=Jh (by
    have m2:k+1<(yJ s).length:=by rw [f.Z];omega
    have e:(zk (yJ s).tail).getD k []=(zk (yJ s)).getD (k+1) []:=by
     rw [ZW];cases zk (yJ s) with
     | nil=>rfl
     | cons p q=>rfl
    rw [e,<-qb,Yh,Ya m2,b2]
    rfl)
   clear b2;go_wp2_with fail;refine (zEB sk _ g8).mono ?_;rintro e w6 ⟨L,⟨g6,rfl⟩ | ⟨v,hv,m5,rfl⟩⟩
   . have z:=Jh (zI A.Z L)
     have B:Hd (kW D.dat s=(D.dat,jc)):=Jh (by
      rw [e5.Z,YY _ k (by unfold zk;rw [List.length_map,List.length_tail,f.Z];omega) (by rw [e8.Z];exact g6)])
     have j8:=Jh (KE4.Z.zA z.Z);have c8:=Jh (KR4.Z.zA z.Z);have i1:=Jh (e4.Z.below z.Z);have i4:=Jh (zI HW4.Z z.Z);clear L g6 d2;obtain ⟨l0,c0,c1,c2,c3,c4,c5,c6⟩:=j8.Z.c7;obtain ⟨r0,x0,x1,x2,x3,x4,x5,x6⟩:=c8.Z.c7;obtain ⟨f0,f1,f2,f3,f4,f5,f6⟩:=c8.Z.f7;go_wp2_with fail;refine bodyPost_ret (v:= .tuple #[E.val, .string ⟨#[119,104,97,116]⟩]) (by simp [results,results6,go_sem,Dsk.val,x0,x1,x2,x3,x4,x5,x6]) rfl ⟨E,by rw [B.Z];try rfl,?_,by rw [B.Z];exact HD.Z,b8.Z,?_⟩;have ho:yG _ w E:=i1.Z.mono om
     with_reducible refine yG.set7 ho ?_ _ _ _ _ _ _ _
     exact (fun b hb=>ho.ne_desk c8.Z b hb);exact zc i4.Z om _ _ _ _ _ _ _
   have z:=Jh (zI A.Z L);have d8:=Jh (HN.Z.zA L);have i3:=Jh hv;clear L hv d2;go_wp2_with (at_builtin;refine vH _ rfl (.tmp 66) (.tmp 68) rfl wc k cp a xs rfl (d8.Z.alloc _) w6.heap.size v rfl (by go_simp) om (oS z.Z.size) ?_;intro k5 g1 w7 g7 g3);have i5:=Jh ((z.Z.alloc z.Z.size _).grown g3 (oS z.Z.size) (fun b hb=>(d8.Z.bd b hb).1));have i2:=Jh g7;clear g7 g3;go_roundw
   case rel=>exact ⟨k+1,k5,g1,xs++ [v],om,by go_num,rfl,i2.Z,fun j hj=>by
    by_cases e:j<k
    rw [HV.Z j e];congr 1;simp [List.getD,List.getElem?_append,show j<xs.length by rw [X.Z];exact e];obtain rfl:j=k:=om;rw [e8.Z,i3.Z];congr 1;simp [List.getD,List.getElem?_append,X.Z],fun x hx=>by
    rcases List.mem_append.1 hx with hx | hx
    exact i7.Z x hx
    simp at hx;rw [hx];exact m5,i5.Z⟩
   exact Jm
 obtain rfl:k=m:=om;have q1:=j5.Z
 have B:Hd (kW D.dat s=uS y.toList xs E.dat):=Jh (by
  rw [e5.Z,Vs _ xs (by unfold zk;rw [List.length_map,List.length_tail,f.Z,X.Z];omega) (fun j hj=>HV.Z j (by unfold zk at hj;rw [List.length_map,List.length_tail,f.Z] at hj;omega)),HD.Z])
 have b3:wr.cell? (bw,V)=some (.string y):=(A.Z.cell m0).trans M
 have CC:Hd (Calls prog 23 #[E.val, .string y, .slice a k cp] wr.drew (ModOut wr.drew w0 E (uS y.toList xs E.dat))):=Jh (by
  have h:=zHG E y.toList a k cp xs wr.drew w0 (d5.Z.below bR.drew) X.Z (HN.Z.rd.below bR.drew) om;have e:(⟨y.toList.toArray⟩:ByteArray)=y:=ByteArray.ext (Array.toList_inj.1 (by rw [Yf]));rw [e] at h
  exact h)
 have k2: ¬(k:Int)<(k:Int):=om;obtain ⟨l0,c0,c1,c2,c3,c4,c5,c6⟩:=g0.Z.c7;go_upto_region 18 with fail;refine zh 8 (fun v=>JD v w1 E (Jc v (bw,V) (.string y))) zK ⟨c0,c1,c2,c3,c4,c5,c6,b3⟩ ?_;intro l;clear c0 c1 c2 c3 c4 c5 c6;refine Xx ?_;refine tTs 3 ?_;refine tTs 4 ?_;refine zW 5 (fun K hK=>?_);go_simp;refine (show Calls prog _ _ _ (ModOut _ w0 E (uS y.toList xs E.dat)) from CC.Z).mono ?_;refine zCb ?_;intro v9 E9 ho9 hd9 hs9 hk9 HO9 HD9 HS9;have HKB:Hd (Below w0 wr.drew v9):=Jh (hk9.below (fun i hi=>(HEB.Z i hi).1) (by show w0.heap.size<=wr.heap.size;omega));have HB9:Hd (Below w w v9):=Jh (Below.trans i6.Z ((Below.trans (Below.refl w0 wr).drew HKB.Z).mono om));have KR9:Hd (Blk v9 (w.heap.size+1) 35 ↑Zd):=Jh (hk9.blk (k4.Z).drew (fun h=>by have:=HEB.Z _ h;omega));have KE9:Hd (Blk v9 w1 35 ↑E):=Jh (hk9.blk (g0.Z).drew (fun h=>by have:=HEB.Z _ h;omega))
 have J:(JD v9 w1 E (Jc v9 (bw,V) (.string y)):Prop):=by
  obtain ⟨_,y0,y1,y2,y3,y4,y5,y6⟩:=KE9.Z.c7;have hwb:=HRW.Z.block bw rfl;have hw9: ∀(i:Nat) (u:Value),wr.cell? (bw,i)=some u->v9.cell? (bw,i)=some u:=fun i u hu=>(World.cell?_of_block (hk9.block bw (by show bw<wr.heap.size;omega) (fun h=>by have:=HEB.Z _ h;omega))).trans hu;exact ⟨y0,y1,y2,y3,y4,y5,y6,hw9 _ _ b3⟩
 clear ho9 hd9 hs9 hk9;refine UX ?_;intro r0 x0 x1 x2 x3 x4 x5 x6 f0 f1 f2 f3 f4 f5 f6;go_wp2_with fail;refine hK.out _ _ (fun _=>Jd (J)) (fun hHz=>?_);clear hK K l;have l:=hHz dC;clear hHz;refine tTs 6 ?_;refine tTs 7 ?_;refine zW 8 (fun K hK=>?_);refine ym14 ?_;clear hK K;refine zW 9 (fun K hK=>?_);refine ym14 ?_;clear hK K;refine zx zK ?_ _;(try go_simp);go_wp2_with fail;refine bodyPost_ret (v:= .tuple #[E9.val, .string ⟨(uS y.toList xs E.dat).2.toArray⟩]) (by simp [results,results6,go_sem,Dsk.val,x0,x1,x2,x3,x4,x5,x6]) rfl ⟨E9,by rw [B.Z];try rfl,?_,by rw [B.Z];exact HD9.Z,HS9.Z,?_⟩;exact zPB;exact zc HB9.Z om _ _ _ _ _ _ _
end
section
open Go.ChangeShapes Go.WideShapes Go.ChangeAt Go.RowKit xScript Tq Go.Proofs.Tryz
set_option maxRecDepth 100000 in
theorem zCT (s:ByteArray) (w:World) (hz:s.size<=1048576):
 Calls prog 12 #[.string s] w (zR (.tuple #[.string ⟨(je s).1.toArray⟩,(je s).2]) w):=by
 go_in;go_wp2_with fail;refine (zFq s _ hz).mono ?_;rintro e w3 ⟨g8,n2,cc,rfl,l,hb⟩;have b1:=Jh l;have N:=Jh l.len;have g4:=Jh l.block;have B:=Jh hb;have g7:=Jh hb.size;clear l hb;by_cases G:40<n2
 . have ES:=Jh (zRb s (by rw [N.Z];exact G))
   have d8:(40:Int)<(n2:Int):=om;go_wp2_with fail;go_ret2;rw [ES.Z];exact ⟨rfl,B.Z⟩
 have ES:Hd (je s=((yQ (yr s) n2).2,(n2:Int))):=Jh (by rw [few s (by rw [N.Z];exact G),N.Z]);have d8: ¬(40:Int)<(n2:Int):=om;have h5:n2<=40:=om;clear G;go_wp2_with fail;refine (zFm _).mono ?_;rintro e m ⟨E0,rfl,ho,hd,z,hb⟩;have g2:=Jh ho;have g0:=Jh hd;have g5:=Jh z;have e7:=Jh (zI B.Z hb);have g3:=Jh (b1.Z.below hb);have b7:=Jh hb.size;clear ho hd z hb b1;unfold Dsk.val;go_wp2_with fail;have O:=Blk.new m 35 ↑E0;have h2:Hd (w.heap.size<=w3.heap.size):=Jh B.Z.size
 go_loopw [6,19] (fun t i wr=> ∃(k:Nat) (E:Dsk),k<=n2/\i=↑k/\t= .string ⟨(yQ (yr s) k).2.toArray⟩/\Blk wr m 35 ↑E/\RdD wr E/\E.dat=(yQ (yr s) k).1/\jX E/\xm wr w g8 n2 cc (yr s)/\Below w w wr) (fun _ i _=>n2 - (intOf i).toNat)
 case atStart=>exact ⟨0,E0,nZ,rfl,rfl,O,g2.Z.rd.alloc _,g0.Z,g5.Z,g3.Z.alloc _,zJ e7.Z _⟩
 clear O;obtain ⟨k,E,hk,rfl,rfl,kg,e3,hd,z,e4,hb⟩:=hrel;have O:=Jh kg;have b2:=Jh e3;have HD:=Jh hd;have g6:=Jh z;have b3:=Jh e4;have HB:=Jh hb;clear kg e3 hd z e4 hb;by_cases I:k<n2
 . obtain ⟨b,off,h0,i0,hc⟩:=b3.Z.rd k (by rw [N.Z];exact I)
   subst h0;obtain ⟨Q,D⟩: ∃t,(yr s)[k]'(by rw [N.Z];exact I)=t:=⟨_,rfl⟩
   rw [D] at hc;have h1:Q.size<=1048576:=Yx (zMq s Q (by rw [<-D];exact List.getElem_mem _)) om
   have e2:(yr s).getD k ByteArray.empty=Q:=by
    rw [Yh,Ya (by rw [N.Z];exact I),D];rfl
   have g1:=Jh e2;clear D e2;obtain ⟨l0,c0,c1,c2,c3,c4,c5,c6⟩:=O.Z.c7;have k0:(0:Int)<=(k:Int):=om;have k1:(k:Int)<(n2:Int):=om;have Y:Hd (yX E.dat=true):=Jh (by rw [HD.Z];exact XX _ _);go_wp2_with fail;refine (zFn E Q wr b2.Z g6.Z (zHd b2.Z Y.Z) h1).mono ?_;rintro e w5 ⟨j,rfl,J,e1,e5,v⟩;have i2:m.heap.size<wr.heap.size:=O.Z.lt;have U:=Jh J;have V:=Jh J.bd;have b5:=Jh e5;have b8:=Jh (O.Z.zA v);have b4:=Jh (b3.Z.below v);have e8:=Jh (zI HB.Z v);have h6:=Jh v.size;obtain ⟨g,f⟩: ∃t,(kW E.dat Q).2=t:=⟨_,rfl⟩
   have e6:Hd (g.length<=4194304):=Jh (by rw [<-f];exact zAF Q Y.Z)
   have b6:Hd (yQ (yr s) (k+1)=(j.dat,(yQ (yr s) k).2++(if g=[] then [] else g++ [10]))):=Jh (by
    conv=>lhs;unfold yQ
    rw [g1.Z,<-HD.Z,f,e1])
   rw [f];clear J e1 e5 v l0 c0 c1 c2 c3 c4 c5 c6 f;obtain ⟨wa,L⟩:=zN (w5.alloc (.cells ↑j 35));have KN:=Jh (Blk.new w5 35 ↑j);have u:=Jh (b8.Z.alloc (.cells ↑j 35));have b0:=Jh (U.Z.alloc (.cells ↑j 35));have o:=Jh (b4.Z.alloc (.cells ↑j 35));have T:=Jh (zJ e8.Z (.cells ↑j 35));rw [<-L] at KN u b0 o T;unfold Dsk.val;go_upto_region 10 with fail;rw [<-L];clear L;obtain ⟨l0,c0,c1,c2,c3,c4,c5,c6⟩:=u.Z.c7;obtain ⟨f0,f1,f2,f3,f4,f5,f6⟩:=u.Z.f7;obtain ⟨m0,d0,d1,d2,d3,d4,d5,d6⟩:=KN.Z.c7;obtain ⟨w6,A⟩:=zN (((((((wa.setCell m ↑j.P.W).setCell (m,1) ↑j.P.H).setCell (m,2) (.slice j.P.a j.P.n j.P.c)).setCell (m,3) ↑j.M.W).setCell (m,4) ↑j.M.H).setCell (m,5) (.slice j.M.a j.M.n j.M.c)).setCell (m,6) (.slice j.a j.n j.c));have d7:Hd (KeepT (fun i=>i=m.heap.size) wa w6):=Jh (by rw [A];exact vE wa m _ _ _ _ _ _ _);have c8:Hd (Blk w6 m 35 ↑j):=Jh (by rw [A];exact u.Z.put7 _ _ _ _ _ _ _);have X:Hd (yG w6 wr j):=Jh (b0.Z.keepZ d7.Z (fun b hb e=>by have:=V.Z b e;omega));have F:Hd (xm w6 w (some ↑(b,off)) n2 cc (yr s)):=Jh (o.Z.keep (fun b' e0=>d7.Z.block b' (o.Z.block b' e0).2 (zC (g4.Z b' e0).2 b7.Z g7.Z)));have R:Hd (Below w w w6):=Jh (by rw [A];exact zc T.Z (Yx B.Z.size b7.Z) _ _ _ _ _ _ _);go_upto_region 11 with fail;rw [<-A];clear A l0 c0 c1 c2 c3 c4 c5 c6 f0 f1 f2 f3 f4 f5 f6 m0 d0 d1 d2 d3 d4 d5 d6 b8 U u KN;by_cases f:g=[]
   . have q:Hd (yQ (yr s) (k+1)=(j.dat,(yQ (yr s) k).2)):=Jh (by rw [b6.Z,if_pos f,List.append_nil])
     subst f;go_wp2_with fail;go_roundw
     case rel=>exact ⟨k+1,j,om,by go_num,by rw [q.Z],c8.Z,X.Z.rd,by rw [q.Z],b5.Z,F.Z,R.Z⟩
     exact Jm
   have q:Hd (yQ (yr s) (k+1)=(j.dat,(yQ (yr s) k).2++g++ [10])):=Jh (by rw [b6.Z,if_neg f,List.append_assoc])
   obtain ⟨a0,ar,C⟩: ∃a0 ar,g=a0::ar:=by
    cases g with
    | nil=>exact absurd rfl f
    | cons x y=>exact ⟨x,y,rfl⟩
   have i1:(⟨g.toArray⟩:ByteArray).toList.isEmpty=false:=by rw [Yf,C];rfl
   have h3:(⟨g.toArray⟩:ByteArray).toList≠ []:=by rw [Yf,C];simp
   have h4:g.isEmpty=false:=by rw [C];rfl
   have f8:=Jh (zRa (yQ (yr s) k).2 g);clear C;have hT:(yQ (yr s) k).2.length<=167772200:=Yx (Ja _ k) (Yx (Nat.mul_le_mul_right _ (show k<=40 by omega)) om);have hA:=e6.Z;have h7: ¬9223372036854775807<(yQ (yr s) k).2.length+g.length:=om;have h8: ¬9223372036854775807<(yQ (yr s) k).2.length+g.length+1:=om;go_wp2_with fail;go_roundw
   case rel=>exact ⟨k+1,j,om,by go_num,by rw [q.Z,<-f8.Z],c8.Z,X.Z.rd,by rw [q.Z],b5.Z,F.Z,R.Z⟩
   exact Jm
 obtain rfl:k=n2:=om;go_wp2_with fail;go_ret2;rw [ES.Z];exact ⟨rfl,HB.Z⟩
end
end Go.Proofs.YtlenfgdjdianiaaGreatDoor
