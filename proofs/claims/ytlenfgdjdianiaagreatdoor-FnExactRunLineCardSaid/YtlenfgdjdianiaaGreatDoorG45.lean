/- Facts on which this claim rests, 45. -/
import Derived.Test.YtlenfgdjdianiaaGreatDoorG44
set_option linter.all false
set_option maxHeartbeats 6400000
namespace Go.Proofs.YtlenfgdjdianiaaGreatDoor
open Go.RowKit Tq Go.Proofs.Tryz
variable {s : ByteArray}
theorem uG.empty (w:World):uG (w.alloc (.cells #[] 9)) w (some ⟨w.heap.size,0,Option.none⟩) 0 0 []:=
 ⟨sI, .inr ⟨w.heap.size,0,#[],rfl,nI,heap_alloc_new w _,nI,by unfold maxLen;omega,sI,sI⟩⟩
def vX (s:ByteArray) (p:Nat):List ByteArray × Nat:=if p<=s.size then xY s p else (yS s,s.size+1)
theorem wI {p:Nat} (h:p<=s.size):vX s p=xY s p:=by unfold vX;rw [if_pos h]
theorem Cb {p:Nat} (h:p<=s.size):(vX s p).2<=p:=by rw [wI h];exact Je s p
theorem eG (s:ByteArray):vX s (s.size+1)=((vX s s.size).1++ [s.extract (vX s s.size).2 s.size],s.size+1):=by
 rw [wI nI];unfold vX;rw [if_neg om];rfl
theorem eH {p:Nat} (h:p<s.size) (hc:(s[p]'h).toNat=32):vX s (p+1)=((vX s p).1++ [s.extract (vX s p).2 p],p+1):=by
 have e:s.get! p=s[p]'h:=by
  have:=VN s p h;rw [Ya (by simpa using h)] at this;exact (Yd this).symm
 rw [wI h,wI (Nat.le_of_lt h),Vl,if_pos (by rw [e];exact hc)]
theorem pY {p:Nat} (h:p<s.size) (hc: ¬(s[p]'h).toNat=32):vX s (p+1)=vX s p:=by
 have e:s.get! p=s[p]'h:=by
  have:=VN s p h;rw [Ya (by simpa using h)] at this;exact (Yd this).symm
 rw [wI h,wI (Nat.le_of_lt h),Vl,if_neg (by rw [e];exact hc)]
section
set_option maxRecDepth 100000
theorem Rb (s:ByteArray) (w:World) (M:s.size<=1048576):
 Calls prog 19 #[.string s] w fun e w'=> ∃q n c,e= .returned (.slice q n c)/\uG w' w q n c (yS s)/\Below w w w':=by
 have I:=Jh (uG.empty w);have F:=Jh (Joins.below_alloc1 w (.cells #[] 9));go_in
 go_wp2
 go_loopw [3,4,5] (fun l t i wr=> ∃(p n c:Nat) (q:Option Addr),p<=s.size+1/\i=↑p/\l= .slice q n c/\t=↑((vX s p).2:Nat)/\uG wr w q n c (vX s p).1/\Below w w wr) (fun _ _ i _=>s.size+1 - (intOf i).toNat)
 exact ⟨0,0,0,_,nZ,rfl,rfl,by rw [wI nZ];rfl,by rw [wI nZ];exact I.Z,F.Z⟩;obtain ⟨p,n,c,q,hp,rfl,rfl,rfl,k,hb⟩:=hrel;have A:=Jh k;have m:=Jh hb;have B:=k.len;have D:p<=s.size->n<=p:=fun h=>by rw [<-B,wI h];exact Ub s p
 clear k hb B;by_cases u:p<s.size
 . have E:=D om
   have z:=Cb (Nat.le_of_lt u);obtain ⟨b,C⟩: ∃b,s[p]'u=b:=⟨_,rfl⟩
   by_cases hc:b.toNat=32
   . have G:(((b.toNat:Nat):Int)==32)=true:=by rw [hc];rfl
     have o:=Jh (eH u (by rw [C];exact hc));obtain ⟨st,a⟩: ∃st,(vX s p).2=st:=⟨_,rfl⟩
     rw [a] at z o⊢;clear a;go_wp2_with (at_builtin;refine Cc _ rfl (.tmp 23) (.tmp 28) rfl w n c q (vX s p).1 rfl (A.Z.alloc _) wr.heap.size (s.extract st p) rfl (by go_simp) om (oS m.Z.size) ?_;intro y f L j g);have x:=Jh ((m.Z.alloc m.Z.size _).grown g (oS m.Z.size) (fun b hb=>(A.Z.block b hb).1));have v:=Jh j;clear j g;go_roundw
     . exact ⟨p+1,n+1,f,y,om,by go_num,rfl,by rw [o.Z];go_num,by rw [o.Z];exact v.Z,x.Z⟩
     exact Jm
   have G:(((b.toNat:Nat):Int)==32)=false:=sO;have o:=Jh (pY u (by rw [C];exact hc))
   go_wp2
   go_roundw
   . exact ⟨p+1,n,c,q,om,by go_num,rfl,by rw [o.Z],by rw [o.Z];exact A.Z,m.Z⟩
   exact Jm
 by_cases H:p=s.size
 . subst H
   have E:=D nI;have z:=Cb (Nat.le_refl s.size);have o:=Jh (eG s);obtain ⟨st,a⟩: ∃st,(vX s s.size).2=st:=⟨_,rfl⟩
   rw [a] at z o⊢;clear a;go_wp2_with (at_builtin;refine Cc _ rfl (.tmp 23) (.tmp 28) rfl w n c q (vX s s.size).1 rfl (A.Z.alloc _) wr.heap.size (s.extract st s.size) rfl (by go_simp) om (oS m.Z.size) ?_;intro y f L j g);have x:=Jh ((m.Z.alloc m.Z.size _).grown g (oS m.Z.size) (fun b hb=>(A.Z.block b hb).1));have v:=Jh j;clear j g;go_roundw
   . exact ⟨s.size+1,n+1,f,y,om,by go_num,rfl,by rw [o.Z];try go_num,by rw [o.Z];exact v.Z,x.Z⟩
   (simp [intOf];try omega)
 obtain rfl:p=s.size+1:=om;have J: ¬((s.size:Int)+1<=(s.size:Int)):=om
 go_wp2
 go_ret;exact ⟨q,n,c,rfl,by (have e:(vX s (s.size+1)).1=yS s:=by (unfold vX;rw [if_neg om]));rw [<-e];exact A.Z,m.Z⟩
theorem TP (D:Dsk) (w:World) (hr:RdD w D) (hs:vK D):
 Calls prog 18 #[D.val] w (zR (.bool (xg D.dat)) w):=by
 obtain ⟨r1,r2,r3,r4,r5,r6⟩:=hr;obtain ⟨s1,s2,s3,s4⟩:=hs;have d0:xg D.dat=xg (D.P.pic,D.M.pic,zS D.ps):=rfl;obtain ⟨⟨W,H,T,Y,X,xs⟩,⟨t,q,N,Q,O,ys⟩,a,n,c,ps⟩:=D;rw [d0];dsimp only [PV.pic] at*;show Calls prog 18 #[.agg #[W,H, .slice T Y X,t,q, .slice N Q O, .slice a n c]] w _;obtain ⟨R1,R2,R3,R4,C⟩:=JI r1 r2 r3 r4 r5;obtain ⟨R6,S4,KB,y⟩:=JG r6 s4 (Blk.new w 35 #[W,H, .slice T Y X,t,q, .slice N Q O, .slice a n c]) (zM (Below.refl w w) (.cells #[W,H, .slice T Y X,t,q, .slice N Q O, .slice a n c] 35));clear r1 r2 r3 r4 r5 r6 s4 d0;go_in;go_wp2_with fail;refine (yj W H T Y X xs _ R1.Z (by exact R2.Z.below y.Z) om).mono ?_;rintro e w1 ⟨rfl,hb⟩;have x:=Jh (zL y.Z hb);have z:=Jh (KB.Z.zA hb);clear hb;obtain ⟨F,c0,c1,c2,c3,c4,c5,c6⟩:=z.Z.c7;by_cases hp:zT W H xs 255=true
 case neg=>
  have b3:zT W H xs 255=false:=by simpa using hp
  have E:Hd (xg (⟨W,H,xs⟩,⟨t,q,ys⟩,zS ps)=false):=Jh (OU hp);rw [b3]
  go_wp2
  go_ret;exact ⟨zV E.Z.symm,x.Z⟩
 rw [hp];go_wp2_with fail;refine (jA t q N Q O ys _ R3.Z (by exact R4.Z.below x.Z) om).mono ?_;rintro e w2 ⟨rfl,hb⟩;have j:=Jh (zL x.Z hb);have J:=Jh (z.Z.zA hb);clear hb F c0 c1 c2 c3 c4 c5 c6;obtain ⟨F,c0,c1,c2,c3,c4,c5,c6⟩:=J.Z.c7;by_cases hm:yD t q ys=true
 case neg=>
  have b2:yD t q ys=false:=by simpa using hm
  have E:Hd (xg (⟨W,H,xs⟩,⟨t,q,ys⟩,zS ps)=false):=Jh (OT hm);rw [b2]
  go_wp2
  go_ret;exact ⟨zV E.Z.symm,j.Z⟩
 rw [hm];by_cases hz:n=0
 . have E:Hd (xg (⟨W,H,xs⟩,⟨t,q,ys⟩,zS ps)=true):=Jh (OQ hp hm (by rw [kU,C.Z];exact hz))
   subst hz
   go_wp2
   go_ret;exact ⟨zV E.Z.symm,j.Z⟩
 have b6:((n:Int)==0)=false:=sO
 have E0:xg (⟨W,H,xs⟩,⟨t,q,ys⟩,zS ps)=(xG (zS ps) && decide ((pv ps 0).W=W/\(pv ps 0).H=H)):=by
  rw [OV (d:=(⟨W,H,xs⟩,⟨t,q,ys⟩,zS ps)) hp hm (by rw [kU,C.Z];exact hz)];dsimp only;rw [ZV ps 0 (by rw [C.Z];omega)];rfl
 obtain ⟨b,off,b0,b1⟩:=(R6.Z.below j.Z).addr (by rw [C.Z];omega);subst b0;have RV:=Jh (R6.Z.below j.Z)
 have L:Hd (∀v,BelowL w2 v->Jc v (b,off) (pv ps 0).W/\Jc v (b,off+1) (pv ps 0).H):=Jh (fun v hv=>by
  obtain ⟨_,a0,a1,_⟩:=(RV.Z.below hv.Z).cells (k:=0) (by rw [C.Z];omega);simp only [Nat.zero_mul,Yy] at a0 a1
  exact ⟨a0,a1⟩)
 have I:Hd (∀v,BelowL w2 v->Calls prog 47 #[.slice (some ↑(b,off)) n c] v fun e v'=>e= .returned (.bool (xG (zS ps)))/\Below v.heap.size v v'):=Jh (fun v hv=>Bq (some ↑(b,off)) n c ps v C.Z (RV.Z.below hv.Z) om S4.Z);obtain ⟨U,A⟩: ∃U,(pv ps 0).W=U:=⟨_,rfl⟩
 obtain ⟨V,B⟩: ∃V,(pv ps 0).H=V:=⟨_,rfl⟩
 obtain ⟨K,hK⟩: ∃K,xG (zS ps)=K:=⟨_,rfl⟩
 rw [A,B] at L;rw [hK] at I;rw [A,B,hK] at E0;have E:=Jh E0;have u:Hd (∀v,BelowL w2 v->Jc v w W/\Jc v (w,1) H/\Jc v (w,6) (.slice (some ↑(b,off)) n c)/\Jc v (b,off) (.int .i64 U)/\Jc v (b,off+1) (.int .i64 V)/\BelowL w2 v):=Jh (fun v h=>⟨(h.Z.cell F).trans c0,(h.Z.cell F).trans c1,(h.Z.cell F).trans c6,(L.Z v h).1,(L.Z v h).2,h⟩);clear A B hK E0 hp hm;have n1:(0:Int)<(n:Int):=om;have n2:0<n:=om;go_upto_region 5 with fail;clear c0 c1 c2 c3 c4 c5 c6 F L KB z J y x R1 R2 R3 R4 b1;cases K with
 | false=>
  refine wp_region_held_drew (S:=u) zK (u.Z _ lS) ?_;intro f;refine hTs 0 ?_;refine hTs 1 ?_;refine yI 2 (fun K hK=>?_);go_simp
  go_at_call 47
  ((with_reducible refine (I.Z _ lS).mono ?_);rintro e v1 ⟨rfl,m⟩);have g:=BelowL.call lS m;have l:=Jh (zL j.Z g.Z);go_wp2_with fail;refine hK.out _ _ (Jd (u.Z _ g)) (fun f=>?_);clear hK K;refine yE ?_;refine hTs 3 ?_;refine hSs 4 ?_;refine hSs 5 ?_;refine hSs 6 ?_;refine hSs 7 ?_;refine hSs 8 ?_;refine hSs 9 ?_;refine hSs 10 ?_;refine hSs 11 ?_;refine yI 12 (fun K hK=>?_);go_simp;refine hK.out _ _ (by first | exact f | assumption) (fun f=>?_);clear hK K;refine yE ?_;refine hTs 13 ?_;refine hTs 14 ?_;refine hSs 15 ?_;refine hSs 16 ?_;refine hSs 17 ?_;refine hSs 18 ?_;refine hSs 19 ?_;refine hSs 20 ?_;refine hSs 21 ?_;refine hSs 22 ?_;refine yI 23 (fun K hK=>?_);go_simp;refine hK.out _ _ (by first | exact f | assumption) (fun f=>?_);clear hK K;refine yE ?_;refine hTs 24 ?_;refine hTs 25 ?_;refine wpAnyH_done zK ?_ _
  go_wp2
  go_ret;exact ⟨zV (by rw [E.Z];rfl),l.Z⟩
 | true=>
  by_cases A:U=W
  case neg=>
   have b4:(U==W)=false:=by simpa using A
   refine wp_region_held_drew (S:=u) zK (u.Z _ lS) ?_;intro f;refine hTs 0 ?_;refine hTs 1 ?_;refine yE ?_;refine yI 2 (fun K hK=>?_);go_simp
   go_at_call 47
   ((with_reducible refine (I.Z _ lS).mono ?_);rintro e v1 ⟨rfl,m⟩);have g:=BelowL.call lS m;have l:=Jh (zL j.Z g.Z);go_wp2_with fail;refine hK.out _ _ (Jd (u.Z _ g)) (fun f=>?_);clear hK K;refine yE ?_;refine hTs 3 ?_;refine hTs 4 ?_;refine hTs 5 ?_;refine hTs 6 ?_;refine hTs 7 ?_;refine hTs 8 ?_;refine hTs 9 ?_;refine hTs 10 ?_;refine hTs 11 ?_;refine yE ?_;refine hTs 12 ?_;refine hTs 13 ?_;refine hTs 14 ?_;refine yE ?_;refine hSs 15 ?_;refine hSs 16 ?_;refine hSs 17 ?_;refine hSs 18 ?_;refine hSs 19 ?_;refine hSs 20 ?_;refine hSs 21 ?_;refine hSs 22 ?_;refine yI 23 (fun K hK=>?_);go_simp;refine hK.out _ _ (by first | exact f | assumption) (fun f=>?_);clear hK K;refine yE ?_;refine hTs 24 ?_;refine hTs 25 ?_;refine yE ?_;refine wpAnyH_done zK ?_ _
   go_wp2
   go_ret;exact ⟨zV (by rw [E.Z];simp [A]),l.Z⟩
  subst A;by_cases B:V=H
  case neg=>
   have b5:(V==H)=false:=by simpa using B
   go_region_held3 (fun v=>Jc v w (.int .i64 U)/\Jc v (w,1) H/\Jc v (w,6) (.slice (some ↑(b,off)) n c)/\Jc v (b,off) (.int .i64 U)/\Jc v (b,off+1) (.int .i64 V)/\BelowL w2 v)
    (first | exact u.Z _ g | exact u.Z _ lS)
    (first
     | (go_at_call 47;((with_reducible refine (I.Z _ (Nu aS)).mono ?_);rintro e v1 ⟨rfl,m⟩;have g:=BelowL.call (Nu aS) m)))
   have l:=Jh (zL j.Z g.Z)
   go_wp2
   go_ret;exact ⟨zV (by rw [E.Z];simp [B]),l.Z⟩
  subst B
  go_region_held3 (fun v=>Jc v w (.int .i64 U)/\Jc v (w,1) (.int .i64 V)/\Jc v (w,6) (.slice (some ↑(b,off)) n c)/\Jc v (b,off) (.int .i64 U)/\Jc v (b,off+1) (.int .i64 V)/\BelowL w2 v)
   (first | exact u.Z _ g | exact u.Z _ lS)
   (first
    | (go_at_call 47;((with_reducible refine (I.Z _ (Nu aS)).mono ?_);rintro e v1 ⟨rfl,m⟩;have g:=BelowL.call (Nu aS) m)))
  have l:=Jh (zL j.Z g.Z)
  go_wp2
  go_ret;exact ⟨zV (by rw [E.Z];simp),l.Z⟩
end
theorem Fx: ∀ {l:List UInt8},(∃c,c ∈ l/\c.toNat=32)->2<=(jN l).length
 | [],h=>by obtain ⟨c,hc,_⟩:=h;cases hc
 | d::r,h=>by
  unfold jN;have hp:=List.length_pos_iff.2 (Cr r);split;rw [List.length_cons];omega;rename_i f
  have h2: ∃c,c ∈ r/\c.toNat=32:=by
   obtain ⟨c,hc,e⟩:=h;rcases List.mem_cons.1 hc with rfl | hc
   exact absurd e f;exact ⟨c,hc,e⟩
  have a:=Fx h2;split;rename_i b;rw [b] at a;simp at a;rename_i b;rw [b] at a;simpa using a
theorem zAI (h:(yS s).length=1):yS s=[s]/\ ∀c,c ∈ s.toList->c.toNat≠32:=by
 have hc:=Xx s;have hl:(jN s.data.toList).length=1:=by rw [<-hc];simp [yC,h]
 have no: ∀c,c ∈ s.data.toList->c.toNat≠32:=fun c hc e=>by
  have:=Fx ⟨c,hc,e⟩;omega
 refine ⟨IL ?_,by rw [Yf];exact no⟩;rw [hc,XY no];simp [yC]
set_option maxRecDepth 100000 in
theorem RY (D:Dsk) (s:ByteArray) (w:World) (hr:RdD w D) (hs:vK D) (ha:Cg D) (hz:s.size<=1048576):
 Calls prog 6 #[D.val, .string s] w (Jz w (uj D.dat s)):=by
 obtain ⟨HR,HS,HA⟩:=JF hr hs ha;obtain ⟨w0,hw0⟩:=zN ((w.alloc (.cells D.cells 35)).alloc (.cells ↑Zd 35):World);refine zBL ?_;intro KA KR HB0;have i8:Hd (w0.heap.size=w.heap.size+2):=Jh (by rw [hw0];simp);clear hr hs ha;show Calls prog 6 #[.agg ↑D, .string s] w _;go_in;go_upto_region 1 with fail;refine ym3 ?_;clear hw0;intro l0 c0 c1 c2 c3 c4 c5 c6;go_wp2_with fail;refine (Td D w0 (HR.Z.below HB0.Z) HS.Z HA.Z).mono ?_;rintro e w1 ⟨E,rfl,ho,hd,h4,hb⟩;obtain ⟨HD,b8,HEB,j0⟩:=JG hd h4 ho.bd hb.size;unfold Dsk.val;obtain ⟨w2,F⟩:=zN (w1.alloc (.cells E.cells 35):World);have j7:Hd (Blk w2 w1 35 ↑E):=Jh (by rw [F];exact Blk.new w1 _ _);have i0:Hd (yQ w2 w0 E):=Jh (by rw [F];exact ho.alloc _);have W:Hd (Below w0 w0 w2):=Jh (by rw [F];exact zM hb _);have j6:=Jh (KA.Z.zA W.Z);have k3:=Jh (KR.Z.zA W.Z);have j1:Hd (w2.heap.size=w1.heap.size+1):=Jh (by rw [F];simp);clear ho hd h4 hb l0 c0 c1 c2 c3 c4 c5 c6;go_upto_region 2 with fail;rw [show w1.alloc (.cells ↑E 35)=w2 from F.symm];clear F;obtain ⟨l0,c0,c1,c2,c3,c4,c5,c6⟩:=j6.Z.c7;go_wp2_with fail;refine (TP D w2 ((HR.Z.below HB0.Z).below W.Z) HS.Z).mono ?_;rintro e w3 ⟨rfl,hb⟩;obtain ⟨f8,Y,e3,h7⟩:=JG (j7.Z.zA hb) (k3.Z.zA hb) (i0.Z.below hb) (zL W.Z hb);have e7:Hd (Below w w w3):=Jh (Below.trans HB0.Z (h7.Z.mono HB0.Z.size));have j2:=Jh hb.size;clear hb l0 c0 c1 c2 c3 c4 c5 c6;have p5:=i8.Z;have p6:=j0.Z;have p7:=j1.Z;have p8:=j2.Z;by_cases hk:xg D.dat=true
 case neg=>
  have m1:xg D.dat=false:=by simpa using hk
  have B:Hd (uj D.dat s=(D.dat,OB)):=Jh (by unfold uj;rw [if_neg hk]);rw [m1];obtain ⟨l0,c0,c1,c2,c3,c4,c5,c6⟩:=f8.Z.c7;obtain ⟨r0,x0,x1,x2,x3,x4,x5,x6⟩:=Y.Z.c7;obtain ⟨f0,f1,f2,f3,f4,f5,f6⟩:=Y.Z.f7;go_wp2_with fail;refine bodyPost_ret (v:= .tuple #[E.val, .string ⟨#[98,97,100]⟩]) (by simp [results,results6,go_sem,Dsk.val,x0,x1,x2,x3,x4,x5,x6]) rfl ⟨E,by rw [B.Z];try rfl,?_,by rw [B.Z];exact HD.Z,b8.Z,?_⟩;have ho:yQ _ w E:=e3.Z.mono om
  with_reducible refine yQ.set7 ho ?_ _ _ _ _ _ _ _
  exact (fun b hb=>ho.ne_desk Y.Z b hb);exact yB e7.Z om _ _ _ _ _ _ _
 have h8:Hd (xg E.dat=true):=Jh (by rw [HD.Z];exact hk);rw [hk];go_wp2_with fail;refine (Rb s w3 hz).mono ?_;rintro e w4 ⟨ad,n,c,rfl,Q,hb⟩;obtain ⟨HRW,f,d6,KE4,KR4⟩:=JI Q Q.len (Xy s) (f8.Z.zA hb) (Y.Z.zA hb);obtain ⟨e4,HW4,j3⟩:=JF (e3.Z.below hb) (zL e7.Z (hb)) hb.size;have q0:=j3.Z;clear hb Q;have b5:ModIn w4 w0 E:=⟨e4.Z,b8.Z,h8.Z,om⟩
 have I:=Jh b5;clear b5;have p2:1<=n:=by rw [<-f.Z];exact d6.Z.1
 have p3:n<=1048577:=by have:=d6.Z.2;rw [f.Z] at this;omega
 obtain ⟨bw,V,k8,m0,M⟩:=HRW.Z.rd 0 (by rw [f.Z];omega);subst k8;rw [Yy] at M;obtain ⟨y,T⟩: ∃t,(yS s)[0]'(by rw [f.Z];omega)=t:=⟨_,rfl⟩
 rw [T] at M;have e6:Hd ((yS s).getD 0 ByteArray.empty=y):=Jh (by rw [Yh,Ya (by rw [f.Z];omega),T];rfl)
 have H:Hd (yS s=y::(yS s).tail):=Jh (by
  have h0:0<(yS s).length:=by rw [f.Z];omega
  cases hw:yS s with
  | nil=>rw [hw] at h0;simp at h0
  | cons a b=>simp only [hw] at T;rw [<-T];rfl)
 clear T;by_cases h1:n=1
 . have b6:((n:Int)==1)=true:=by rw [h1];rfl
   have O:=zAI (s:=s) (by rw [f.Z];exact h1)
   have d4:Hd (y=s):=Jh (by
    have e:=H.Z;rw [O.1] at e
    exact (List.cons.inj e).1.symm)
   have h6:Hd (∀c,c ∈ y.toList->c.toNat≠32):=Jh (by rw [d4.Z];exact O.2)
   have B:Hd (uj D.dat s=LJ y.toList E.dat):=Jh (by
    rw [zAf hk (by rw [f.Z];exact h1),d4.Z,HD.Z,Yf];unfold LJ;by_cases h0:s.size=0
    rw [if_pos h0,if_pos (by rw [Bp] at h0;exact List.eq_nil_of_length_eq_zero h0)];rw [if_neg h0,if_neg (fun e=>h0 (by rw [Bp,e];rfl))]
    cases wh s.data.toList <;>rfl)
   clear O;have m4:(0:Int)<(n:Int):=om;obtain ⟨l0,c0,c1,c2,c3,c4,c5,c6⟩:=KE4.Z.c7;go_upto_region 6 with fail;refine yA 7 (fun v=>JD v w1 E (Jc v (bw,V) (.string y))) zK ⟨c0,c1,c2,c3,c4,c5,c6,M⟩ ?_;intro l;clear c0 c1 c2 c3 c4 c5 c6;refine Ud ?_;refine tTs 3 ?_;refine zf 4 (fun K hK=>?_);go_simp;refine (show Calls prog _ _ _ (ModOut _ w0 E (LJ y.toList E.dat)) from Ti E y w4.drew w0 (I.Z.below bR.drew) h6.Z).mono ?_;rintro e v9 ⟨E9,rfl,ho9,hd9,hs9,hk9⟩;refine zDS ?_;intro HO9 HD9 HS9 HKB HB9 KR9 KE9
   have J:(JD v9 w1 E (Jc v9 (bw,V) (.string y)):Prop):=by
    obtain ⟨_,y0,y1,y2,y3,y4,y5,y6⟩:=KE9.Z.c7;refine zDj ?_;intro hwb hw9;exact ⟨y0,y1,y2,y3,y4,y5,y6,hw9 _ _ M⟩
   clear ho9 hd9 hs9 hk9;refine Ce ?_;intro r0 x0 x1 x2 x3 x4 x5 x6 f0 f1 f2 f3 f4 f5 f6;go_wp2_with fail;refine hK.out _ _ (fun _=>Jd (J)) (fun hHz=>?_);clear hK K l;have l:=hHz dC;clear hHz;refine tTs 5 ?_;refine tTs 6 ?_;refine zf 7 (fun K hK=>?_);refine ym14 ?_;clear hK K;refine Le ?_;(try go_simp);go_wp2_with fail;refine bodyPost_ret (v:= .tuple #[E9.val, .string ⟨(LJ y.toList E.dat).2.toArray⟩]) (by simp [results,results6,go_sem,Dsk.val,x0,x1,x2,x3,x4,x5,x6]) rfl ⟨E9,by rw [B.Z];try rfl,?_,by rw [B.Z];exact HD9.Z,HS9.Z,?_⟩;exact zBU;exact yB HB9.Z om _ _ _ _ _ _ _
 have b6:((n:Int)==1)=false:=sO;have m4:(0:Int)<(n:Int):=om;by_cases C:n=3/\y.toList=uQ
 . obtain ⟨h3,N⟩:=C
   have g4:((n:Int)==3)=true:=by rw [h3];rfl
   obtain ⟨n2,q2,e1,_,d0⟩:=HRW.Z.rd 1 (by rw [f.Z];omega);cases e1;obtain ⟨n3,q3,e2,_,d1⟩:=HRW.Z.rd 2 (by rw [f.Z];omega);cases e2;obtain ⟨s1,b0⟩: ∃t,(yS s)[1]'(by rw [f.Z];omega)=t:=⟨_,rfl⟩
   obtain ⟨s2,b1⟩: ∃t,(yS s)[2]'(by rw [f.Z];omega)=t:=⟨_,rfl⟩
   rw [b0] at d0;rw [b1] at d1;have e0:y=⟨#[100,105,102,102,117,115,101]⟩:=ByteArray.ext (Array.toList_inj.1 (by rw [<-Yf];exact N))
   have B:Hd (uj D.dat s=Aj s1.toList s2.toList E.dat):=Jh (by
    rw [HD.Z];refine Px hk ?_;have m3:(yS s).length=3:=by rw [f.Z];exact h3
    match hw:yS s,m3 with
    | [p,q,r],_=>
     simp only [hw] at b0 b1
     have hp:p=y:=by
      have e:=H.Z;rw [hw] at e;exact (List.cons.inj e).1
     have k6:q=s1:=b0;have k7:r=s2:=b1;rw [hp,k6,k7];show [y.data.toList,s1.data.toList,s2.data.toList]=_
     rw [<-Yf,<-Yf,<-Yf,N])
   clear b0 b1 N;subst e0;have n0:(1:Int)<(n:Int):=om;have n1:(2:Int)<(n:Int):=om;obtain ⟨l0,c0,c1,c2,c3,c4,c5,c6⟩:=KE4.Z.c7;go_upto_region 8 with fail;refine yA 10 (fun v=>JD v w1 E (Jc v (bw,V+1) (.string s1)/\Jc v (bw,V+2) (.string s2))) zK ⟨c0,c1,c2,c3,c4,c5,c6,d0,d1⟩ ?_;intro l;clear c0 c1 c2 c3 c4 c5 c6;refine Ud ?_;refine tTs 3 ?_;refine tTs 4 ?_;refine tTs 5 ?_;refine tTs 6 ?_;refine zf 7 (fun K hK=>?_);go_simp;refine (show Calls prog _ _ _ (ModOut _ w0 E (Aj s1.toList s2.toList E.dat)) from LY E s1 s2 w4.drew w0 (I.Z.below bR.drew)).mono ?_;rintro e v9 ⟨E9,rfl,ho9,hd9,hs9,hk9⟩;refine zDS ?_;intro HO9 HD9 HS9 HKB HB9 KR9 KE9
   have J:(JD v9 w1 E (Jc v9 (bw,V+1) (.string s1)/\Jc v9 (bw,V+2) (.string s2)):Prop):=by
    obtain ⟨_,y0,y1,y2,y3,y4,y5,y6⟩:=KE9.Z.c7;refine zDj ?_;intro hwb hw9;exact ⟨y0,y1,y2,y3,y4,y5,y6,hw9 _ _ d0,hw9 _ _ d1⟩
   clear ho9 hd9 hs9 hk9;refine Ce ?_;intro r0 x0 x1 x2 x3 x4 x5 x6 f0 f1 f2 f3 f4 f5 f6;go_wp2_with fail;refine hK.out _ _ (fun _=>Jd (J)) (fun hHz=>?_);clear hK K l;have l:=hHz dC;clear hHz;refine tTs 8 ?_;refine tTs 9 ?_;refine zf 10 (fun K hK=>?_);refine ym14 ?_;clear hK K;refine zf 11 (fun K hK=>?_);refine ym14 ?_;clear hK K;refine yG zK ?_ _;(try go_simp);go_wp2_with fail;refine bodyPost_ret (v:= .tuple #[E9.val, .string ⟨(Aj s1.toList s2.toList E.dat).2.toArray⟩]) (by simp [results,results6,go_sem,Dsk.val,x0,x1,x2,x3,x4,x5,x6]) rfl ⟨E9,by rw [B.Z];try rfl,?_,by rw [B.Z];exact HD9.Z,HS9.Z,?_⟩;exact zBU;exact yB HB9.Z om _ _ _ _ _ _ _
 have e5:Hd (uj D.dat s=match uS (yC (yS s).tail) with | none=>(D.dat,qR) | some xs=>ZT y.toList xs D.dat):=Jh (by
  rw [nN hk (by rw [f.Z];omega) (by
   rw [f.Z,e6.Z,<-Yf];exact C),e6.Z,<-Yf]
  cases uS (yC (yS s).tail) with
  | none=>rfl
  | some xs=>rfl)
 obtain ⟨m,rfl⟩: ∃m,n=m+1:=⟨n - 1,om⟩
 go_upto_region 7 with fail
 go_cut [39] (fun m6 wx=>m6= .bool false/\wx=w4)
 . by_cases h3:m=2
   . have g4:((((m+1:Nat):Nat):Int)==3)=true:=by rw [h3];rfl
     have g5:((m:Int)+1==3)=true:=by rw [h3];rfl
     have N: ¬y.toList=[100,105,102,102,117,115,101]:=fun e=>C ⟨om,e⟩;have n5:(y.toList==[100,105,102,102,117,115,101])=false:=by rw [beq_eq_false_iff_ne];exact N
     clear C
     go_wp2
     go_meet;exact ⟨rfl,rfl⟩
   have g4:((((m+1:Nat):Nat):Int)==3)=false:=sO;have g5:((m:Int)+1==3)=false:=sO;clear C
   go_wp2
   go_meet;exact ⟨rfl,rfl⟩
 obtain ⟨rfl,rfl⟩:=hcut;have n8:1<=m:=om;clear C b6 h1;have p0:(1:Int)<=(m:Int)+1:=om;have b4:=HRW.Z.2
 have p1:m+1<=c:=by
  rcases b4 with ⟨e,_⟩ | ⟨g,cp,n4,e,_,_,h2,_⟩
  cases e;cases e;exact h2
 clear b4;have m7:(1:Int)<=(c:Int):=om;have m8:((m:Int)+1)<=(c:Int):=om;have p4: ¬c=1:=om;go_upto_region 10 with fail;obtain ⟨w5,U⟩:=zN (wc.alloc (.cells #[] 3):World);have d7:Hd (OwnA w5 wc.heap.size ↑wc 0 0 []):=Jh (by rw [U];exact (RowA.mk (qO wc 3 1) nI).toOwn6);have d3:Hd (Below wc wc w5):=Jh (by rw [U];exact nJ);have j4:Hd (w5.heap.size=wc.heap.size+1):=Jh (by rw [U];simp);rw [<-U];clear U
 go_wp2
 go_loopw [8,54] (fun v i wr=> ∃(k:Nat) (a:Option Addr) (cp:Nat) (xs:List Int),k<=m/\i=↑k/\v= .slice a k cp/\OwnA wr wc a k cp xs/\(∀j,j<k->jT ((yC (yS s).tail).getD j [])=some (xs.getD j 0))/\(∀x,x ∈ xs->yg x)/\Below wc wc wr) (fun _ i _=>m - (intOf i).toNat)
 exact ⟨0,_,0,[],nZ,rfl,rfl,d7.Z,fun j hj=>om,fun x hx=>by simp at hx,d3.Z⟩;obtain ⟨k,a,cp,xs,n6,rfl,rfl,P,b7,h5,g2⟩:=hrel;obtain ⟨HN,HV,i7,A,X⟩:=JI P b7 h5 g2 P.len;clear P b7 h5 g2 d7 d3 j4;obtain ⟨g0,k4,d5,i6,j5⟩:=JI (KE4.Z.zA A.Z) (KR4.Z.zA A.Z) (I.Z.below A.Z) (zL HW4.Z A.Z) A.Z.size;have k0:(0:Int)<=(k:Int):=om;by_cases n7:k<m
 . have k1:(k:Int)<(m:Int):=om
   obtain ⟨b',o',e',_,d2⟩:=(HRW.Z.rd.below A.Z) (k+1) (by rw [f.Z];omega)
   cases e';obtain ⟨sk,b2⟩: ∃t,(yS s)[k+1]'(by rw [f.Z];omega)=t:=⟨_,rfl⟩
   rw [b2,show V+(k+1)=V+1+k by omega] at d2
   have g8:sk.size<=1048576:=by
    have:=WA s sk (by rw [<-b2];exact List.getElem_mem _);omega
   have e8:Hd ((yC (yS s).tail).getD k []=sk.data.toList):=Jh (by
    have m2:k+1<(yS s).length:=by rw [f.Z];omega
    have e:(yC (yS s).tail).getD k []=(yC (yS s)).getD (k+1) []:=by
     rw [Ky];cases yC (yS s) with
     | nil=>rfl
     | cons p q=>rfl
    rw [e,<-XG,Yh,Ya m2,b2]
    rfl)
   clear b2;go_wp2_with fail;refine (Nq sk _ g8).mono ?_;rintro e w6 ⟨L,⟨g6,rfl⟩ | ⟨v,hv,m5,rfl⟩⟩
   . have z:=Jh (zL A.Z L)
     have B:Hd (uj D.dat s=(D.dat,qR)):=Jh (by rw [e5.Z,VZ _ k (by unfold yC;rw [List.length_map,List.length_tail,f.Z];omega) (by rw [e8.Z];exact g6)]);obtain ⟨j8,c8,i1,i4⟩:=JG (KE4.Z.zA z.Z) (KR4.Z.zA z.Z) (e4.Z.below z.Z) (zL HW4.Z z.Z);clear L g6 d2;obtain ⟨l0,c0,c1,c2,c3,c4,c5,c6⟩:=j8.Z.c7;obtain ⟨r0,x0,x1,x2,x3,x4,x5,x6⟩:=c8.Z.c7;obtain ⟨f0,f1,f2,f3,f4,f5,f6⟩:=c8.Z.f7;go_wp2_with fail;refine bodyPost_ret (v:= .tuple #[E.val, .string ⟨#[119,104,97,116]⟩]) (by simp [results,results6,go_sem,Dsk.val,x0,x1,x2,x3,x4,x5,x6]) rfl ⟨E,by rw [B.Z];try rfl,?_,by rw [B.Z];exact HD.Z,b8.Z,?_⟩;have ho:yQ _ w E:=i1.Z.mono om
     with_reducible refine yQ.set7 ho ?_ _ _ _ _ _ _ _
     exact (fun b hb=>ho.ne_desk c8.Z b hb);exact yB i4.Z om _ _ _ _ _ _ _
   have z:=Jh (zL A.Z L);have d8:=Jh (HN.Z.zA L);have i3:=Jh hv;clear L hv d2;go_wp2_with (at_builtin;refine qQ _ rfl (.tmp 66) (.tmp 68) rfl wc k cp a xs rfl (d8.Z.alloc _) w6.heap.size v rfl (by go_simp) om (oS z.Z.size) ?_;intro k5 g1 w7 g7 g3);have i5:=Jh ((z.Z.alloc z.Z.size _).grown g3 (oS z.Z.size) (fun b hb=>(d8.Z.bd b hb).1));have i2:=Jh g7;clear g7 g3;go_roundw
   . exact ⟨k+1,k5,g1,xs++ [v],om,by go_num,rfl,i2.Z,fun j hj=>by
     by_cases e:j<k
     rw [HV.Z j e];congr 1;simp [List.getD,List.getElem?_append,show j<xs.length by rw [X.Z];exact e];obtain rfl:j=k:=om;rw [e8.Z,i3.Z];congr 1;simp [List.getD,List.getElem?_append,X.Z],fun x hx=>by
     rcases List.mem_append.1 hx with hx | hx
     exact i7.Z x hx
     simp at hx;rw [hx];exact m5,i5.Z⟩
   exact Jm
 obtain rfl:k=m:=om;have q1:=j5.Z;have B:Hd (uj D.dat s=ZT y.toList xs E.dat):=Jh (by rw [e5.Z,BR _ xs (by unfold yC;rw [List.length_map,List.length_tail,f.Z,X.Z];omega) (fun j hj=>HV.Z j (by unfold yC at hj;rw [List.length_map,List.length_tail,f.Z] at hj;omega)),HD.Z]);have b3:wr.cell? (bw,V)=some (.string y):=(A.Z.cell m0).trans M
 have CC:Hd (Calls prog 23 #[E.val, .string y, .slice a k cp] wr.drew (ModOut wr.drew w0 E (ZT y.toList xs E.dat))):=Jh (by
  have h:=Tc E y.toList a k cp xs wr.drew w0 (d5.Z.below bR.drew) X.Z (HN.Z.rd.below bR.drew) om;have e:(⟨y.toList.toArray⟩:ByteArray)=y:=ByteArray.ext (Array.toList_inj.1 (by rw [Yf]));rw [e] at h
  exact h)
 have k2: ¬(k:Int)<(k:Int):=om;obtain ⟨l0,c0,c1,c2,c3,c4,c5,c6⟩:=g0.Z.c7;go_upto_region 18 with fail;refine yA 8 (fun v=>JD v w1 E (Jc v (bw,V) (.string y))) zK ⟨c0,c1,c2,c3,c4,c5,c6,b3⟩ ?_;intro l;clear c0 c1 c2 c3 c4 c5 c6;refine Ud ?_;refine tTs 3 ?_;refine tTs 4 ?_;refine zf 5 (fun K hK=>?_);go_simp;refine (show Calls prog _ _ _ (ModOut _ w0 E (ZT y.toList xs E.dat)) from CC.Z).mono ?_;refine Lf ?_;intro v9 E9 ho9 hd9 hs9 hk9 HO9 HD9 HS9;have HKB:Hd (Below w0 wr.drew v9):=Jh (hk9.below (fun i hi=>(HEB.Z i hi).1) (by show w0.heap.size<=wr.heap.size;omega));have HB9:Hd (Below w w v9):=Jh (Below.trans i6.Z ((Below.trans (Below.refl w0 wr).drew HKB.Z).mono om));have KR9:Hd (Blk v9 (w.heap.size+1) 35 ↑Zd):=Jh (hk9.blk (k4.Z).drew (fun h=>by have:=HEB.Z _ h;omega));have KE9:Hd (Blk v9 w1 35 ↑E):=Jh (hk9.blk (g0.Z).drew (fun h=>by have:=HEB.Z _ h;omega))
 have J:(JD v9 w1 E (Jc v9 (bw,V) (.string y)):Prop):=by
  obtain ⟨_,y0,y1,y2,y3,y4,y5,y6⟩:=KE9.Z.c7;have hwb:=HRW.Z.block bw rfl;have hw9: ∀(i:Nat) (u:Value),wr.cell? (bw,i)=some u->v9.cell? (bw,i)=some u:=fun i u hu=>(World.cell?_of_block (hk9.block bw (by show bw<wr.heap.size;omega) (fun h=>by have:=HEB.Z _ h;omega))).trans hu;exact ⟨y0,y1,y2,y3,y4,y5,y6,hw9 _ _ b3⟩
 clear ho9 hd9 hs9 hk9;refine Ce ?_;intro r0 x0 x1 x2 x3 x4 x5 x6 f0 f1 f2 f3 f4 f5 f6;go_wp2_with fail;refine hK.out _ _ (fun _=>Jd (J)) (fun hHz=>?_);clear hK K l;have l:=hHz dC;clear hHz;refine tTs 6 ?_;refine tTs 7 ?_;refine zf 8 (fun K hK=>?_);refine ym14 ?_;clear hK K;refine zf 9 (fun K hK=>?_);refine ym14 ?_;clear hK K;refine yG zK ?_ _;(try go_simp);go_wp2_with fail;refine bodyPost_ret (v:= .tuple #[E9.val, .string ⟨(ZT y.toList xs E.dat).2.toArray⟩]) (by simp [results,results6,go_sem,Dsk.val,x0,x1,x2,x3,x4,x5,x6]) rfl ⟨E9,by rw [B.Z];try rfl,?_,by rw [B.Z];exact HD9.Z,HS9.Z,?_⟩;exact zBU;exact yB HB9.Z om _ _ _ _ _ _ _
end Go.Proofs.YtlenfgdjdianiaaGreatDoor
