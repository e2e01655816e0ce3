/- Facts on which this claim rests, 9. -/
import Derived.HandedShaped
import Derived.Lay
import Derived.Lib.AtoiErrMem
import Derived.Lib.ItoaNum
import Derived.PinnedBridge
import Derived.Shelf.Vars
import Derived.Stop.LaidErr
import Derived.Test.YtlenfgdjdianiaaGreatDoorCards
import Derived.Test.YtlenfgdjdianiaaGreatDoorTie
import Derived.Test.YtlenfgdjdianiaaGreatDoorG7
import Derived.Test.YtlenfgdjdianiaaGreatDoorG8
set_option linter.all false
set_option maxHeartbeats 6400000
namespace Go.Proofs.YtlenfgdjdianiaaGreatDoor
section
open Go.RowKit Tq Go.Proofs.Tryz
variable {B g : Nat} {w w' : World}
theorem QV:(prog.info? 31).map (fun i=>(i.zero,i.size,i.bytes))=some (some (.agg ↑Zp),3,40):=zK
structure Cg (D:Dsk):Prop where
 p: ∃b off,D.P.a=some ⟨b,off,none⟩
 m: ∃b off,D.M.a=some ⟨b,off,none⟩
 s: ∀k,k<D.ps.length-> ∃b off,(pv D.ps k).a=some ⟨b,off,none⟩
theorem yQ.keepZ {S:Nat->Prop} {D:Dsk} (h:yQ w B D) (hk:KeepT S w w') (a: ∀b,S b->D.blocks b->False):yQ w' B D:=
 ⟨hk.ownA h.p (fun b hb e=>a b e (.inl hb)),hk.ownA h.m (fun b hb e=>a b e (.inr (.inl hb))),hk.ownV h.s (fun b hb e=>a b e (.inr (.inr hb))),h.pm,h.ps,h.ms⟩
theorem ZE (w:World) (g:Nat) (a b c e f j l:Value):KeepT (fun i=>i=g) w (((((((w.setCell g a).setCell (g,1) b).setCell (g,2) c).setCell (g,3) e).setCell (g,4) f).setCell (g,5) j).setCell (g,6) l):=by
 have q: ∀ {u:World} (i:Nat) (v:Value),KeepT (fun i=>i=g) w u->KeepT (fun i=>i=g) w (u.setCell (g,i) v):=fun i v k=>KeepT.set (S:=fun i=>i=g) k rfl v;exact q 6 l (q 5 j (q 4 f (q 3 e (q 2 c (q 1 b (q 0 a (KeepT.refl _ w)))))))
theorem yQ.set7 {D:Dsk} (h:yQ w B D) (hg: ∀b,D.blocks b->b≠g) (a c f i j k l:Value):
 yQ (((((((w.setCell g a).setCell (g,1) c).setCell (g,2) f).setCell (g,3) i).setCell (g,4) j).setCell (g,5) k).setCell (g,6) l) B D:=
 h.keepZ (ZE w g a c f i j k l) (fun b e hb=>hg b hb e)
def zBl (w0 wx:World) (W H:Int) (n:Nat) (xs:List Int) (mW mH:Int) (ma:Option Addr) (mn mc:Nat) (s:Value):Prop:=
 ∃gb a c,s= .pointer (some ⟨gb,0,none⟩)/\Blk wx gb 35 #[W,H, .slice a n c,mW,mH, .slice ma mn mc, .slice none 0 0]/\w0.heap.size<=gb/\OwnA wx w0 a n c xs/\(∀b,zO a=some b->b≠gb)/\Below w0 w0 wx
set_option maxRecDepth 100000 in
theorem BK (D:Dsk) (w:World) (hr:RdD w D) (hs:vK D) (ha:Cg D):Calls prog 27 #[D.val] w (WG w D.dat):=by
 obtain ⟨r1,r2,r3,r4,r5,r6⟩:=hr;obtain ⟨s1,s2,s3,s4⟩:=hs;obtain ⟨⟨b1,o1,n7⟩,⟨b2,o2,n8⟩,O⟩:=ha;obtain ⟨⟨W,H,pa,A,pc,xs⟩,⟨I,F,ma,C,mc,ys⟩,a,n,c,ps⟩:=D;dsimp only at*;subst n7 n8;obtain ⟨R1,R2,R3,R4,R5⟩:=JI r1 r2 r3 r4 r5;obtain ⟨R6,S4,A3⟩:=JF r6 s4 O;obtain ⟨w0,U⟩:=zN ((w.alloc (.cells #[W,H, .slice (some ↑(b1,o1)) A pc,I,F, .slice (some ↑(b2,o2)) C mc, .slice a n c] 35)).alloc (.cells ↑Zd 35));have KA:Hd (Blk w0 w 35 #[W,H, .slice (some ↑(b1,o1)) A pc,I,F, .slice (some ↑(b2,o2)) C mc, .slice a n c]):=Jh (by rw [U];exact (Blk.new w _ _).alloc _);have KR:Hd (Blk w0 (w.heap.size+1) 35 ↑Zd):=Jh (by rw [U];exact Blk.zD _ _ sI);have h0:Hd (Below w w w0):=Jh (by rw [U];exact zM (zM bR _) _);have g1:Hd (w0.heap.size=w.heap.size+2):=Jh (by rw [U];simp);clear r1 r2 r3 r4 r5 r6 s4 O;show Calls prog 27 #[.agg #[W,H, .slice (some ↑(b1,o1)) A pc,I,F, .slice (some ↑(b2,o2)) C mc, .slice a n c]] w _;go_in;go_upto_region 1 with fail;rw [<-U];clear U;obtain ⟨N,c0,c1,c2,c3,c4,c5,c6⟩:=KA.Z.c7
 go_cut [3] (fun s3 wx=>zBl w0 wx W H A xs I F (some ↑(b2,o2)) C mc s3)
 . have V:Hd (∀v,BelowL w0 v->Jc v w W/\Jc v (w,1) H/\Jc v (w,2) (.slice (some ↑(b1,o1)) A pc)/\Jc v (w,3) I/\Jc v (w,4) F/\Jc v (w,5) (.slice (some ↑(b2,o2)) C mc)/\BelowL w0 v):=Jh (fun v h=>⟨(h.Z.cell N).trans c0,(h.Z.cell N).trans c1,(h.Z.cell N).trans c2,(h.Z.cell N).trans c3,(h.Z.cell N).trans c4,(h.Z.cell N).trans c5,h⟩)
   clear c0 c1 c2 c3 c4 c5 c6;have CU:Hd (∀v,BelowL w0 v->Calls prog 68 #[.agg #[W,H, .slice (some ↑(b1,o1)) A pc]] v (Ch v W H A xs)):=Jh (fun v hv=>wZ W H b1 o1 A pc xs v R1.Z ((R2.Z.below h0.Z).below hv.Z) om);refine wp_region_held_drew (S:=fun v=>Jc v w W/\Jc v (w,1) H/\Jc v (w,2) (.slice (some ↑(b1,o1)) A pc)/\Jc v (w,3) I/\Jc v (w,4) F/\Jc v (w,5) (.slice (some ↑(b2,o2)) C mc)/\BelowL w0 v) zK (V.Z _ lS) ?_;intro f;refine hTs 0 ?_;refine hTs 1 ?_;refine hTs 3 ?_;refine hTs 4 ?_;refine wpAnyH_ready (rs:=[2,6]) zK sI ?_;refine AllReadyH.cons rfl (fun K hK=>?_) (AllReadyH.cons rfl (fun K hK=>?_) AllReadyH.nil)
   . go_simp
     go_at_call 68
     ((with_reducible refine (CU.Z _ lS).mono ?_);rintro e v1 ⟨a1,k1,rfl,b0,E⟩);have m:=BelowL.call lS E;go_wp2_with fail;refine hK.out _ _ (Jd (V.Z _ m)) (fun f=>?_);clear hK K;refine yE ?_;refine hTs 5 ?_;refine yI 6 (fun K hK=>?_);go_simp;have J:=BelowL.alloc m (.cells ↑Zd 35);refine hK.out _ _ (Jd (V.Z _ J)) (fun f=>?_);clear hK K;refine yE ?_;refine yI 7 (fun K hK=>?_);go_simp;have l:=BelowL.alloc m (.cells #[W,H, .slice a1 A k1,I,F, .slice (some ↑(b2,o2)) C mc, .slice none 0 0] 35);refine hK.out _ _ (Jd (V.Z _ l)) (fun f=>?_);clear hK K;refine yE ?_;refine wpAnyH_done zK ?_ _
     go_wp2
     go_meet;exact ⟨v1.heap.size,a1,k1,rfl,Blk.new _ _ _,m.le,(b0.alloc _).mono nI,fun b hb e=>by have:=b0.bd b hb;omega,l.Z⟩
   go_simp;have t:BelowL w0 (w0.alloc (.cells ↑Zd 35)).drew:=BelowL.mk (zM bR _).drew;have q3:Blk (w0.alloc (.cells ↑Zd 35)).drew w0.heap.size 35 ↑Zd:=(Blk.new _ _ _).drew;refine hK.out _ _ (Jd (V.Z _ t)) (fun f=>?_);clear hK K;refine yE ?_;refine yI 2 (fun K hK=>?_);go_simp
   go_at_call 68
   ((with_reducible refine (CU.Z _ t).mono ?_);rintro e v1 ⟨a1,k1,rfl,b0,E⟩);have m:=BelowL.call t E;have g7:=q3.zA E;have q6:w0.heap.size+1<=v1.heap.size:=by have:=E.size;simpa using this
   go_wp2_with fail;refine hK.out _ _ (Jd (V.Z _ m)) (fun f=>?_);clear hK K;refine yE ?_;refine hTs 5 ?_;obtain ⟨m0,d0,d1,d2,d3,d4,d5,d6⟩:=g7.c7;obtain ⟨f0,f1,f2,f3,f4,f5,f6⟩:=g7.f7;refine yI 7 (fun K hK=>?_);go_simp;have l:BelowL w0 _:=BelowL.mk (yB m.Z (Nat.le_refl w0) ↑W ↑H (.slice a1 A k1) ↑I ↑F (.slice (some ↑(b2,o2)) C mc) (.slice none 0 0));refine hK.out _ _ (Jd (V.Z _ l)) (fun f=>?_);clear hK K;refine yE ?_;refine wpAnyH_done zK ?_ _
   go_wp2
   go_meet;exact ⟨w0.heap.size,a1,k1,rfl,g7.put7 _ _ _ _ _ _ _,nI,OwnA.mono (Sz b0 sI _ _ _ _ _ _ _) sI,fun b hb e=>by have:=b0.bd b hb;simp at this;omega,l.Z⟩
 obtain ⟨gb,a1,k1,rfl,kb,p5,ho,j6,hb⟩:=hcut;obtain ⟨w1,p8⟩:=zN wc;subst p8;obtain ⟨e5,g2,i7,g4,h7⟩:=JI (zL h0.Z hb) (KA.Z.zA hb) (KR.Z.zA hb) kb (ho.mono (B':=w.heap.size) (oh g1));have h6:=Jh j6;have HG:Hd (w.heap.size+2<=gb):=Jh (oh g1);have f8:=Jh ho.bd;clear hb kb ho j6 p5 KA KR N c0 c1 c2 c3 c4 c5 c6;obtain ⟨N,c0,c1,c2,c3,c4,c5,c6⟩:=g2.Z.c7;go_wp2_with fail;refine (DU b2 o2 C mc ys _ R3.Z (by exact R4.Z.below e5.Z) om).mono ?_;rintro e w2 ⟨a2,k2,rfl,ho,hb⟩;obtain ⟨h3,g3,i8,b6,h8⟩:=JI (zL e5.Z hb) (g2.Z.zA hb) (i7.Z.zA hb) (g4.Z.zA hb) (h7.Z.zA hb);obtain ⟨h4,e7,i3,e8⟩:=JG ho g4.Z.lt hb.size ho.bd;clear hb ho g2 i7 g4 h7 e5 N c0 c1 c2 c3 c4 c5 c6;obtain ⟨N,c0,c1,c2,c3,c4,c5,c6⟩:=g3.Z.c7;obtain ⟨m0,d0,d1,d2,d3,d4,d5,d6⟩:=b6.Z.c7;obtain ⟨f0,f1,f2,f3,f4,f5,f6⟩:=b6.Z.f7;obtain ⟨v2,z⟩:=zN (w2.setCell (gb,5) (.slice a2 C k2));have p4:=HG.Z;have i1:Hd (Below w w v2):=Jh (by rw [z];exact h3.Z.setCell sO _);have i5:Hd (Blk v2 w 35 #[W,H, .slice (some ↑(b1,o1)) A pc,I,F, .slice (some ↑(b2,o2)) C mc, .slice a n c]):=Jh (by rw [z];exact g3.Z.other sO _);have j0:Hd (Blk v2 (w.heap.size+1) 35 ↑Zd):=Jh (by rw [z];exact i8.Z.other sO _);have i6:Hd (Blk v2 gb 35 #[W,H, .slice a1 A k1,I,F, .slice a2 C k2, .slice none 0 0]):=Jh (by rw [z];exact b6.Z.putR _);have i0:Hd (OwnA v2 w a1 A k1 xs):=Jh (by rw [z];exact h8.Z.zG (fun e=>h6.Z _ e rfl) _);have h5:Hd (OwnA v2 w1 a2 C k2 ys):=Jh (by rw [z];exact h4.Z.zG (fun e=>by have:=e8.Z _ e;have:=e7.Z;simp at*;omega) _);have i4:Hd (v2.heap.size=w2.heap.size):=Jh (by rw [z];simp);go_wp2_with fail;rw [<-z];clear z p4 g3 i8 b6 h8 h4 h3 N c0 c1 c2 c3 c4 c5 c6 m0 d0 d1 d2 d3 d4 d5 d6 f0 f1 f2 f3 f4 f5 f6
 go_loopw [21] (fun i wr=> ∃(k:Nat) (Q:List PV) (a':Option Addr) (c':Nat),k<=n/\i=↑k/\Q.length=k/\(∀j,j<k->(pv Q j).W=(pv ps j).W/\(pv Q j).H=(pv ps j).H/\(pv Q j).ink=(pv ps j).ink/\(pv Q j).n=(pv ps j).n)/\
  Blk wr gb 35 #[W,H, .slice a1 A k1,I,F, .slice a2 C k2, .slice a' k c']/\OwnV wr w2 a' k c' Q/\OwnA wr w a1 A k1 xs/\OwnA wr w1 a2 C k2 ys/\
  Blk wr w 35 #[W,H, .slice (some ↑(b1,o1)) A pc,I,F, .slice (some ↑(b2,o2)) C mc, .slice a n c]/\Blk wr (w.heap.size+1) 35 ↑Zd/\Below w w wr/\w2.heap.size<=wr.heap.size) (fun i _=>n - (intOf i).toNat)
 exact ⟨0,[],none,0,nZ,rfl,rfl,fun j hj=>om,i6.Z,OwnV.nil _ _,i0.Z,h5.Z,i5.Z,j0.Z,i1.Z,by have:=i4.Z;omega⟩;obtain ⟨k,Q,a',c',hk,rfl,k7,k6,j3,k5,k4,j8,j2,j4,b7,q0⟩:=hrel;obtain ⟨KG,HV,HP,HM,KA⟩:=JI j3 k5 k4 j8 j2;obtain ⟨KR,HB,HQ,HE⟩:=JG j4 b7 k7 k6;clear k6 j3 k5 k4 j8 j2 j4 b7 k7 i6 i0 h5 i5 j0 i1;by_cases Y:k<n
 . obtain ⟨N,c0,c1,c2,c3,c4,c5,c6⟩:=KA.Z.c7
   have RV:=Jh (R6.Z.below HB.Z);obtain ⟨b,off,p3,q5⟩:=RV.Z.addr (by rw [R5.Z];omega);subst p3;obtain ⟨_,p0,p1,p2⟩:=RV.Z.cells (k:=k) (by rw [R5.Z];exact Y);have d8:=RV.Z.rd (k:=k) (by rw [R5.Z];exact Y);have d7:=RV.Z.len (k:=k) (by rw [R5.Z];exact Y);have g8:=S4.Z k (by rw [R5.Z];exact Y);obtain ⟨b3,o3,O⟩:=A3.Z k (by rw [R5.Z];exact Y);obtain ⟨q,hq⟩: ∃q,pv ps k=q:=⟨_,rfl⟩
   have m8:=Jh hq;rw [hq] at p0 p1 p2 d8 d7 g8 O;obtain ⟨qW,qH,qa,qn,qc,qi⟩:=q;dsimp only at p0 p1 p2 d8 d7 g8 O;subst O;have RD:=Jh d8;have LN:=Jh d7;have k0:(0:Int)<=(k:Int):=om;have q8:(k:Int)<(n:Int):=om;clear hq d8 d7;go_upto_region 6 with fail;clear N c0 c1 c2 c3 c4 c5 c6 p0 p1 p2;obtain ⟨w5,c8⟩:=zN (wr.alloc (.cells #[qW,qH, .slice (some ↑(b3,o3)) qn qc] 31));have KT:Hd (Blk w5 wr 31 #[qW,qH, .slice (some ↑(b3,o3)) qn qc]):=Jh (by rw [c8];exact Blk.new _ _ _);have y:Hd (Below wr wr w5):=Jh (by rw [c8];exact nJ);rw [<-c8];clear c8;obtain ⟨g5,i2,m5,m3,n2⟩:=JI (KG.Z.zA y.Z) (HV.Z.below y.Z) (HP.Z.zA y.Z) (HM.Z.zA y.Z) (KA.Z.zA y.Z);obtain ⟨n4,m1,n6,q4⟩:=JG (KR.Z.zA y.Z) (zL HB.Z y.Z) (RD.Z.below y.Z) g5.Z.lt;obtain ⟨t0,e0,e1,e2⟩:=KT.Z.c3;obtain ⟨g0,d0,d1,d2,d3,d4,d5,d6⟩:=g5.Z.c7;have V:Hd (∀v,BelowL w5 v->Jc v (gb,6) (.slice a' k c')/\Jc v wr qW/\Jc v (wr,1) qH/\Jc v (wr,2) (.slice (some ↑(b3,o3)) qn qc)/\BelowL w5 v):=Jh (fun v h=>⟨(h.Z.cell g0).trans d6,(h.Z.cell t0).trans e0,(h.Z.cell t0).trans e1,(h.Z.cell t0).trans e2,h⟩);clear g0 d0 d1 d2 d3 d4 d5 d6 t0 e0 e1 e2;refine yA 5 V zK (V.Z _ lS) ?_;intro f;have t:=Kl f;refine zP 0 ?_;refine zP 1 ?_;refine zP 2 ?_;refine zf 3 (fun K hK=>?_);go_simp
   go_at_call 68
   ((with_reducible refine (wZ qW qH b3 o3 qn qc qi _ LN.Z (n6.Z.below t.Z) g8).mono ?_);rintro e v1 ⟨a3,k3,rfl,b8,E⟩);have m:=BelowL.call t E;go_wp2_with fail;refine hK.out _ _ (fun _=>Jd (V.Z _ m)) (fun hH2=>?_);clear hK K f;have f:=hH2 dC;refine zf 4 (fun K hK=>?_);go_simp;have l:=BelowL.alloc m (.cells #[qW,qH, .slice a3 qn k3] 31);refine hK.out _ _ (fun _=>Jd (V.Z _ l)) (fun hH2=>?_);clear hK K f;refine zf 5 (fun K hK=>?_);have b5:=Jh (i2.Z.below l.Z);have q2:w2.heap.size<=w5.heap.size:=Yx q0 y.Z.size;refine CV _ (by rfl) 33 underlying33 QV (.tmp 26) (.tmp 29) (by rfl) w2.heap.size k c' a' Q (by rfl) b5.Z.toRowVA v1 ⟨qW,qH,a3,qn,k3,qi⟩ (by rfl) (by first | go_simp | simp) (by first | go_simp | simp) (by first | go_simp | simp) om (og l.le) ?_;intro j1 e3 w6 j7 u k8;have p7:=e7.Z;have q1:=i3.Z;have p6:=HG.Z;have b4:=f8.Z;have T:=e8.Z;have q7:=i4.Z;have e4:=b5.Z.bd;have X:=i2.Z.bd;have j5:=m.le;have s: ∀b,zO a'=some b->w2.heap.size<=b:=fun b hb=>(e4 b (.inl hb)).1
   have n0:Hd (OwnV w6 w2 j1 (k+1) e3 (Q++ [⟨qW,qH,a3,qn,k3,qi⟩])):=Jh (OwnV.snoc b5.Z j7 u
    (fun b hb=>by
     rcases k8 with e | e
     rw [e] at hb;exact .inl hb
     rw [e] at hb;injection hb with hb;exact .inr om)
    (((b8.mono (B':=w2.heap.size) (og t.le)).alloc _).zI u (fun b hb J=>by
     have h1:=(X b (.inl hb)).2;have h2:=b8.bd b J;have:=t.le
     omega))
    (fun b hb=>by
     have h2:=b8.bd b hb;refine ⟨sO,fun b7=>?_⟩;have h1:=(X b b7).2;have:=t.le
     omega))
   obtain ⟨g6,m6,m4,n3,n5⟩:=JI ((g5.Z.zA l.Z).grown u (fun e=>by have:=s _ e.symm;omega)) ((m5.Z.zA l.Z).zI u (fun b hb J=>by have:=s _ hb;have:=b4 b J;omega)) ((m3.Z.zA l.Z).zI u (fun b hb J=>by have:=s _ hb;have:=T b J;omega)) ((n2.Z.zA l.Z).grown u (fun e=>by have:=s _ e.symm;omega)) ((n4.Z.zA l.Z).grown u (fun e=>by have:=s _ e.symm;omega));have e6:=Jh (zL m1.Z l.Z);have m2:=Jh (e6.Z.grown u e6.Z.size (fun b hb=>by have:=s _ hb;omega));have n1:Hd (w2.heap.size<=w6.heap.size):=Jh (zB u.size l.le)
   have m7:Hd (∀j,j<k+1->(pv (Q++ [⟨qW,qH,a3,qn,k3,qi⟩]) j).W=(pv ps j).W/\(pv (Q++ [⟨qW,qH,a3,qn,k3,qi⟩]) j).H=(pv ps j).H/\(pv (Q++ [⟨qW,qH,a3,qn,k3,qi⟩]) j).ink=(pv ps j).ink/\(pv (Q++ [⟨qW,qH,a3,qn,k3,qi⟩]) j).n=(pv ps j).n):=Jh (fun j hj=>by
    by_cases e:j<k
    rw [wE (by rw [HQ.Z];exact e)];exact HE.Z j e;obtain rfl:j=Q.length:=by rw [HQ.Z];omega
    rw [Xa,HQ.Z,m8.Z];exact ⟨rfl,rfl,rfl,rfl⟩)
   clear j7 u k8 t m l E b8 b5 e6 e4 X s q2 j5;obtain ⟨g0,d0,d1,d2,d3,d4,d5,d6⟩:=g6.Z.c7;obtain ⟨f0,f1,f2,f3,f4,f5,f6⟩:=g6.Z.f7;refine hK.out _ _ (fun h=>absurd h dC) (fun hH2=>?_);clear hK K;refine zf 6 (fun K hK=>?_);go_simp;refine hK.out _ _ (fun h=>absurd h dC) (fun hH2=>?_);clear hK K hH2;refine zf 7 (fun K hK=>?_);go_simp;refine hK.out _ _ (fun h=>absurd h dC) (fun hH2=>?_);clear hK K hH2;refine yG zK ?_ _;(try go_simp)
   go_wp2
   go_roundw
   . exact ⟨k+1,_,j1,e3,om,by go_num,by rw [Yn,HQ.Z];rfl,m7.Z,by exact g6.Z.putS _,by exact n0.Z.other sO _,by exact m6.Z.zG (fun e=>h6.Z _ e rfl) _,by exact m4.Z.zG (fun e=>by have:=T _ e;simp at this;omega) _,by exact n3.Z.other sO _,by exact n5.Z.other sO _,by exact m2.Z.setCell sO _,by have:=n1.Z;simp;omega⟩
   exact Jm
 obtain rfl:k=n:=om;obtain ⟨g0,d0,d1,d2,d3,d4,d5,d6⟩:=KG.Z.c7;obtain ⟨N,c0,c1,c2,c3,c4,c5,c6⟩:=KR.Z.c7;obtain ⟨f0,f1,f2,f3,f4,f5,f6⟩:=KR.Z.f7;go_wp2_with fail;have p7:=e7.Z;have q1:=i3.Z;have p6:=HG.Z;have b4:=f8.Z;have T:=e8.Z;refine bodyPost_ret (v:=(⟨⟨W,H,a1,A,k1,xs⟩,⟨I,F,a2,C,k2,ys⟩,a',k,c',Q⟩:Dsk).val) (by simp [results,results27,go_sem,Dsk.val,c0,c1,c2,c3,c4,c5,c6]) rfl ⟨_,rfl,?_,?_,?_,?_⟩;refine yQ.set7 (D:=⟨⟨W,H,a1,A,k1,xs⟩,⟨I,F,a2,C,k2,ys⟩,a',k,c',Q⟩) ⟨HP.Z,HM.Z.mono (zB f8.Z HB.Z.size),HV.Z.mono om,fun b hb e=>?_,fun b hb e=>?_,fun b hb e=>?_⟩ (fun b hb=>?_) _ _ _ _ _ _ _;have h1:=b4 b hb;have h2:=T b e;omega;have h1:=b4 b e;have h2:=(HV.Z.bd b hb).1;omega;have h1:=T b e;have h2:=(HV.Z.bd b hb).1;omega;rcases hb with hb | hb | hb
 have h1:=b4 b hb;have:=g1.Z;omega;have h1:=T b hb;omega;have h2:=(HV.Z.bd b hb).1;omega;show ((⟨W,H,xs⟩,⟨I,F,ys⟩,zS Q):Pic × Pic × List Pic)=(⟨W,H,xs⟩,⟨I,F,ys⟩,zS ps)
 rw [Qe (L:=Q) (M:=ps) (by rw [HQ.Z,R5.Z]) (fun j hj=>by have h:=HE.Z j (by rw [<-HQ.Z];exact hj);exact ⟨h.1,h.2.1,h.2.2.1⟩)]
 exact ⟨s1,s2,s3,fun j hj=>by
  have h:=HE.Z j (by rw [<-HQ.Z];exact hj);show (pv Q j).n<=1048576;rw [h.2.2.2]
  exact S4.Z j (by rw [R5.Z,<-HQ.Z];exact hj)⟩
 exact yB HB.Z om _ _ _ _ _ _ _
end
section
open Go.ChangeShapes Go.WideShapes Go.ChangeAt Go.RowKit Go.Joins Go.Deep Tq Go.Proofs.Tryz
variable {H : Type} {P : Program} {W W' : World} {args : Array Value} {fuel : Nat} {v : Value} {x : Int}
theorem own:ownKnob prog.godebug=none:=zK
theorem zCD:laidOutB prog=true:=zK
theorem QE:prog.cellsOf 3=1:=zK
theorem fI {enc:TypeId × Value->H} (hl:laidOutB P=true) (hb:Below W W W'): ∀(a:List TypeId) (f:List Value) (e:List (DataW H)) (ps:List MemPlace),
 (∀t ∈ a,P.readableRec t=true/\t<P.types.size)->DataW.TrodAll enc P W 0 (fun _=>true) true a f e ps->(∀x ∈ ps,x.block<W.heap.size)->
 DataW.TrodAll enc P W' 0 (fun b=>decide (b<W.heap.size)) true a f e ps:=by
 intro a
 induction a with
 | nil=>
  intro f e ps _ h _;obtain ⟨rfl,rfl,rfl⟩:=trodAll_nil h;rfl
 | cons t a o=>
  intro f e ps j h c;obtain ⟨v,l,d,i,p,q,rfl,rfl,rfl,m,h1⟩:=trodAll_cons h
  exact ⟨p,q,Below.trod hl (j t sI).1 (j t sI).2 m hb (fun x k=>c x (List.mem_append_left _ k)),
   o l i q (fun u n=>j u (by simp [n])) h1 (fun x k=>c x (List.mem_append_right _ k)),rfl⟩
theorem TI {a:List TypeId} (h:(a.all fun t=>P.readableRec t && decide (t<P.types.size))=true): ∀t ∈ a,P.readableRec t=true/\t<P.types.size:=by
 intro t b;have:=List.all_eq_true.1 h t b;simpa using this
theorem tC {enc:TypeId × Value->H} {e:Func} {s:ChangeSpec} {f m:List (DataW H)} {a:List MemPlace}
 (hv:s.vars=[]) (c:e.resultTypes=#[4]) (i:DataW.Whole enc prog e.params.toList s.vars false W args.toList f m a)
 (hr:(e.params.toList.all fun t=>prog.readableRec t && decide (t<prog.types.size))=true)
 (k:(s.fn H (f++ []))={results:=[.lit (.bool true)],args:=f}) (hb:Below W W W'):
 s.post enc prog e false true false false W args (.bool true) W':=by
 have b:=i.lt;have j:=i;obtain ⟨p,q,n,l,rfl,_,_⟩:=i;rw [hv] at l;obtain ⟨rfl,rfl⟩:=trodVars_none l;simp only [List.append_nil] at b;refine ⟨_,_,_,[],p,[],j,?_,?_,?_,hb.frame _,fun h=>by cases h⟩;rw [k,c];exact trodAll_mk1 (shut_bool underlying4 true);rw [k];exact fI zCD hb _ _ _ _ (TI hr) n b;rw [k,hv];rfl
def InI (x:Int):Prop:=-9223372036854775808<=x/\x<=9223372036854775807
theorem MS (h:(Lit.int .i64 x).wf=true):InI x:=by
 have h1:IntKind.i64.min=-9223372036854775808:=rfl;have h2:IntKind.i64.max=9223372036854775807:=rfl;simp only [Lit.wf,Bool.and_eq_true,decide_eq_true_eq] at h;unfold InI;omega
theorem UN {enc:TypeId × Value->H} {y:DataW H × List MemPlace}
 (h:DataW.trod enc prog W 0 (fun _=>true) true fuel 22 [v]=some y) (m: ∀x ∈ y.2,x.block<W.heap.size):
 ∃ad n f xs,v= .slice ad n f/\xs.length=n/\Rd W ad xs/\n<=9223372036854775807/\(∀x ∈ xs,InI x):=by
 rcases open_ints underlying22 underlying3 QE h with ⟨e,j⟩ | ⟨a,len,f,t,e,_,hl,hm,s,j,c,o⟩
 simp only [List.cons.injEq,and_true] at e;subst e;exact ⟨none,0,0,[],rfl,rfl,Rd.nil _ _,om,sI⟩;simp only [List.cons.injEq,and_true] at e;subst e;simp only [if_true] at s;unfold maxLen at hm;refine ⟨some a,len,f,t.take len,rfl,sO,?_,om,fun x j=>MS (o x (List.mem_of_mem_take j))⟩;intro k hk;have l:k<len:=by simp at hk;omega
 have hc:=c k om;obtain ⟨b,off,spot⟩:=a
 have i:spot=none:=by
  have q:=c 0 om;simpa [Addr.add] using World.cell?_spot q
 subst i;refine ⟨b,off,rfl,?_,?_⟩;subst j;exact m (.cell b off) (MemPlace.mem_row.2 ⟨0,om,sI⟩);rw [Addr.add_lit] at hc;rw [hc];congr 2;simp [List.getD,List.getElem?_take,l]
theorem Lm:prog.cellsOf 24=3:=zK
theorem Xq {enc:TypeId × Value->H} {y:DataW H × List MemPlace}
 (h:DataW.trod enc prog W 0 (fun _=>true) true fuel 3 [v]=some y): ∃x,v= .int .i64 x/\InI x:=by
 obtain ⟨a,b,_,c⟩:=DataW.trod_int underlying3 h;simp only [List.cons.injEq,and_true] at b;exact ⟨a,b,MS c⟩
theorem gU:prog.cellsOf 26=3:=zK
end
section
open Go.RowKit Tq Go.Proofs.Tryz
variable {B B' : Nat} {ad : Option Addr} {w w' : World} {xs : List Int}
def RdU (B:Nat) (w:World) (ad:Option Addr) (xs:List Int):Prop:=
 ∀k,k<xs.length->(0<=xs.getD k 0/\xs.getD k 0<=255)/\ ∃b off,ad=some ⟨b,off,none⟩/\b<B/\b<w.heap.size/\w.cell? ⟨b,off+k,none⟩=some (.int .u8 (xs.getD k 0))
theorem RdU.same (h:RdU B w ad xs) (hb: ∀b,b<B->b<w.heap.size->w'.heap[b]? =w.heap[b]?) (c:w.heap.size<=w'.heap.size):RdU B w' ad xs:=by
 intro k hk;obtain ⟨a,b,off,h1,h2,h3,h4⟩:=h k hk;exact ⟨a,b,off,h1,h2,om,(World.cell?_of_block (hb b h2 h3)).trans h4⟩
theorem RdU.mono (h:RdU B w ad xs) (c:B<=B'):RdU B' w ad xs:=by
 intro k hk;obtain ⟨a,b,off,h1,h2,h3,h4⟩:=h k hk;exact ⟨a,b,off,h1,om,h3,h4⟩
theorem RdU.below (h:RdU B w ad xs) (hb:Below B w w'):RdU B w' ad xs:=
 h.same (fun b h1 _=>hb.block b h1) hb.size
end
section
open Go.ChangeShapes Go.WideShapes Go.ChangeAt Go.RowKit Go.Lib Tq Go.Proofs.Tryz
variable {H : Type} {again apart fresh handsOn : Bool} {w w' : World}
def QY:List (String × DataW Unit):=[("math/bits.deBruijn32tab",Rows.laid_math_bits_deBruijn32tab),("math/bits.deBruijn64tab",Rows.laid_math_bits_deBruijn64tab),("internal/strconv.uint64pow10",Rows.laid_internal_strconv_uint64pow10),("unicode/utf8.acceptRanges",Rows.laid_unicode_utf8_acceptRanges),("strconv.ErrRange",Rows.laid_strconv_ErrRange),("strconv.ErrSyntax",Rows.laid_strconv_ErrSyntax),("unicode/utf8.first",Rows.laid_unicode_utf8_first)]
theorem gES:prog.globalNamed "strconv.ErrSyntax" =some 1:=zK
theorem gER:prog.globalNamed "strconv.ErrRange" =some 2:=zK
theorem aY:prog.globalNamed "internal/strconv.uint64pow10" =some 5:=zK
theorem tES:(prog.globals[1]?).map (·.type)=some 146:=zK
theorem tER:(prog.globals[2]?).map (·.type)=some 146:=zK
structure qZ (w:World):Prop where
 max: ∃m,w.cell? ⟨0,0,none⟩=some (.int .i64 m)
 es: ∃t p,w.cell? ⟨1,0,none⟩=some (.iface t p)
 er: ∃t p,w.cell? ⟨2,0,none⟩=some (.iface t p)
 pow:TabIs Tryz.prog w "internal/strconv.uint64pow10" .u64 pow10Tab
 size:6<=w.heap.size
theorem qZ.below (h:qZ w) (hb:Below w w w'):qZ w':=by
 obtain ⟨⟨m,h1⟩,⟨f,c,h2⟩,⟨t2,e,h3⟩,h4,b⟩:=h;have a: ∀g i,g<6->w'.cell? ⟨g,i,none⟩=w.cell? ⟨g,i,none⟩:=fun g i hg=>hb.cell (by show g<_;omega);refine ⟨⟨m,(a _ _ om).trans h1⟩,⟨f,c,(a _ _ om).trans h2⟩,⟨t2,e,(a _ _ om).trans h3⟩,?_,Yx b hb.size⟩;unfold TabIs at h4⊢;exact var?_below hb aY om h4
theorem zAX {enc:TypeId × Value->H} {a:Assume} {C:Checked} {os:Os} {f:FuncId} {m:Func} {s:ChangeSpec} {X:World->Array Value->Prop}
 (J: ∀(w w':World) (args:Array Value),w.heap=w'.heap->X w args->X w' args)
 (own:ownKnob C.prog.godebug=none) (k:os.Started) (n:C.prog.inits.idxOf? f=none) (E:C.prog.funcs[f]? =some m)
 (l: ∃(w:World) (tape:Tape) (i:Input),w.os=os/\(w.forCall tape i).Shaped C.prog/\i.vars=[]/\Input.okWide C.prog (w.forCall tape i) .any w.heap.size f i/\
  ((s.pre enc C.prog m [] apart (w.forCall tape i).memory i.args/\X (w.forCall tape i).memory i.args)/\sizedMet enc C.prog m (OpenSpec.ofChange s) apart (w.forCall tape i).memory i.args)/\a.holds C.prog (lone (Frame.enter C.prog f i.args .normal) [] (w.forCall tape i)))
 (c: ∀(W:World) (base:Nat) (args:Array Value) (z D:List (DataW H)) (b:List MemPlace),
  (∀(j:Nat) t v,m.params[j]? =some t->args[j]? =some v->Value.okWide C.prog W .any base t v)->
  DataW.Whole enc C.prog m.params.toList s.vars apart W args.toList z D b->X W args->W.ShapedOpen C.prog->
  Calls C.prog f args W fun e W'=> ∃v,e= .returned v/\s.post enc C.prog m apart fresh handsOn again W args v W'):
 ReturnsInHanded a C os f .any (fun w args=>(s.pre enc C.prog m [] apart w args/\X w args)/\sizedMet enc C.prog m (OpenSpec.ofChange s) apart w args) (s.post enc C.prog m apart fresh handsOn again):=by
 refine returnsInHanded_of_calls own k n l ?_;intro w tape i _ G _ F q y;obtain ⟨_,_,_,A,o,_,_,_,_,u⟩:=F;have e:A=m:=Yd (o.symm.trans E);subst e;obtain ⟨⟨⟨z,D,b,hw,hc⟩,L⟩,M⟩:=q;have I:=DataW.Whole.of_heap (w':=w.forCall tape i) (by rfl) hw;refine (c (w.forCall tape i) w.heap.size i.args z D b u I (J _ _ _ (by rfl) L) G).mono fun e W' ⟨v,he,hp⟩=>?_;subst he;exact ChangeSpec.post_blind hp
theorem nM (u:TypeId) (h:prog.typeName? 3 u=some "*errors.errorString"):u=262:=
 typeName_ptr_named (nm:= "errors.errorString") (by rw [show "*" ++ "errors.errorString" = "*errors.errorString" by decide];kernel_rfl) zK dC u (by rw [show "*" ++ "errors.errorString" = "*errors.errorString" by decide];exact h)
theorem su (h:laidMetH prog QY w) (e:w.ShapedOpen prog):qZ w:=by
 rw [MakeChecks.laidMetH_plain _ _ _ zK] at h;obtain ⟨a0,k,i,-,-,-⟩:=laid_sentinel h.tail.tail.tail.tail.tail gES tES underlying146 nM underlying262 underlying264 rfl rfl underlying9 zK zK;obtain ⟨a1,l,j,-,-,-⟩:=laid_sentinel h.tail.tail.tail.tail gER tER underlying146 nM underlying262 underlying264 rfl rfl underlying9 zK zK;refine ⟨?_,⟨_,_,by have b:=World.var?_cell gES i 0;simpa using b⟩,⟨_,_,by have b:=World.var?_cell gER j 0;simpa using b⟩,?_,?_⟩;exact cell_of_shapedOpen_int (g:=0) (t:=3) (zero:=#[Z0]) e (of_decide_eq_true zK) zK zK zK zK underlying3;obtain ⟨g,t,c,fuel,p,hg,f,hv,hd⟩:=Lib.laidMet.reads h (n:= "internal/strconv.uint64pow10") (d:=Rows.laid_internal_strconv_uint64pow10) (by simp [QY]);obtain rfl:=Yd (aY.symm.trans hg);obtain rfl:=Yd ((show (prog.globals[5]?).map (·.type)=some 266 by kernel_rfl).symm.trans f);unfold TabIs
 have a:DataW.trod (fun _=>()) prog w 0 (fun _=>true) false fuel 266 c.toList=some (tabData .u64 pow10Tab,p):=by
  rw [hd];congr 2
 rw [hv,<-cells_of_tab underlying266 underlying226 zK zK a];obtain ⟨g,t,c,fuel,p,hg,f,hv,hd⟩:=Lib.laidMet.reads h (n:= "internal/strconv.uint64pow10") (d:=Rows.laid_internal_strconv_uint64pow10) (by simp [QY]);obtain rfl:=Yd (aY.symm.trans hg);obtain rfl:=Yd ((show (prog.globals[5]?).map (·.type)=some 266 by kernel_rfl).symm.trans f)
 have a:DataW.trod (fun _=>()) prog w 0 (fun _=>true) false fuel 266 c.toList=some (tabData .u64 pow10Tab,p):=by
  rw [hd];congr 2
 have b:=World.var?_cell aY hv 0;rw [show c[0]? =c.toList[0]? by simp,cells_of_tab underlying266 underlying226 zK zK a] at b;have:=lt_of_cell (b.trans rfl);simp at this;omega
end
end Go.Proofs.YtlenfgdjdianiaaGreatDoor
