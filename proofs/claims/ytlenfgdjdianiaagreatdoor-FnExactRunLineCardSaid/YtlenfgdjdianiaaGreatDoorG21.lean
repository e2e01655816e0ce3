/- Facts on which this claim rests, 21. -/
import Derived.Test.YtlenfgdjdianiaaGreatDoorG20
set_option linter.all false
set_option maxHeartbeats 6400000
namespace Go.Proofs.YtlenfgdjdianiaaGreatDoor
section
open Go.RowKit Tq Go.Proofs.Tryz
theorem DN (ss:Int) (w:World):Calls prog 136 #[ss] w (jq w (kC ss)):=by
 by_cases hs:1<=ss/\ss<=16
 case neg=>
  rw [Qo hs];go_in;go_wp2_with fail
  all_goals first | (exfalso;exact hs ⟨om,om⟩) | skip
  all_goals (
   skip
   exact bodyPost_ret (v:= .tuple #[.agg ↑Zp, .bool false]) (Jr results136) rfl ⟨none,0,0,rfl,oN,om,nJ⟩
   )
 obtain ⟨s,rfl⟩: ∃s:Nat,ss=(s:Int):=⟨ss.toNat,om⟩
 have s1:1<=s:=om;have s2:s<=16:=om;rw [UY s1 s2];obtain ⟨n,hn⟩:=zN (s*s:Nat);have HN:=Jh hn;have HQ:Hd ((n:Int)=(s:Int)*(s:Int)):=Jh (by rw [hn];simp);have h0:n<=256:=by rw [hn];exact Nat.mul_le_mul s2 s2
 have g8:1<=n:=by rw [hn];exact Nat.mul_le_mul s1 s1
 have HF:=Jh (FT s s1 s2);have HS:Hd (xO (s:Int) (s:Int)=true):=Jh (by unfold xO;simp;have:=HQ.Z;omega);rw [<-HN.Z];clear hn;go_in;go_wp2_with fail;refine (Zk s s n _ HS.Z HQ.Z).mono ?_;rintro e w2 ⟨g,rfl,hg,ho,hb⟩;obtain ⟨d4,d2,HO⟩:=JF ((Joins.below_alloc1 w (.cells ↑Zp 32)).trans (hb.mono sI)) ((Blk.new w 32 ↑Zp).zA hb) ho;have HG:Hd (w.heap.size+1<=g):=Jh (by simpa using hg);clear hb hg ho;go_wp2_with (refine eP _ rfl rfl ?_);obtain ⟨q,hq⟩:=zN w2.heap.size;obtain ⟨w5,Y⟩:=zN ((((w2.alloc (.cells #[s,s, .slice ↑g n n] 32)).alloc (.map #[] 0)).alloc (.cells #[Z0,Z0] 176)).alloc (.cells #[Z1,Z0] 176));have f5:=HO.Z.lt;have f6:=d2.Z.lt;have e7:Hd (Blk w5 q 32 #[s,s, .slice ↑g n n]):=Jh (by rw [Y,hq];exact (((Blk.new w2 _ _).alloc _).alloc _).alloc _);have e0:Hd (VM w5 (q+1) 0 (fun _ _=>false)):=Jh (by rw [Y,hq];have h:=((zCd (w2.alloc (.cells #[s,s, .slice ↑g n n] 32))).alloc (.cells #[Z0,Z0] 176)).alloc (.cells #[Z1,Z0] 176);simpa using h);have e3:Hd (Blk w5 (q+1+1) 176 #[Z0,Z0]):=Jh (by rw [Y,hq];exact (Blk.zD (w:=(w2.alloc _).alloc _) _ _ sI).alloc _);have e6:Hd (Blk w5 (q+1+1+1) 176 #[Z1,Z0]):=Jh (by rw [Y,hq];exact Blk.zD _ _ sI);have d8:Hd (Own w5 g n n (cl (kW s 0).r)):=Jh (by rw [Y];simp only [kW,Uu];rw [<-HN.Z,rO];exact (((HO.Z.alloc _).alloc _).alloc _).alloc _);have e4:Hd (Blk w5 w 32 ↑Zp):=Jh (by rw [Y];exact (((d2.Z.alloc _).alloc _).alloc _).alloc _);have d5:Hd (Below w w w5):=Jh (by rw [Y];exact zM (zM (zM (zM d4.Z _) _) _) _);rw [<-Y,<-hq];have o:Hd (g<q):=Jh om;have A:Hd (w.heap.size<g):=Jh (oh HG);clear Y hq f5 f6 HO d2 d4
 go_loopw [26] (fun i wr=> ∃(k:Nat) (t:Sp) (S:Int->Int->Bool),k<=n/\i=↑k/\Hd (t=kW s k)/\Hd (∀u v,0<=u/\u<=(s:Int) - 1->0<=v/\v<=(s:Int) - 1->S u v=decide (0<=t.r.getD (v*s+u).toNat 0))/\Own wr g n n (cl t.r)/\VM wr (q+1) k S/\Blk wr q 32 #[s,s, .slice ↑g n n]/\
  Blk wr (q+1+1) 176 #[t.x,t.y]/\Blk wr (q+1+1+1) 176 #[t.dx,t.dy]/\Blk wr w 32 ↑Zp/\Below w w wr) (fun i _=>n - (intOf i).toNat)
 exact ⟨0,kW s 0,fun _ _=>false,nZ,rfl,Jh rfl,Jh (fun u v hu hv=>zAp hu hv),d8.Z,e0.Z,e7.Z,e3.Z,e6.Z,e4.Z,d5.Z⟩;obtain ⟨k,t,S,hk,rfl,HT,f4,ho,hv,kt,ka,ks,kr,hb⟩:=hrel;obtain ⟨HO,HV,KT,KA,KS⟩:=JI ho hv kt ka ks;have KR:=Jh kr;have HB:=Jh hb;clear ho hv kt ka ks kr hb d8 e0 e7 e3 e6 e4 d5;obtain ⟨l0,o0,o1,o2⟩:=KT.Z.c3;by_cases g7:k<n
 . obtain ⟨x0,x1,y0,y1,g0,g4,g5,g6,e8⟩:=aC (s:=s) (t:=t) (by rw [HT.Z];exact HF.Z.1 k (oh HN))
   obtain ⟨i0,i1⟩:=wF x0 x1 y0 y1;have i2:(t.y*(s:Int)+t.x).toNat<n:=by have:=HQ.Z;omega
   have i3:t.y*(s:Int)+t.x<(n:Int):=by have:=HQ.Z;omega
   have g2:=HO.Z.cell i2;have g3:=HO.Z.frozen (t.y*(s:Int)+t.x).toNat;have f8:=Jh e8;clear e8 i1;have a0:=KA.Z.cell 0;have a1:=KA.Z.cell 1;have W:=KS.Z.cell 0;have d1:=KS.Z.cell 1;simp only [Yi,List.getElem?_cons_zero,List.getElem?_cons_succ] at a0 a1 W d1;have N1:g≠q:=by have:=o.Z;omega
   have N2:g≠q+1+1:=by have:=o.Z;omega
   have N3:g≠q+1+1+1:=by have:=o.Z;omega
   go_wp2_with (at_mapUpdate;refine zBG _ rfl _ _ _ rfl (q+1) k S t.x t.y rfl (HV.Z.same (Below.heap_setCell _ _ _ _ (oS o.Z))) (by unfold maxLen;omega) rfl rfl (Cx om om) (Cx om om) ?_;intro w6 f2 b6;have c8:=Jh f2;have c5:=Jh ((HO.Z.set (t.y*(s:Int)+t.x).toNat (k:Int)).grown b6 (by intro e;have:=Yd e;have:=o.Z;omega));have d3:=Jh ((KT.Z.other (a:=↑(g,(t.y*(s:Int)+t.x).toNat)) N1 ↑k).grown b6 (by intro e;have:=Yd e;omega));have c1:=Jh ((KA.Z.other (a:=↑(g,(t.y*(s:Int)+t.x).toNat)) N2 ↑k).grown b6 (by intro e;have:=Yd e;omega));have c4:=Jh ((KS.Z.other (a:=↑(g,(t.y*(s:Int)+t.x).toNat)) N3 ↑k).grown b6 (by intro e;have:=Yd e;omega));have e5:=Jh ((KR.Z.other (a:=↑(g,(t.y*(s:Int)+t.x).toNat)) (oS A.Z) ↑k).grown b6 (by intro e;have:=Yd e;have:=A.Z;have:=o.Z;omega));have d6:=Jh ((HB.Z.setCell (show w.heap.size<=(↑(g,(t.y*(s:Int)+t.x).toNat):Addr).block by have:=A.Z;simp;omega) ↑k).grown b6 (oS HB.Z.size) (fun b hb=>by cases hb;have:=A.Z;have:=o.Z;omega));clear f2 b6 a0 a1 W d1 g2 g3 o0 o1 o2 l0 N1 N2 N3 HO HV KT KA KS KR HB;have a0:=c1.Z.cell 0;have a1:=c1.Z.cell 1;have W:=c4.Z.cell 0;have d1:=c4.Z.cell 1;obtain ⟨l0,o0,o1,o2⟩:=d3.Z.c3;simp only [Yi,List.getElem?_cons_zero,List.getElem?_cons_succ] at a0 a1 W d1;have e1:IntKind.i64.wrap (t.x+t.dx)=t.x+t.dx:=Yc _ om;have e2:IntKind.i64.wrap (t.y+t.dy)=t.y+t.dy:=Yc _ om);refine (Xm _ _ _ _ _ e1 e2).mono ?_;rintro e w7 ⟨rfl,b4⟩;obtain ⟨H,X,U,V,b2⟩:=JI ((c8.Z.same (w':=w7) (b4.block (q+1) c8.Z.lt)).alloc (.cells #[.int .i64 (t.x+t.dx), .int .i64 (t.y+t.dy)] 176)) ((d3.Z.zA b4).alloc (.cells #[.int .i64 (t.x+t.dx), .int .i64 (t.y+t.dy)] 176)) ((c1.Z.zA b4).alloc (.cells #[.int .i64 (t.x+t.dx), .int .i64 (t.y+t.dy)] 176)) ((c4.Z.zA b4).alloc (.cells #[.int .i64 (t.x+t.dx), .int .i64 (t.y+t.dy)] 176)) ((e5.Z.zA b4).alloc (.cells #[.int .i64 (t.x+t.dx), .int .i64 (t.y+t.dy)] 176));obtain ⟨J,b0,b8⟩:=JF ((c5.Z.below b4 c5.Z.lt).alloc (.cells #[.int .i64 (t.x+t.dx), .int .i64 (t.y+t.dy)] 176)) (zM (zL d6.Z b4) (.cells #[.int .i64 (t.x+t.dx), .int .i64 (t.y+t.dy)] 176)) (Blk.new w7 176 #[.int .i64 (t.x+t.dx), .int .i64 (t.y+t.dy)]);have c0:=H.Z.look (x:=t.x+t.dx) (y:=t.y+t.dy) (Cx om om) (Cx om om);unfold Cq at c0;clear b4 a0 a1 W d1 l0 o0 o1 o2 c8 d3 c1 c4 e5 c5 d6;have b7:=Jh (zCO (k:=k) (S:=S) (r:=t.r) (x:=t.x) (y:=t.y) (by rw [HT.Z];exact zDL s k) x0 x1 y0 y1 f4.Z);have a0:=U.Z.cell 0;have a1:=U.Z.cell 1;have W:=V.Z.cell 0;have d1:=V.Z.cell 1;have n0:=b8.Z.cell 0;have n1:=b8.Z.cell 1;obtain ⟨l0,o0,o1,o2⟩:=X.Z.c3;simp only [Yi,List.getElem?_cons_zero,List.getElem?_cons_succ] at a0 a1 W d1 n0 n1;obtain ⟨b,hb⟩: ∃b,putS S t.x t.y (t.x+t.dx) (t.y+t.dy)=b:=⟨_,rfl⟩
   rw [hb] at c0;have d7:=Jh hb;clear hb;cases b
   . by_cases hu:0<=t.x+t.dx/\t.x+t.dx<=(s:Int) - 1
     . by_cases hv:0<=t.y+t.dy/\t.y+t.dy<=(s:Int) - 1
       . have b5:=Jh (ni (d7.Z ▸ b7.Z (t.x+t.dx) (t.y+t.dy)) rfl hu hv)
         go_wp2_with fail;refine (wO _ _ _ _ om om om hu.1 hu.2).mono ?_;rintro e v9 ⟨rfl,rfl⟩;go_wp2_with fail;refine (wO _ _ _ _ om om om hv.1 hv.2).mono ?_;rintro e v9 ⟨rfl,rfl⟩;go_wp2_with fail;refine (Xm t.x t.y t.dx t.dy _ (Yc _ om) (Yc _ om)).mono ?_;rintro e I ⟨rfl,l⟩;obtain ⟨O,F,B,R,Q⟩:=JI (H.Z.same (w':=I) (l.block (q+1) H.Z.lt)) (X.Z.zA l) (U.Z.zA l) (V.Z.zA l) (b2.Z.zA l);have M:=Jh (J.Z.below l J.Z.lt);have L:=Jh (zL b0.Z l);clear l a0 a1 W d1 n0 n1 l0 o0 o1 o2 c0 H X U V b2 J b0 b8;have f0:=B.Z.frozen 0;have f1:=B.Z.frozen 1;have a0:=B.Z.cell 0;have a1:=B.Z.cell 1;obtain ⟨l0,o0,o1,o2⟩:=F.Z.c3;simp only [Yi,List.getElem?_cons_zero,List.getElem?_cons_succ] at a0 a1
         go_wp2
         go_roundw
         . have E:=NJ b5.Z
           refine ⟨k+1,qB s k t,putS S t.x t.y,om,by go_num,Jh (by rw [HT.Z];rfl),?_,?_,(O.Z.same ((Below.heap_setCell _ _ _ _ sD).trans (Below.heap_setCell _ _ _ _ sD))),(F.Z.other sO _).other sO _,?_,?_,(Q.Z.other (oT A.Z o.Z) _).other (oT A.Z o.Z) _,(L.Z.setCell (oT A.Z o.Z) _).setCell (oT A.Z o.Z) _⟩;rw [E];exact b7;rw [E,Fq];exact (M.Z.other (oS o.Z) _).other (oS o.Z) _;rw [E];exact (B.Z.set 0 _).set 1 _;rw [E];exact (R.Z.other sI _).other sI _
         exact Jm
       have b5:=Jh (FQ (s:=s) (r:=t.r.set (t.y*(s:Int)+t.x).toNat (k:Int)) (u:=t.x+t.dx) hv);go_wp2_with fail;refine (wO _ _ _ _ om om om hu.1 hu.2).mono ?_;rintro e v9 ⟨rfl,rfl⟩;go_wp2_with fail;refine (ZN _ _ _ _ om om om (fun h=>hv ⟨h.2.1,h.2.2⟩)).mono ?_;rintro e v9 ⟨rfl,rfl⟩;go_wp2_with fail;refine (UL t.dx t.dy _ (Yc _ om)).mono ?_;rintro e w9 ⟨rfl,C⟩;obtain ⟨P,T,G,D,b3⟩:=JI (H.Z.same (w':=w9) (C.block (q+1) H.Z.lt)) (X.Z.zA C) (U.Z.zA C) (V.Z.zA C) (b2.Z.zA C);have N:=Jh (J.Z.below C J.Z.lt);have b1:=Jh (zL b0.Z C);clear C a0 a1 W d1 n0 n1 l0 o0 o1 o2 c0 H X U V b2 J b0 b8;have a0:=G.Z.cell 0;have a1:=G.Z.cell 1;have W:=D.Z.cell 0;have d1:=D.Z.cell 1;have f0:=D.Z.frozen 0;have f1:=D.Z.frozen 1;obtain ⟨l0,o0,o1,o2⟩:=T.Z.c3;simp only [Yi,List.getElem?_cons_zero,List.getElem?_cons_succ] at a0 a1 W d1;go_wp2_with fail;refine (Xm t.x t.y (-t.dy) t.dx _ (Yc _ om) (Yc _ om)).mono ?_;rintro e I ⟨rfl,l⟩;obtain ⟨O,F,B,Q⟩:=JG (VM.same (w':=I) P.Z ((l.block (q+1) (by have:=P.Z.lt;simpa using this)).trans ((Below.heap_setCell _ _ _ _ sD).trans (Below.heap_setCell _ _ _ _ sD)))) (((T.Z.other (a:=⟨q+1+1+1,0,none⟩) sO (.int .i64 (-t.dy))).other (a:=⟨q+1+1+1,1,none⟩) sO ↑t.dx).zA l) (((G.Z.other (a:=⟨q+1+1+1,0,none⟩) sI (.int .i64 (-t.dy))).other (a:=⟨q+1+1+1,1,none⟩) sI ↑t.dx).zA l) (((b3.Z.other (a:=⟨q+1+1+1,0,none⟩) (oT A.Z o.Z) (.int .i64 (-t.dy))).other (a:=⟨q+1+1+1,1,none⟩) (oT A.Z o.Z) ↑t.dx).zA l);have R:Hd (Blk I (q+1+1+1) 176 #[.int .i64 (-t.dy),t.dx]):=Jh (by exact ((D.Z.set 0 (.int .i64 (-t.dy))).set 1 ↑t.dx).zA l);have M:=Jh ((((N.Z.other (a:=⟨q+1+1+1,0,none⟩) (oS o.Z) (.int .i64 (-t.dy))).other (a:=⟨q+1+1+1,1,none⟩) (oS o.Z) ↑t.dx)).of_block (w':=I) (l.block g (by have:=N.Z.lt;simpa using this)));have L:=Jh (zL ((b1.Z.setCell (show w.heap.size<=(⟨q+1+1+1,0,none⟩:Addr).block by have:=A.Z;have:=o.Z;simp;omega) (.int .i64 (-t.dy))).setCell (show w.heap.size<=(⟨q+1+1+1,1,none⟩:Addr).block by have:=A.Z;have:=o.Z;simp;omega) ↑t.dx) l);clear l a0 a1 W d1 l0 o0 o1 o2 f0 f1 P T G D b3 N b1;have f0:=B.Z.frozen 0;have f1:=B.Z.frozen 1;have a0:=B.Z.cell 0;have a1:=B.Z.cell 1;obtain ⟨l0,o0,o1,o2⟩:=F.Z.c3;simp only [Yi,List.getElem?_cons_zero,List.getElem?_cons_succ] at a0 a1
       go_wp2
       go_roundw
       . have E:=Zo b5.Z
         refine ⟨k+1,qB s k t,putS S t.x t.y,om,by go_num,Jh (by rw [HT.Z];rfl),?_,?_,(O.Z.same ((Below.heap_setCell _ _ _ _ sD).trans (Below.heap_setCell _ _ _ _ sD))),(F.Z.other sO _).other sO _,?_,?_,(Q.Z.other (oT A.Z o.Z) _).other (oT A.Z o.Z) _,(L.Z.setCell (oT A.Z o.Z) _).setCell (oT A.Z o.Z) _⟩;rw [E];exact b7;rw [E,Fq];exact (M.Z.other (oS o.Z) _).other (oS o.Z) _;rw [E];exact (B.Z.set 0 _).set 1 _;rw [E];exact (R.Z.other sI _).other sI _
       exact Jm
     have b5:=Jh (FP (s:=s) (r:=t.r.set (t.y*(s:Int)+t.x).toNat (k:Int)) (v:=t.y+t.dy) hu);go_wp2_with fail;refine (ZN _ _ _ _ om om om (fun h=>hu ⟨h.2.1,h.2.2⟩)).mono ?_;rintro e v9 ⟨rfl,rfl⟩;go_wp2_with fail;refine (UL t.dx t.dy _ (Yc _ om)).mono ?_;rintro e w9 ⟨rfl,C⟩;obtain ⟨P,T,G,D,b3⟩:=JI (H.Z.same (w':=w9) (C.block (q+1) H.Z.lt)) (X.Z.zA C) (U.Z.zA C) (V.Z.zA C) (b2.Z.zA C);have N:=Jh (J.Z.below C J.Z.lt);have b1:=Jh (zL b0.Z C);clear C a0 a1 W d1 n0 n1 l0 o0 o1 o2 c0 H X U V b2 J b0 b8;have a0:=G.Z.cell 0;have a1:=G.Z.cell 1;have W:=D.Z.cell 0;have d1:=D.Z.cell 1;have f0:=D.Z.frozen 0;have f1:=D.Z.frozen 1;obtain ⟨l0,o0,o1,o2⟩:=T.Z.c3;simp only [Yi,List.getElem?_cons_zero,List.getElem?_cons_succ] at a0 a1 W d1;go_wp2_with fail;refine (Xm t.x t.y (-t.dy) t.dx _ (Yc _ om) (Yc _ om)).mono ?_;rintro e I ⟨rfl,l⟩;obtain ⟨O,F,B,Q⟩:=JG (VM.same (w':=I) P.Z ((l.block (q+1) (by have:=P.Z.lt;simpa using this)).trans ((Below.heap_setCell _ _ _ _ sD).trans (Below.heap_setCell _ _ _ _ sD)))) (((T.Z.other (a:=⟨q+1+1+1,0,none⟩) sO (.int .i64 (-t.dy))).other (a:=⟨q+1+1+1,1,none⟩) sO ↑t.dx).zA l) (((G.Z.other (a:=⟨q+1+1+1,0,none⟩) sI (.int .i64 (-t.dy))).other (a:=⟨q+1+1+1,1,none⟩) sI ↑t.dx).zA l) (((b3.Z.other (a:=⟨q+1+1+1,0,none⟩) (oT A.Z o.Z) (.int .i64 (-t.dy))).other (a:=⟨q+1+1+1,1,none⟩) (oT A.Z o.Z) ↑t.dx).zA l);have R:Hd (Blk I (q+1+1+1) 176 #[.int .i64 (-t.dy),t.dx]):=Jh (by exact ((D.Z.set 0 (.int .i64 (-t.dy))).set 1 ↑t.dx).zA l);have M:=Jh ((((N.Z.other (a:=⟨q+1+1+1,0,none⟩) (oS o.Z) (.int .i64 (-t.dy))).other (a:=⟨q+1+1+1,1,none⟩) (oS o.Z) ↑t.dx)).of_block (w':=I) (l.block g (by have:=N.Z.lt;simpa using this)));have L:=Jh (zL ((b1.Z.setCell (show w.heap.size<=(⟨q+1+1+1,0,none⟩:Addr).block by have:=A.Z;have:=o.Z;simp;omega) (.int .i64 (-t.dy))).setCell (show w.heap.size<=(⟨q+1+1+1,1,none⟩:Addr).block by have:=A.Z;have:=o.Z;simp;omega) ↑t.dx) l);clear l a0 a1 W d1 l0 o0 o1 o2 f0 f1 P T G D b3 N b1;have f0:=B.Z.frozen 0;have f1:=B.Z.frozen 1;have a0:=B.Z.cell 0;have a1:=B.Z.cell 1;obtain ⟨l0,o0,o1,o2⟩:=F.Z.c3;simp only [Yi,List.getElem?_cons_zero,List.getElem?_cons_succ] at a0 a1
     go_wp2
     go_roundw
     . have E:=Zo b5.Z
       refine ⟨k+1,qB s k t,putS S t.x t.y,om,by go_num,Jh (by rw [HT.Z];rfl),?_,?_,(O.Z.same ((Below.heap_setCell _ _ _ _ sD).trans (Below.heap_setCell _ _ _ _ sD))),(F.Z.other sO _).other sO _,?_,?_,(Q.Z.other (oT A.Z o.Z) _).other (oT A.Z o.Z) _,(L.Z.setCell (oT A.Z o.Z) _).setCell (oT A.Z o.Z) _⟩;rw [E];exact b7;rw [E,Fq];exact (M.Z.other (oS o.Z) _).other (oS o.Z) _;rw [E];exact (B.Z.set 0 _).set 1 _;rw [E];exact (R.Z.other sI _).other sI _
     exact Jm
   have b5:=Jh (zAn (d7.Z ▸ b7.Z (t.x+t.dx) (t.y+t.dy)) rfl);go_wp2_with fail;refine (UL t.dx t.dy _ (Yc _ om)).mono ?_;rintro e w9 ⟨rfl,C⟩;obtain ⟨P,T,G,D,b3⟩:=JI (H.Z.same (w':=w9) (C.block (q+1) H.Z.lt)) (X.Z.zA C) (U.Z.zA C) (V.Z.zA C) (b2.Z.zA C);have N:=Jh (J.Z.below C J.Z.lt);have b1:=Jh (zL b0.Z C);clear C a0 a1 W d1 n0 n1 l0 o0 o1 o2 c0 H X U V b2 J b0 b8;have a0:=G.Z.cell 0;have a1:=G.Z.cell 1;have W:=D.Z.cell 0;have d1:=D.Z.cell 1;have f0:=D.Z.frozen 0;have f1:=D.Z.frozen 1;obtain ⟨l0,o0,o1,o2⟩:=T.Z.c3;simp only [Yi,List.getElem?_cons_zero,List.getElem?_cons_succ] at a0 a1 W d1;go_wp2_with fail;refine (Xm t.x t.y (-t.dy) t.dx _ (Yc _ om) (Yc _ om)).mono ?_;rintro e I ⟨rfl,l⟩;obtain ⟨O,F,B,Q⟩:=JG (VM.same (w':=I) P.Z ((l.block (q+1) (by have:=P.Z.lt;simpa using this)).trans ((Below.heap_setCell _ _ _ _ sD).trans (Below.heap_setCell _ _ _ _ sD)))) (((T.Z.other (a:=⟨q+1+1+1,0,none⟩) sO (.int .i64 (-t.dy))).other (a:=⟨q+1+1+1,1,none⟩) sO ↑t.dx).zA l) (((G.Z.other (a:=⟨q+1+1+1,0,none⟩) sI (.int .i64 (-t.dy))).other (a:=⟨q+1+1+1,1,none⟩) sI ↑t.dx).zA l) (((b3.Z.other (a:=⟨q+1+1+1,0,none⟩) (oT A.Z o.Z) (.int .i64 (-t.dy))).other (a:=⟨q+1+1+1,1,none⟩) (oT A.Z o.Z) ↑t.dx).zA l);have R:Hd (Blk I (q+1+1+1) 176 #[.int .i64 (-t.dy),t.dx]):=Jh (by exact ((D.Z.set 0 (.int .i64 (-t.dy))).set 1 ↑t.dx).zA l);have M:=Jh ((((N.Z.other (a:=⟨q+1+1+1,0,none⟩) (oS o.Z) (.int .i64 (-t.dy))).other (a:=⟨q+1+1+1,1,none⟩) (oS o.Z) ↑t.dx)).of_block (w':=I) (l.block g (by have:=N.Z.lt;simpa using this)));have L:=Jh (zL ((b1.Z.setCell (show w.heap.size<=(⟨q+1+1+1,0,none⟩:Addr).block by have:=A.Z;have:=o.Z;simp;omega) (.int .i64 (-t.dy))).setCell (show w.heap.size<=(⟨q+1+1+1,1,none⟩:Addr).block by have:=A.Z;have:=o.Z;simp;omega) ↑t.dx) l);clear l a0 a1 W d1 l0 o0 o1 o2 f0 f1 P T G D b3 N b1;have f0:=B.Z.frozen 0;have f1:=B.Z.frozen 1;have a0:=B.Z.cell 0;have a1:=B.Z.cell 1;obtain ⟨l0,o0,o1,o2⟩:=F.Z.c3;simp only [Yi,List.getElem?_cons_zero,List.getElem?_cons_succ] at a0 a1
   go_wp2
   go_roundw
   . have E:=Zo b5.Z
     refine ⟨k+1,qB s k t,putS S t.x t.y,om,by go_num,Jh (by rw [HT.Z];rfl),?_,?_,(O.Z.same ((Below.heap_setCell _ _ _ _ sD).trans (Below.heap_setCell _ _ _ _ sD))),(F.Z.other sO _).other sO _,?_,?_,(Q.Z.other (oT A.Z o.Z) _).other (oT A.Z o.Z) _,(L.Z.setCell (oT A.Z o.Z) _).setCell (oT A.Z o.Z) _⟩;rw [E];exact b7;rw [E,Fq];exact (M.Z.other (oS o.Z) _).other (oS o.Z) _;rw [E];exact (B.Z.set 0 _).set 1 _;rw [E];exact (R.Z.other sI _).other sI _
   exact Jm
 obtain rfl:n=k:=om
 have HE:Hd (Own wr g n n (kW s n).r):=Jh (by
  have h:=HF.Z.2;rw [<-HN.Z] at h;have h2:=HO.Z;rw [HT.Z,zCs (fun v hv=>zCK h v hv)] at h2
  exact h2)
 obtain ⟨r0,r1,r2,r3⟩:=KR.Z.c3;obtain ⟨q0,q1,q2⟩:=KR.Z.f3
 go_wp2
 exact bodyPost_ret (v:= .tuple #[.agg #[s,s, .slice ↑g n n], .bool true]) (by simp [results,results136,go_sem,r1,r2,r3]) rfl
  ⟨_,_,_,rfl,OwnA.mk (((HE.Z.other (oS A.Z) _).other (oS A.Z) _).other (oS A.Z) _) (oh A),om,
   ((HB.Z.setCell sI _).setCell sI _).setCell sI _⟩
theorem wN (W H:Int) (a:Option Addr) (n c:Nat) (ok:Bool) (w:World):
 Calls prog 135 #[.agg #[W,H, .slice a n c], .bool ok] w fun e w'=>e= .returned (.func (.func 180) #[] #[.pointer ↑w])/\w'=w.alloc (.cells #[W,H, .slice a n c] 32):=by
 go_in
 go_wp2
 go_ret;exact ⟨rfl,rfl⟩
def ZG (w:World) (m:Mat) (e:Ending) (w':World):Prop:=
 ∃(mb:Nat) (a:Option Addr) (n c:Nat),e= .returned (.tuple #[.iface 137 (.func (.func 180) #[] #[.pointer ↑mb]), .bool true])/\
  Blk w' mb 32 #[m.W,m.H, .slice a n c]/\OwnA w' w a n c m.ranks/\n<=1048576/\Below w w w'
section
set_option maxRecDepth 100000
theorem mF (u:Option Addr) (A:Nat) (x:Int) (w:World) (hr:Rd w u [x]):
 Calls prog 77 #[.string ⟨#[98,97,121,101,114]⟩, .slice u 1 A] w (ZG w (kK x).1):=by
 have D:=Jh hr;have g:=Jh (zM (Below.refl w w) (.cells #[.slice u 1 A] 22));obtain ⟨b,off,q,t,l⟩:=(hr.below g.Z).at sI;subst q;have B:=l 0 sI;rw [show [x].getD 0 0=x from rfl,Yy] at B;clear hr l;go_in;go_wp2_with fail;refine (Ea x _).mono ?_;rintro e w1 ⟨a,n,c,rfl,v,hn,hb⟩;have o:=Jh (zL g.Z hb);have C:=Jh v;clear hb v B t;go_wp2_with fail;refine (wN _ _ a n c _ _).mono ?_;rintro e w2 ⟨rfl,rfl⟩
 go_wp2
 go_ret2;exact ⟨w1.heap.size,a,n,c,rfl,Blk.new _ _ _,OwnA.mono (C.Z.alloc _) sI,hn,zM o.Z _⟩
theorem bL (u:Option Addr) (A:Nat) (x:Int) (w:World) (hr:Rd w u [x]):
 Calls prog 77 #[.string ⟨#[115,112,105,114,97,108]⟩, .slice u 1 A] w (ZG w (kC x).1):=by
 have D:=Jh hr;have g:=Jh (zM (Below.refl w w) (.cells #[.slice u 1 A] 22));obtain ⟨b,off,q,t,l⟩:=(hr.below g.Z).at sI;subst q;have B:=l 0 sI;rw [show [x].getD 0 0=x from rfl,Yy] at B;clear hr l;go_in;go_wp2_with fail;refine (DN x _).mono ?_;rintro e w1 ⟨a,n,c,rfl,v,hn,hb⟩;have o:=Jh (zL g.Z hb);have C:=Jh v;clear hb v B t;go_wp2_with fail;refine (wN _ _ a n c _ _).mono ?_;rintro e w2 ⟨rfl,rfl⟩
 go_wp2
 go_ret2;exact ⟨w1.heap.size,a,n,c,rfl,Blk.new _ _ _,OwnA.mono (C.Z.alloc _) sI,hn,zM o.Z _⟩
end
end
section
variable {a a' b b' c e i j k m s : Nat} {f g1 g2 : Nat → Int} {key : Int → Int} {x y z : Int}
open Tq Go.Proofs.Tryz
def RL (key:Int->Int) (x y:Int):Prop:=key x<key y\/(key x=key y/\x<y)
theorem RL.trans (h:RL key x y) (k:RL key y z):RL key x z:=by unfold RL at*;omega
theorem RL.irrefl: ¬RL key x x:=by unfold RL;omega
theorem RL.of_not (h: ¬RL key y x) (g:x≠y):RL key x y:=by unfold RL at*;omega
theorem RL.later (h:y<x):RL key x y↔key x<key y:=by unfold RL;omega
def Srt (key:Int->Int) (f:Nat->Int) (a b:Nat):Prop:= ∀i j,a<=i->i<j->j<b->RL key (f i) (f j)
def Ny (f f0:Nat->Int) (a b:Nat):Prop:= ∀k,a<=k->k<b-> ∃k0,a<=k0/\k0<b/\f k=f0 k0
def zEB (f f0:Nat->Int) (a b:Nat):Prop:= ∀k,k<a\/b<=k->f k=f0 k
def uJ (f:Nat->Int) (a m b:Nat):Prop:= ∀i j,a<=i->i<m->m<=j->j<b->f i<f j
theorem Srt.sub (h:Srt key f a b) (h1:a<=a') (h2:b'<=b):Srt key f a' b':=fun i j p q r=>h i j om q om
theorem Srt.le (h:Srt key f a b) (h1:a<=i) (h2:i<=j) (h3:j<b):RL key (f i) (f j)\/f i=f j:=by
 by_cases e:i=j
 right;rw [e];left;exact h i j h1 om h3
def sw (f:Nat->Int) (i j:Nat):Nat->Int:=fun k=>if k=i then f j else if k=j then f i else f k
def jW (a b m:Nat) (f:Nat->Int):Nat->Int:=fun k=>if a<=k/\k<a+m then f (k - a+b) else if b<=k/\k<b+m then f (k - b+a) else f k
def zw (a m b:Nat) (f:Nat->Int):Nat->Int:=fun k=>if a<=k/\k<a+(b - m) then f (k - a+m) else if a+(b - m)<=k/\k<b then f (k - (b - m)) else f k
theorem dZ (a b:Nat) (f:Nat->Int):jW a b 0 f=f:=by
 funext k;unfold jW;rw [if_neg om,if_neg om]
theorem dY (a b i:Nat) (f:Nat->Int) (h:a+(i+1)<=b):sw (jW a b i f) (a+i) (b+i)=jW a b (i+1) f:=by
 funext k
 unfold sw;by_cases h1:k=a+i
 subst h1;rw [if_pos rfl];unfold jW;rw [if_neg om,if_neg om,if_pos om];congr 1;omega;rw [if_neg h1];by_cases h2:k=b+i
 subst h2;rw [if_pos rfl];unfold jW;rw [if_neg om,if_neg om,if_neg om,if_pos om];congr 1;omega;rw [if_neg h2];unfold jW;by_cases h3:a<=k/\k<a+i
 rw [if_pos h3,if_pos om];rw [if_neg h3];by_cases h4:b<=k/\k<b+i
 rw [if_pos h4,if_neg om,if_pos om];rw [if_neg h4,if_neg om,if_neg om]
theorem zCS (m i:Nat) (f:Nat->Int) (h:i<=m):jW (m - i) m i f=zw (m - i) m (m+i) f:=by
 funext k
 unfold jW zw;by_cases h1:m - i<=k/\k<m - i+i
 rw [if_pos h1,if_pos om];rw [if_neg h1];by_cases h2:m<=k/\k<m+i
 rw [if_pos h2,if_neg om,if_pos om];congr 1;omega;rw [if_neg h2,if_neg om,if_neg om]
theorem zAb (m i j:Nat) (f:Nat->Int) (h:i<=m) (g:j<i):zw (m - (i - j)) m (m+j) (jW (m - i) m j f)=zw (m - i) m (m+j) f:=by
 funext k
 unfold zw;by_cases h1:m - i<=k/\k<m - i+(m+j - m)
 rw [if_pos h1,if_neg om,if_neg om];unfold jW;rw [if_pos om];rw [if_neg h1];by_cases h2:m - i+(m+j - m)<=k/\k<m+j
 rw [if_pos h2];by_cases h3:m - (i - j)<=k/\k<m - (i - j)+(m+j - m)
 rw [if_pos h3];unfold jW;rw [if_neg om,if_pos om];congr 1;omega;rw [if_neg h3,if_pos om];unfold jW;rw [if_neg om,if_neg om];rw [if_neg h2,if_neg om,if_neg om];unfold jW;rw [if_neg om,if_neg om]
theorem nH (m i j:Nat) (f:Nat->Int) (h:i<=m) (g:i<j):zw (m - i) m (m+(j - i)) (jW (m - i) (m+j - i) i f)=zw (m - i) m (m+j) f:=by
 funext k
 unfold zw;by_cases l:k<m - i\/m+j<=k
 rw [if_neg om,if_neg om,if_neg om,if_neg om];unfold jW;rw [if_neg om,if_neg om];by_cases h1:k<m - i+(j - i)
 rw [if_pos om,if_pos om];unfold jW;by_cases h2:k - (m - i)+m<m+j - i
 rw [if_neg om,if_neg om];omega;by_cases h2:k<m+(j - i)
 rw [if_neg om,if_pos om];unfold jW;rw [if_pos om,if_pos om];congr 1;omega;rw [if_neg om,if_neg om,if_neg om,if_pos om];unfold jW;rw [if_neg om,if_pos om];congr 1;omega
theorem Ka (f:Nat->Int) (h:a=m\/m=b) (h1:a<=m) (h2:m<=b):zw a m b f=f:=by
 funext k
 unfold zw;rcases h with rfl | rfl
 by_cases h3:a<=k/\k<a+(b - a)
 rw [if_pos h3];congr 1;omega;rw [if_neg h3,if_neg om];rw [if_neg om];by_cases h3:a+(m - m)<=k/\k<m
 rw [if_pos h3];congr 1;omega;rw [if_neg h3]
theorem YE (f:Nat->Int) (h1:a<=k) (h2:k<a+(b - m)):zw a m b f k=f (k - a+m):=by unfold zw;rw [if_pos ⟨h1,h2⟩]
theorem Zf (f:Nat->Int) (h1:a+(b - m)<=k) (h2:k<b):zw a m b f k=f (k - (b - m)):=by unfold zw;rw [if_neg om,if_pos ⟨h1,h2⟩]
theorem jX (f:Nat->Int) (h:k<a\/b<=k) (h1:a<=m) (h2:m<=b):zw a m b f k=f k:=by unfold zw;rw [if_neg om,if_neg om]
theorem zDx (a k m:Nat) (f:Nat->Int) (h:a<=k):sw (zw a (a+1) (k+1) f) k (k+1)=zw a (a+1) (k+2) f:=by
 funext p
 unfold sw;by_cases h1:p=k
 subst h1;rw [if_pos rfl,jX f om om om,YE f h om];congr 1;omega;rw [if_neg h1];by_cases h2:p=k+1
 subst h2;rw [if_pos rfl,Zf f om om,Zf f om om];congr 1;omega;rw [if_neg h2];by_cases h3:p<a\/k+2<=p
 rw [jX f om om om,jX f om om om];rw [YE f om om,YE f om om]
theorem zCZ (k m:Nat) (f:Nat->Int) (h:k<m):sw (zw (k+1) m (m+1) f) (k+1) k=zw k m (m+1) f:=by
 funext p
 unfold sw;by_cases h1:p=k+1
 subst h1;rw [if_pos rfl,jX f om om om,Zf f om om];congr 1;omega;rw [if_neg h1];by_cases h2:p=k
 subst h2;rw [if_pos rfl,YE f om om,YE f om om];congr 1;omega;rw [if_neg h2];by_cases h3:p<k\/m+1<=p
 rw [jX f om om om,jX f om om om];rw [Zf f om om,Zf f om om]
structure zX (key:Int->Int) (f f0:Nat->Int) (a b:Nat):Prop where
 srt:Srt key f a b
 frm:Ny f f0 a b
 same:zEB f f0 a b
theorem Ny.refl (f:Nat->Int) (a b:Nat):Ny f f a b:=fun k h1 h2=>⟨k,h1,h2,rfl⟩
theorem zX.self (h:Srt key f a b):zX key f f a b:=⟨h,Ny.refl f a b,fun _ _=>rfl⟩
structure wL (key:Int->Int) (f:Nat->Int) (a s m e b:Nat):Prop where
 h1:a<=s
 h2:s<=m
 h3:m<=e
 h4:e<=b
 sl:Srt key f a m
 sr:Srt key f m b
 lr: ∀i j,a<=i->i<s->e<=j->j<b->RL key (f i) (f j)
 rl: ∀i j,m<=i->i<e->s<=j->j<m->RL key (f i) (f j)
theorem wL.lo (h:wL key f a s m e b):Srt key (zw s m e f) a s/\Srt key (zw s m e f) s (s+(e - m)):=by
 obtain ⟨h1,h2,h3,h4,sl,sr,lr,rl⟩:=h;constructor;intro i j p q r;rw [jX f om h2 h3,jX f om h2 h3];exact sl i j p q om;intro i j p q r;rw [YE f om om,YE f om om];exact sr _ _ om om om
theorem wL.hi (h:wL key f a s m e b):Srt key (zw s m e f) (s+(e - m)) e/\Srt key (zw s m e f) e b:=by
 obtain ⟨h1,h2,h3,h4,sl,sr,lr,rl⟩:=h;constructor;intro i j p q r;rw [Zf f om om,Zf f om om];exact sl _ _ om om om;intro i j p q r;rw [jX f om h2 h3,jX f om h2 h3];exact sr i j om q r
theorem FI (f:Nat->Int) (h1:a<=s) (h2:s<=m) (h3:m<=e) (h4:e<=b):Ny (zw s m e f) f a b:=by
 intro k p q;by_cases c1:k<s\/e<=k
 exact ⟨k,p,q,jX f c1 h2 h3⟩;by_cases c2:k<s+(e - m)
 exact ⟨k - s+m,om,om,YE f om c2⟩;exact ⟨k - (e - m),om,om,Zf f om om⟩
theorem wL.parts (h:wL key f a s m e b) (i j:Nat) (p:a<=i) (q:i<s+(e - m)) (r:s+(e - m)<=j) (t:j<b):RL key (zw s m e f i) (zw s m e f j):=by
 obtain ⟨h1,h2,h3,h4,sl,sr,lr,rl⟩:=h;by_cases c1:i<s
 rw [jX f om h2 h3];by_cases c2:j<e
 rw [Zf f om c2];exact sl _ _ p om om;rw [jX f om h2 h3];exact lr _ _ p c1 om t;rw [YE f om q];by_cases c2:j<e
 rw [Zf f om c2];exact rl _ _ om om om om;rw [jX f om h2 h3];exact sr _ _ om om t
theorem wL.done (h:wL key f a s m e b) (n:zX key g1 (zw s m e f) a (s+(e - m))) (l:zX key g2 g1 (s+(e - m)) b):zX key g2 f a b:=by
 have t:=h;obtain ⟨h1,h2,h3,h4,sl,sr,lr,rl⟩:=h
 have lo: ∀k,a<=k->k<s+(e - m)-> ∃g,a<=g/\g<s+(e - m)/\g2 k=zw s m e f g:=fun k p q=>by
  rw [l.same k om];exact n.frm k p q
 have hi: ∀k,s+(e - m)<=k->k<b-> ∃g,s+(e - m)<=g/\g<b/\g2 k=zw s m e f g:=fun k p q=>by
  obtain ⟨g,a0,a1,a2⟩:=l.frm k p q;exact ⟨g,a0,a1,by rw [a2];exact n.same g om⟩
 refine ⟨?_,?_,?_⟩;intro i j p q r;by_cases c1:j<s+(e - m)
 rw [l.same i om,l.same j om];exact n.srt i j p q c1;by_cases c2:i<s+(e - m)
 obtain ⟨g,a0,a1,a2⟩:=lo i p c2;obtain ⟨k1,o,b1,b2⟩:=hi j om r;rw [a2,b2];exact t.parts g k1 a0 a1 o b1;exact l.srt i j om q r;intro k p q;by_cases c1:k<s+(e - m)
 obtain ⟨g,a0,a1,a2⟩:=lo k p c1;rw [a2];exact FI f h1 h2 h3 h4 g a0 om;obtain ⟨g,a0,a1,a2⟩:=hi k om q;rw [a2];exact FI f h1 h2 h3 h4 g om a1;intro k p;rw [l.same k om,n.same k om,jX f om h2 h3]
theorem wL.lless (h:wL key f a s m e b) (hl:uJ f a m b):uJ (zw s m e f) a s (s+(e - m))/\uJ (zw s m e f) (s+(e - m)) e b:=by
 obtain ⟨h1,h2,h3,h4,sl,sr,lr,rl⟩:=h;constructor;intro i j p q r t;rw [jX f om h2 h3,YE f om t];exact hl _ _ p om om om;intro i j p q r t;rw [Zf f om q,jX f om h2 h3];exact hl _ _ om om om t
theorem LZ (h1:a+1<=i) (h2:i<=b) (sr:Srt key f (a+1) b) (hl:uJ f a (a+1) b) (p: ∀k,a+1<=k->k<i->RL key (f k) (f a)) (q: ∀k,i<=k->k<b-> ¬RL key (f k) (f a)):wL key f a a (a+1) i b:=
 ⟨nI,om,h1,h2,fun x y _ _ _=>om,sr,fun x y _ _ _ _=>om,fun x y c1 c2 c3 c4=>by
  obtain rfl:y=a:=om
  exact p x c1 c2⟩
theorem DT (h1:a+1<=i) (h2:i<=b) (sr:Srt key f (a+1) b) (hl:uJ f a (a+1) b) (q: ∀k,i<=k->k<b-> ¬RL key (f k) (f a)):Srt key (zw a (a+1) i f) (a+(i - (a+1))) b:=by
 intro x y c1 c2 c3;rw [jX (k:=y) f om om h1];by_cases c4:x<i
 rw [Zf f c1 c4];obtain rfl:x=i - 1:=om;rw [show i - 1 - (i - (a+1))=a by omega];exact RL.of_not (q y om c3) (og (hl a y om om om c3));rw [jX f om om h1];exact sr x y om c2 c3
theorem IB (h1:a<=i) (h2:i<=m) (sl:Srt key f a m) (hl:uJ f a m (m+1)) (p: ∀k,a<=k->k<i-> ¬RL key (f m) (f k)) (q: ∀k,i<=k->k<m->RL key (f m) (f k)):wL key f a i m (m+1) (m+1):=
 ⟨h1,h2,om,om,sl,fun x y _ _ _=>om,fun x y _ _ _ _=>om,fun x y c1 c2 c3 c4=>by
  obtain rfl:x=m:=om
  exact q y c3 c4⟩
theorem CO (h1:a<=i) (h2:i<=m) (sl:Srt key f a m) (hl:uJ f a m (m+1)) (p: ∀k,a<=k->k<i-> ¬RL key (f m) (f k)):Srt key (zw i m (m+1) f) a (i+(m+1 - m)):=by
 intro x y c1 c2 c3;rw [jX (k:=x) f om h2 om];by_cases c4:y<i
 rw [jX f om h2 om];exact sl x y c1 c2 om;rw [YE f om c3];obtain rfl:y=i:=om;rw [show y - y+m=m by omega];exact RL.of_not (p x c1 c2) (og (hl x m c1 om om om))
structure Xi (key:Int->Int) (f:Nat->Int) (p lo hi s r:Nat):Prop where
 h1:lo<=s
 h2:s<=r
 h3:r<=hi
 no: ∀c,lo<=c->c<s-> ¬RL key (f (p - c)) (f c)
 yes: ∀c,r<=c->c<hi->RL key (f (p - c)) (f c)
structure FZ (key:Int->Int) (f:Nat->Int) (a m b p lo hi:Nat):Prop where
 am:a<=lo
 hm:hi<=m
 lh:lo<=hi
 pl: ∀c,lo<=c->c<hi->m<=p - c/\p - c<b/\c<=p
 sl:Srt key f a m
 sr:Srt key f m b
theorem Xi.up {p lo hi r:Nat} (F:FZ key f a m b p lo hi) (P:Xi key f p lo hi s r) (h1:s<=c) (h2:c<r) (h: ¬RL key (f (p - c)) (f c)):Xi key f p lo hi (c+1) r:=by
 refine ⟨by have:=P.h1;omega,om,P.h3,fun x h3 h4 g=>?_,P.yes⟩;have g1:=P.h1;have g3:=P.h3;by_cases e:x=c
 subst e;exact h g;have o:=F.pl x h3 om;have q:=F.pl c om om;have l:=F.sr (p - c) (p - x) om om om;have n:=F.sl x c (og F.am) om (og F.hm);exact h ((l.trans g).trans n)
theorem Xi.down {p lo hi r:Nat} (F:FZ key f a m b p lo hi) (P:Xi key f p lo hi s r) (h1:s<=c) (h2:c<r) (h:RL key (f (p - c)) (f c)):Xi key f p lo hi s c:=by
 refine ⟨P.h1,h1,by have:=P.h3;omega,P.no,fun x h3 h4=>?_⟩;have g1:=P.h1;have g3:=P.h3;by_cases e:x=c
 subst e;exact h;have n:=F.pl x om h4;have o:=F.pl c om om;have g:=F.sr (p - x) (p - c) om om om;have l:=F.sl c x (og F.am) om (og F.hm);exact (g.trans h).trans l
theorem Dr {mid lo hi:Nat} (G:a<m) (I:m<b) (h1:a<mid) (h2:mid<b) (F:FZ key f a m b (mid+m - 1) lo hi) (hl:uJ f a m b)
 (l:lo=a\/(lo+b=mid+m)) (g:hi=m\/(hi=mid)) (P:Xi key f (mid+m - 1) lo hi s s) (H:mid+m<=lo+b):wL key f a s m (mid+m - s) b:=by
 have v:=P.h1;have L:=P.h3;have B:=F.am;have C:=F.hm
 have A:m<=mid+m - s:=by
  rcases g with e | e
  by_cases c:s<hi
  have:=F.pl s v c;omega;have:s=m:=om;have E:lo<hi->m<=mid+m - 1 - (hi - 1):=fun h=>(F.pl (hi - 1) om om).1;by_cases D:lo<hi
  have:=E D;omega;rcases l with e2 | e2 <;>omega
  omega
 refine ⟨om,om,A,om,F.sl,F.sr,fun i j q J t u=>?_,fun i j q J t u=>?_⟩
 have c:lo<s:=by
  rcases l with e | e
  omega;by_cases h:lo<s
  exact h;omega
 have k:=F.pl (s - 1) om om;have n:=P.no (s - 1) om om;rw [show mid+m - 1 - (s - 1)=mid+m - s by omega] at n k;have o:=RL.of_not n (og (hl (s - 1) (mid+m - s) om om om om));rcases F.sl.le q (show i<=s - 1 by omega) om with g1 | g1 <;>rcases F.sr.le (show m<=mid+m - s by omega) t u with g2 | g2
 exact (g1.trans o).trans g2;rw [<-g2];exact g1.trans o;rw [g1];exact o.trans g2;rw [g1,<-g2];exact o
 have c:s<hi:=by
  rcases g with e | e
  omega;by_cases h:s<hi
  exact h;omega
 have k:=F.pl s v c;have n:=P.yes s om c;rcases F.sr.le q (show i<=mid+m - 1 - s by omega) om with g1 | g1 <;>rcases F.sl.le (show a<=s by omega) t u with g2 | g2
 exact (g1.trans n).trans g2;rw [<-g2];exact g1.trans n;rw [g1];exact n.trans g2;rw [g1,<-g2];exact n
end
end Go.Proofs.YtlenfgdjdianiaaGreatDoor
