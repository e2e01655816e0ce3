/- Facts on which this claim rests, 43. -/
import Derived.Test.YtlenfgdjdianiaaGreatDoorF29
set_option linter.all false
set_option maxHeartbeats 6400000
namespace Go.Proofs.YtlenfgdjdianiaaGreatDoor
open Go.RowKit Tq Go.Proofs.Tryz
theorem Jb (W H:Int) (b:Option Addr) (n a:Nat) (xs:List Int) (w:World) (hn:xs.length=n) (ha:Rd w b xs) (c:zf W H xs=true):
 Calls prog 158 #[.agg #[W,H, .slice b n a],Z1,Z1] w fun e w'=>e= .returned ↑(js W H xs)/\Below w w w':=by
 have h:=QY W H b n a xs 1 1 w hn ha c (Or.inl rfl);rw [<-hn] at h⊢;exact h
theorem UP (W H:Int) (b:Option Addr) (n a:Nat) (xs:List Int) (w:World) (hn:xs.length=n) (ha:Rd w b xs) (c:zf W H xs=true):
 Calls prog 158 #[.agg #[W,H, .slice b n a],Z0, .int .i64 (-1)] w fun e w'=>e= .returned ↑(vg W H xs)/\Below w w w':=by
 have h:=QY W H b n a xs 0 (-1) w hn ha c (Or.inr rfl);rw [<-hn] at h⊢;exact h
set_option maxRecDepth 100000 in
theorem zDx (W H:Int) (b off n m:Nat) (xs:List Int) (w:World) (hn:xs.length=n) (ha:Rd w (some ↑(b,off)) xs) (hl:n<=1048576):
 Calls prog 156 #[.agg #[W,H, .slice (some ↑(b,off)) n m]] w (zBo w W H n (qe W H xs)):=by
 have L:=Jh hn;have HA:=Jh ha;clear hn ha;go_in;go_wp2_with fail;have u:=Jh ((Blk.new w 31 #[W,H, .slice (some ↑(b,off)) n m]).alloc (.cells ↑Zp 31));have c:=Jh (Blk.zD (g:=w.heap.size+1) (w:=w.alloc (.cells #[W,H, .slice (some ↑(b,off)) n m] 31)) 31 ↑Zp sI);have f:=Jh (zJ (zJ (Below.refl w w) (.cells #[W,H, .slice (some ↑(b,off)) n m] 31)) (.cells ↑Zp 31));have B:=Jh ((HA.Z.alloc (.cells #[W,H, .slice (some ↑(b,off)) n m] 31)).alloc (.cells ↑Zp 31));obtain ⟨wo,b1⟩:=zN ((w.alloc (.cells #[W,H, .slice (some ↑(b,off)) n m] 31)).alloc (.cells ↑Zp 31):World);have l:Hd (wo.heap.size=w.heap.size+1+1):=Jh (by rw [b1];simp);rw [<-b1] at u c f B⊢;clear b1;obtain ⟨o,q,s,t⟩:=u.Z.c3;refine (uj W H b off n m xs _ L.Z (by exact B.Z) hl).mono ?_;rintro e w2 ⟨F,y,rfl,ho,hb⟩;have ZB:Hd (w.heap.size+1<w2.heap.size):=Jh (zB hb.size l.Z);have u:=Jh ((u.Z.zA hb).alloc (.cells #[W,H, .slice F n y] 31));have c:=Jh ((c.Z.zA hb).alloc (.cells #[W,H, .slice F n y] 31));have j:=Jh (Blk.new w2 31 #[W,H, .slice F n y]);have A:=Jh (ho.alloc (.cells #[W,H, .slice F n y] 31));have B:=Jh ((B.Z.below hb).alloc (.cells #[W,H, .slice F n y] 31));have f:=Jh (zJ (zI f.Z hb) (.cells #[W,H, .slice F n y] 31));have HG:Hd (∀g,zL F=some g->wo.heap.size<=g/\g<w2.heap.size):=Jh ho.bd;clear hb ho o q s t;obtain ⟨o,q,s,t⟩:=u.Z.c3;obtain ⟨w3,b5⟩:=zN (w2.alloc (.cells #[W,H, .slice F n y] 31));go_wp2_with fail;rw [<-b5] at u c j A B f o q s t⊢;clear b5;refine (XA W H _ n m xs _ L.Z (by exact B.Z) om).mono ?_;rintro e w4 ⟨rfl,hb⟩;have u:=Jh (u.Z.zA hb);have c:=Jh (c.Z.zA hb);have j:=Jh (j.Z.zA hb);have A:=Jh (A.Z.zA hb);have B:=Jh (B.Z.below hb);have f:=Jh (zI f.Z hb);clear hb o q s t;obtain ⟨o,q,s,t⟩:=u.Z.c3;by_cases D:zf W H xs=true
 case neg=>
  have z:=Jh (zOa D);have U:zf W H xs=false:=by simpa using D
  rw [U];clear D U o q s t;obtain ⟨z0,N,O,P⟩:=c.Z.c3;obtain ⟨f0,f1,f2⟩:=c.Z.f3;obtain ⟨o,q,s,t⟩:=j.Z.c3;go_wp2_with fail
  exact bodyPost_ret (v:= .tuple #[.agg #[W,H, .slice F n y], .bool false]) (by simp [results,results156,go_sem,N,O,P]) rfl
   ⟨_,_,by rw [z.Z],by rw [z.Z];exact (((A.Z.other (by simp;(try have:=l.Z);omega) _).other (by simp;(try have:=l.Z);omega) _).other (by simp;(try have:=l.Z);omega) _).mono (oh l),
    ((f.Z.setCell sD _).setCell sD _).setCell sD _⟩
 have x:=Jh D;rw [D];clear D;go_wp2_with fail;refine (Jb W H _ n m xs _ L.Z (by exact B.Z) x.Z).mono ?_;rintro e w5 ⟨rfl,hb⟩;have u:=Jh (u.Z.zA hb);have c:=Jh (c.Z.zA hb);have j:=Jh (j.Z.zA hb);have A:=Jh (A.Z.zA hb);have B:=Jh (B.Z.below hb);have f:=Jh (zI f.Z hb);clear hb o q s t;obtain ⟨o,q,s,t⟩:=u.Z.c3;have TC:=Jh (qY W H xs);by_cases ht:js W H xs<0
 . have z:Hd (qe W H xs=(xs,false)):=Jh (by rw [Xc x.Z];unfold xG;rw [if_pos ht])
   obtain ⟨T,R⟩: ∃T,js W H xs=T:=⟨_,rfl⟩
   rw [R] at ht⊢;clear R o q s t;obtain ⟨z0,N,O,P⟩:=c.Z.c3;obtain ⟨f0,f1,f2⟩:=c.Z.f3;obtain ⟨o,q,s,t⟩:=j.Z.c3;go_wp2_with fail
   exact bodyPost_ret (v:= .tuple #[.agg #[W,H, .slice F n y], .bool false]) (by simp [results,results156,go_sem,N,O,P]) rfl
    ⟨_,_,by rw [z.Z],by rw [z.Z];exact (((A.Z.other (by simp;(try have:=l.Z);omega) _).other (by simp;(try have:=l.Z);omega) _).other (by simp;(try have:=l.Z);omega) _).mono (oh l),
     ((f.Z.setCell sD _).setCell sD _).setCell sD _⟩
 obtain ⟨i,h1,h2,h3⟩: ∃i:Nat,js W H xs=i/\i<xs.length/\xs.getD i 0=1:=by
  rcases TC.Z with h | h
  omega;exact h
 have HT:=Jh h1;have HI:=Jh h3;rw [L.Z] at h2;rw [h1];have d0:0<=(i:Int):=om;clear h1 h3 ht TC;go_wp2_with fail;refine (UP W H _ n m xs _ L.Z (by exact B.Z) x.Z).mono ?_;rintro e w6 ⟨rfl,hb⟩;have u:=Jh (u.Z.zA hb);have c:=Jh (c.Z.zA hb);have j:=Jh (j.Z.zA hb);have A:=Jh (A.Z.zA hb);have B:=Jh (B.Z.below hb);have f:=Jh (zI f.Z hb);clear hb o q s t;by_cases hw:vg W H xs<0
 . have z:Hd (qe W H xs=(xs,false)):=Jh (by rw [Xc x.Z];exact zMP (uA (xn rfl x.Z).2.2.2.2.2.2.2.1) hw)
   obtain ⟨T,R⟩: ∃T,vg W H xs=T:=⟨_,rfl⟩
   rw [R] at hw⊢;clear R;obtain ⟨z0,N,O,P⟩:=c.Z.c3;obtain ⟨f0,f1,f2⟩:=c.Z.f3;obtain ⟨o,q,s,t⟩:=j.Z.c3;go_wp2_with fail
   exact bodyPost_ret (v:= .tuple #[.agg #[W,H, .slice F n y], .bool false]) (by simp [results,results156,go_sem,N,O,P]) rfl
    ⟨_,_,by rw [z.Z],by rw [z.Z];exact (((A.Z.other (by simp;(try have:=l.Z);omega) _).other (by simp;(try have:=l.Z);omega) _).other (by simp;(try have:=l.Z);omega) _).mono (oh l),
     ((f.Z.setCell sD _).setCell sD _).setCell sD _⟩
 obtain ⟨g,c1,c0,b4⟩: ∃g,F=some ⟨g,0,none⟩/\wo.heap.size<=g/\Own w6 g n y xs:=by
  rcases A.Z with ⟨_,h,_⟩ | h
  omega;exact h
 subst c1;have c8:g<w2.heap.size:=(HG.Z g rfl).2;have E:=Jh b4;clear A HG b4;obtain ⟨T,R⟩: ∃T,vg W H xs=T:=⟨_,rfl⟩
 rw [R] at hw⊢;have d1:0<=T:=om;clear R hw;obtain ⟨o,q,s,t⟩:=j.Z.c3;go_wp2_with fail;refine (Jb W H _ n y xs _ L.Z (by exact E.Z.rd) x.Z).mono ?_;rw [HT.Z];rintro e w7 ⟨rfl,hb⟩;have u:=Jh (u.Z.zA hb);have c:=Jh (c.Z.zA hb);have j:=Jh (j.Z.zA hb);have E:=Jh (E.Z.below hb E.Z.lt);have f:=Jh (zI f.Z hb);clear hb o q s t;have Y:w7.cell? ⟨g,i,none⟩=some ↑(xs.getD i 0):=E.Z.cell h2;have b0:w7.frozen? ⟨g,i,none⟩=false:=E.Z.frozen i;have hs:=E.Z.set i 0;have EF:Hd (kS W H xs=xs.set i 0):=Jh (by unfold kS;rw [HT.Z];rfl);rw [<-EF.Z] at hs;have HF:=Jh (ZJ x.Z);have b7:Hd ((kS W H xs).length=n):=Jh (by rw [Xd];exact L.Z);have c5:w.heap.size+1<g:=by have:=l.Z;omega
 have b8:=Jh (u.Z.other (a:=⟨g,i,none⟩) sO ↑Z0);have b3:=Jh (c.Z.other (a:=⟨g,i,none⟩) sO ↑Z0);have X:=Jh (j.Z.other (a:=⟨g,i,none⟩) sO ↑Z0);have M:=Jh hs;have b2:=Jh (f.Z.setCell (show w.heap.size<=(⟨g,i,none⟩:Addr).block by simp;omega) ↑Z0);obtain ⟨o,q,s,t⟩:=j.Z.c3;obtain ⟨k0,p0,p1,p2⟩:=X.Z.c3;have b6:=Jh h2;clear hs;go_wp2_with fail;refine (UP W H _ n y (kS W H xs) _ b7.Z (by exact M.Z.rd) HF.Z).mono ?_
 obtain ⟨k,k1,k2,k3⟩: ∃k:Nat,vg W H (kS W H xs)=k/\k<n/\(kS W H xs).getD k 0=0:=by
  have h:=Jo (W:=W) (H:=H) (xs:=xs) (i:=i) (by rw [L.Z];exact b6.Z);rw [<-EF.Z,L.Z] at h;exact h
 rw [k1];rintro e w9 ⟨rfl,hb⟩
 have z:Hd (qe W H xs=((kS W H xs).set k 1,decide ((k:Int)≠i))):=Jh (by
  rw [Xc x.Z];unfold xG um;rw [if_neg (by rw [HT.Z];omega),k1,HT.Z]
  simp)
 have c:=Jh (b3.Z.zA hb);have j:=Jh (X.Z.zA hb);have E:=Jh (M.Z.below hb M.Z.lt);have f:=Jh (zI b2.Z hb);clear hb o q s t k0 p0 p1 p2 Y b0 k1 k3 u b8 b3 X M b2;have Y:w9.cell? ⟨g,k,none⟩=some ↑((kS W H xs).getD k 0):=E.Z.cell k2;have b0:w9.frozen? ⟨g,k,none⟩=false:=E.Z.frozen k;have Q:=Jh (E.Z.set k 1);have J:=Jh (c.Z.other (a:=⟨g,k,none⟩) sO ↑Z1);have I:=Jh (j.Z.other (a:=⟨g,k,none⟩) sO ↑Z1);have G:=Jh (f.Z.setCell (show w.heap.size<=(⟨g,k,none⟩:Addr).block by simp;omega) ↑Z1);obtain ⟨o,q,s,t⟩:=j.Z.c3;obtain ⟨c4,V⟩:=zN (w9.setCell ⟨g,k,none⟩ ↑Z1);go_upto_region 8 with fail;rw [<-V] at Q J I G⊢;clear V Y b0 c j f E o q s t;have c:=J;have j:=I;have f:=G;have A:Hd (OwnA c4 wo (some ⟨g,0,none⟩) n y ((kS W H xs).set k 1)):=Jh (OwnA.mk Q.Z c0);clear J I G;by_cases C:(k:Int)=(i:Int)
 . have hd:decide ((k:Int)≠i)=false:=by simp [C]
   rw [hd] at z;have hq:((k:Int) !=(i:Int))=false:=by simp [C]
   have HK:=Jh C;clear hd C;obtain ⟨z0,N,O,P⟩:=c.Z.c3;obtain ⟨f0,f1,f2⟩:=c.Z.f3;obtain ⟨o,q,s,t⟩:=j.Z.c3;go_wp2_with fail
   exact bodyPost_ret (v:= .tuple #[.agg #[W,H, .slice (some ⟨g,0,none⟩) n y], .bool false]) (by simp [results,results156,go_sem,N,O,P]) rfl
    ⟨_,_,by rw [z.Z],by rw [z.Z];exact (((A.Z.other (by simp;(try have:=l.Z);omega) _).other (by simp;(try have:=l.Z);omega) _).other (by simp;(try have:=l.Z);omega) _).mono (oh l),
     ((f.Z.setCell sD _).setCell sD _).setCell sD _⟩
 have hd:decide ((k:Int)≠i)=true:=sO;rw [hd] at z;have hq:((k:Int) !=(i:Int))=true:=sO;have HK:=Jh C;clear hd C;obtain ⟨z0,N,O,P⟩:=c.Z.c3;obtain ⟨f0,f1,f2⟩:=c.Z.f3;obtain ⟨o,q,s,t⟩:=j.Z.c3;go_wp2_with fail
 exact bodyPost_ret (v:= .tuple #[.agg #[W,H, .slice (some ⟨g,0,none⟩) n y], .bool true]) (by simp [results,results156,go_sem,N,O,P]) rfl
  ⟨_,_,by rw [z.Z],by rw [z.Z];exact (((A.Z.other (by simp;(try have:=l.Z);omega) _).other (by simp;(try have:=l.Z);omega) _).other (by simp;(try have:=l.Z);omega) _).mono (oh l),
   ((f.Z.setCell sD _).setCell sD _).setCell sD _⟩
set_option maxRecDepth 100000 in
theorem zCQ (W H:Int) (b off n l:Nat) (xs:List Int) (m:Int) (w:World) (hn:xs.length=n) (ha:Rd w (some ⟨b,off,none⟩) xs) (hl:n<=1048576):
 Calls prog 109 #[.agg #[W,H, .slice (some ⟨b,off,none⟩) n l],m] w (Ub w W H n (jN W H xs m)):=by
 have HN:=Jh hn;have HA:=Jh ha;clear hn ha;go_in;go_wp2_with fail;have Y:=Jh ((Blk.new w 31 #[W,H, .slice (some ⟨b,off,none⟩) n l]).alloc (.cells ↑Zp 31));have i:=Jh (Blk.zD (g:=w.heap.size+1) (w:=w.alloc (.cells #[W,H, .slice (some ⟨b,off,none⟩) n l] 31)) 31 ↑Zp sI);have y:=Jh (zJ (zJ (Below.refl w w) (.cells #[W,H, .slice (some ⟨b,off,none⟩) n l] 31)) (.cells ↑Zp 31));have RP:=Jh ((HA.Z.alloc (.cells #[W,H, .slice (some ⟨b,off,none⟩) n l] 31)).alloc (.cells ↑Zp 31));obtain ⟨X,R⟩:=zN ((w.alloc (.cells #[W,H, .slice (some ⟨b,off,none⟩) n l] 31)).alloc (.cells ↑Zp 31):World);have o:Hd (X.heap.size=w.heap.size+1+1):=Jh (by rw [R];simp);rw [<-R] at Y i y RP⊢;clear R;obtain ⟨B,C,D,E⟩:=Y.Z.c3;refine (uj W H b off n l xs _ HN.Z (by exact RP.Z) hl).mono ?_;rintro e w2 ⟨G,I,rfl,P,hb⟩;have ZB:Hd (X.heap.size<=w2.heap.size):=Jh hb.size;have x:=Jh (zJ hb (.cells #[W,H, .slice G n I] 31));have Y:=Jh ((Y.Z.zA hb).alloc (.cells #[W,H, .slice G n I] 31));have u:=Jh (Blk.new w2 31 #[W,H, .slice G n I]);have z:=Jh (P.alloc (.cells #[W,H, .slice G n I] 31));have RP:=Jh ((RP.Z.below hb).alloc (.cells #[W,H, .slice G n I] 31));have b0:=Jh P.bd;clear hb P B C D E;obtain ⟨B,C,D,E⟩:=Y.Z.c3;obtain ⟨w3,b3⟩:=zN (w2.alloc (.cells #[W,H, .slice G n I] 31));go_wp2_with fail;rw [<-b3] at Y u z RP x B C D E⊢;clear b3;refine (XA W H _ n l xs _ HN.Z (by exact RP.Z) om).mono ?_;rintro e w4 ⟨rfl,hb⟩;have u:=Jh (u.Z.zA hb);have z:=Jh (z.Z.zA hb);have x:=Jh (zI x.Z hb);clear hb B C D E;by_cases j:zf W H xs=true
 case neg=>
  have t:Hd (jN W H xs m=(xs,0)):=Jh (by unfold jN;rw [if_neg (fun h=>j h.1)]);have J:zf W H xs=false:=by simpa using j
  rw [J];have i:=Jh (i.Z.below x.Z i.Z.lt);have y:=Jh (zI y.Z x.Z);clear j J;obtain ⟨z0,T,U,V⟩:=i.Z.c3;obtain ⟨f0,f1,f2⟩:=i.Z.f3;obtain ⟨B,C,D,E⟩:=u.Z.c3;go_wp2_with fail
  exact bodyPost_ret (v:= .tuple #[.agg #[W,H, .slice G n I],Z0]) (by simp [results,results109,go_sem,T,U,V]) rfl
   ⟨_,_,by rw [t.Z],by rw [t.Z];exact (((z.Z.other (by simp;(try have:=o.Z);omega) _).other (by simp;(try have:=o.Z);omega) _).other (by simp;(try have:=o.Z);omega) _).mono (oh o),
    ((y.Z.setCell sD _).setCell sD _).setCell sD _⟩
 have b7:=Jh j;rw [j];by_cases hm:0<=m/\m<=64
 case neg=>
  have t:Hd (jN W H xs m=(xs,0)):=Jh (by unfold jN;rw [if_neg (fun h=>hm h.2)]);have HM:=Jh hm;clear j hm;go_wp2_with fail;refine (yx _ _ _ _ HM.Z).mono ?_;rintro e w5 ⟨rfl,rfl⟩;have i:=Jh (i.Z.below x.Z i.Z.lt);have y:=Jh (zI y.Z x.Z);obtain ⟨z0,T,U,V⟩:=i.Z.c3;obtain ⟨f0,f1,f2⟩:=i.Z.f3;obtain ⟨B,C,D,E⟩:=u.Z.c3;go_wp2_with fail
  exact bodyPost_ret (v:= .tuple #[.agg #[W,H, .slice G n I],Z0]) (by simp [results,results109,go_sem,T,U,V]) rfl
   ⟨_,_,by rw [t.Z],by rw [t.Z];exact (((z.Z.other (by simp;(try have:=o.Z);omega) _).other (by simp;(try have:=o.Z);omega) _).other (by simp;(try have:=o.Z);omega) _).mono (oh o),
    ((y.Z.setCell sD _).setCell sD _).setCell sD _⟩
 obtain ⟨M,hM⟩: ∃M:Nat,m=M:=⟨m.toNat,om⟩
 subst hM;have c4:M<=64:=om;have t:Hd (jN W H xs M=((xX W H M xs).1,((xX W H M xs).2:Int))):=Jh (by unfold jN;rw [if_pos ⟨j,hm⟩];rfl);have n1:1<=n:=(xn HN.Z j).2.2.2.2.2.2.1;clear j hm;go_wp2_with fail;refine (zz _ _ _ _ om om).mono ?_;rintro e w5 ⟨rfl,rfl⟩;go_wp2_with fail
 go_loopw [7] (fun s wr=> ∃(k:Nat) (a:Option Addr) (c:Nat) (f:List Int),k<=M/\s=↑k/\Hd (xX W H M xs=((xX W H (M - k) f).1,(xX W H (M - k) f).2+k))/\Hd (zf W H f=true)/\Hd (f.length=n)/\Hd (OwnA wr X a n c f)/\Hd (∀b,zL a=some b->b≠w2.heap.size)/\Hd (Blk wr w2 31 #[W,H, .slice a n c])/\Hd (Below X X wr)) (fun s _=>M - (intOf s).toNat)
 case atStart=>exact ⟨0,G,I,xs,nZ,rfl,Jh sI,b7,HN,z,Jh (fun b hb=>by have:=b0.Z b hb;omega),u,x⟩
 clear u z x b0;obtain ⟨k,a,c,f,hk,rfl,HE,HF,HL,z,c5,u,x⟩:=hrel;by_cases c8:k<M
 . obtain ⟨g,c1,c0,b1⟩: ∃g,a=some ⟨g,0,none⟩/\X.heap.size<=g/\Own wr g n c f:=by
    rcases z.Z with ⟨_,h,_⟩ | h
    omega;exact h
   subst c1;have HG:=Jh b1;clear b1;obtain ⟨B,C,D,E⟩:=u.Z.c3;go_wp2_with fail;refine (zDx W H g 0 n c f _ HL.Z (by exact HG.Z.rd) hl).mono ?_;rw [Xc HF.Z];rintro e w6 ⟨a2,c2,rfl,P,hb⟩;have b6:Hd ((xG W H f).1.length=n):=Jh (by rw [zFw];exact HL.Z);have b5:=Jh (JG HF.Z);have b2:=hb.size;have b8:=Jh b2;have N:=Jh (P.alloc (.cells #[W,H, .slice a2 n c2] 31));have q:=Jh ((u.Z.zA hb).alloc (.cells #[W,H, .slice a2 n c2] 31));have O:=Jh (Blk.new w6 31 #[W,H, .slice a2 n c2]);have L:=Jh ((HG.Z.below hb HG.Z.lt).alloc (.cells #[W,H, .slice a2 n c2] 31));have A:=Jh (zJ (zI x.Z hb) (.cells #[W,H, .slice a2 n c2] 31));have b4:=Jh P.bd;have KL:=Jh u.Z.lt;clear P hb b2 B C D E HG;obtain ⟨w7,F⟩:=zN (w6.alloc (.cells #[W,H, .slice a2 n c2] 31));have d0:w2.heap.size<w6.heap.size:=by have:=KL.Z;have:=b8.Z;omega
   by_cases hs:(xG W H f).2=true
   . have EE:Hd (xX W H M xs=((xX W H (M - (k+1)) (xG W H f).1).1,(xX W H (M - (k+1)) (xG W H f).1).2+(k+1))):=Jh (by
      rw [HE.Z,show M - k=M - (k+1)+1 by omega,zEi hs];simp only [];congr 1
      omega)
     rw [hs];clear hs;go_upto_region 8 with fail;rw [<-F] at N q O L A⊢;clear F;obtain ⟨q0,p0,p1,p2⟩:=O.Z.c3;obtain ⟨B,C,D,E⟩:=q.Z.c3;obtain ⟨f0,f1,f2⟩:=q.Z.f3;go_wp2_with fail;go_roundw
     case rel=>
      have zb:=ZB.Z;refine ⟨k+1,a2,c2,(xG W H f).1,om,by go_num,Jh (by have e:=EE.Z;push_cast at e⊢;exact e),b5,b6,Jh ?_,Jh (fun b hb=>?_),Jh ?_,Jh ?_⟩;exact (((N.Z.other (by simp;have:=KL.Z;omega) _).other (by simp;have:=KL.Z;omega) _).other (by simp;have:=KL.Z;omega) _).mono (og x.Z.size);have:=b4.Z b hb;have:=KL.Z;omega
      first | exact ((q.Z.set 0 _).set 1 _).set 2 _ | (have h:=((q.Z.set 0 ↑W).set 1 ↑H).set 2 (.slice a2 n c2);simpa using h)
      exact ((A.Z.setCell sO _).setCell sO _).setCell sO _
     exact Jm
   have Q:(xG W H f).2=false:=by simpa using hs
   have EE:Hd (jN W H xs M=(f,(k:Int))):=Jh (by
    rw [t.Z,HE.Z,zHl _ Q]
    simp)
   rw [Q];clear hs Q;go_upto_region 8 with fail;rw [<-F] at N q O L A⊢;clear F;have i:=Jh (i.Z.below A.Z i.Z.lt);have y:=Jh (zI y.Z A.Z);have u:=q;have z:Hd (OwnA w7 X (some ⟨g,0,none⟩) n c f):=Jh (OwnA.mk L.Z c0);have t:=EE;obtain ⟨z0,T,U,V⟩:=i.Z.c3;obtain ⟨f0,f1,f2⟩:=i.Z.f3;obtain ⟨B,C,D,E⟩:=u.Z.c3;go_wp2_with fail
   exact bodyPost_ret (v:= .tuple #[.agg #[W,H, .slice (some ⟨g,0,none⟩) n c],k]) (by simp [results,results109,go_sem,T,U,V]) rfl
    ⟨_,_,by rw [t.Z],by rw [t.Z];exact (((z.Z.other (by simp;(try have:=o.Z);omega) _).other (by simp;(try have:=o.Z);omega) _).other (by simp;(try have:=o.Z);omega) _).mono (oh o),
     ((y.Z.setCell sD _).setCell sD _).setCell sD _⟩
 obtain rfl:k=M:=om
 have EE:Hd (jN W H xs k=(f,(k:Int))):=Jh (by
  rw [t.Z,HE.Z,Nat.sub_self]
  simp [xX])
 have i:=Jh (i.Z.below x.Z i.Z.lt);have y:=Jh (zI y.Z x.Z);have t:=EE;obtain ⟨z0,T,U,V⟩:=i.Z.c3;obtain ⟨f0,f1,f2⟩:=i.Z.f3;obtain ⟨B,C,D,E⟩:=u.Z.c3;go_wp2_with fail
 exact bodyPost_ret (v:= .tuple #[.agg #[W,H, .slice a n c],k]) (by simp [results,results109,go_sem,T,U,V]) rfl
  ⟨_,_,by rw [t.Z],by rw [t.Z];exact (((z.Z.other (by simp;(try have:=o.Z);omega) _).other (by simp;(try have:=o.Z);omega) _).other (by simp;(try have:=o.Z);omega) _).mono (oh o),
   ((y.Z.setCell sD _).setCell sD _).setCell sD _⟩
set_option maxRecDepth 100000 in
theorem zCS (W H:Int) (b off n y:Nat) (xs:List Int) (w:World) (hn:xs.length=n) (ha:Rd w (some ↑(b,off)) xs) (hl:n<=1048576):
 Calls prog 110 #[.agg #[W,H, .slice (some ↑(b,off)) n y]] w (kP w (jO W H xs)):=by
 have HN:=Jh hn;have HA:=Jh ha
 have d1:n=0\/b<w.heap.size:=by
  by_cases h0:n=0
  exact Or.inl h0;obtain ⟨b2,o2,h1,h2,_⟩:=ha.at om;cases h1;exact Or.inr h2
 have g7:=Jh d1;clear hn ha d1;go_in;go_wp2_with fail;have D:=Jh ((Blk.new w 31 #[W,H, .slice (some ↑(b,off)) n y]).alloc (.cells ↑Zp 32));have x:=Jh (Blk.zD (g:=w.heap.size+1) (w:=w.alloc (.cells #[W,H, .slice (some ↑(b,off)) n y] 31)) 32 ↑Zp sI);have A:=Jh (zJ (zJ (Below.refl w w) (.cells #[W,H, .slice (some ↑(b,off)) n y] 31)) (.cells ↑Zp 32));have I:=Jh ((HA.Z.alloc (.cells #[W,H, .slice (some ↑(b,off)) n y] 31)).alloc (.cells ↑Zp 32));obtain ⟨wo,f5⟩:=zN ((w.alloc (.cells #[W,H, .slice (some ↑(b,off)) n y] 31)).alloc (.cells ↑Zp 32):World);have ZO:Hd (wo.heap.size=w.heap.size+1+1):=Jh (by rw [f5];simp);rw [<-f5] at D x A I⊢;clear f5;obtain ⟨Y,o0,o1,o2⟩:=D.Z.c3;refine (XA W H _ n y xs _ HN.Z (by exact I.Z) om).mono ?_;rintro e E ⟨rfl,hb⟩;have D:=Jh (D.Z.zA hb);have x:=Jh (x.Z.zA hb);have I:=Jh (I.Z.below hb);have A:=Jh (zI A.Z hb);have ZB:Hd (w.heap.size+1<E.heap.size):=Jh (zB hb.size ZO.Z);clear hb Y o0 o1 o2;by_cases F:zf W H xs=true
 case neg=>
  have ER:Hd (jO W H xs=(vQ,false)):=Jh (by unfold jO;rw [if_neg F]);have e0:zf W H xs=false:=by simpa using F
  rw [e0];clear F e0;obtain ⟨z0,r0,r1,r2⟩:=x.Z.c3;obtain ⟨f0,f1,f2⟩:=x.Z.f3;go_wp2_with fail
  exact bodyPost_ret (v:= .tuple #[.agg ↑Zp, .bool false]) (by simp [results,results110,go_sem,r0,r1,r2]) rfl
   (by rw [ER.Z];exact ⟨none,0,0,rfl,oN,om,by first | exact A.Z | exact ((A.Z.setCell sD _).setCell sD _).setCell sD _⟩)
 have ER:Hd (jO W H xs=(⟨W,H,jR W H xs⟩,true)):=Jh (by unfold jO;rw [if_pos F]);obtain ⟨b1,b2,b3,b4,b5,b6,b7,b8,b9⟩:=xn HN.Z F;have B5:=Jh b5;have B8:=Jh b8;have B9:=Jh b9;clear b5 b8 b9;have f6:=Jh F;have CC:Hd (YM W H xs 1=(zV 1 xs:Int)):=Jh (by unfold YM;rw [if_pos (JT (by unfold zf at F;simp only [Bool.and_eq_true] at F;exact F.1))]);have dn:zV 1 xs<=n:=by rw [<-HN.Z];exact XN _ _
 obtain ⟨u,hu⟩: ∃u,n - zV 1 xs=u:=⟨_,rfl⟩
 have e1:Hd (jR W H xs=(upG W H xs (zV 1 xs) (yW W H xs (zV 1 xs) (List.replicate n 0) (zV 1 xs)).2 u).2):=Jh (by unfold jR;rw [HN.Z,hu]);have DI:=Jh (fun k (hk:k<=zV 1 xs)=>uL f6.Z (List.replicate n 0) k hk);have UI:=Jh (fun k (hk:zV 1 xs+k<=xs.length)=>wU f6.Z (zV 1 xs) (yW W H xs (zV 1 xs) (List.replicate n 0) (zV 1 xs)).2 k hk);obtain ⟨d,hd⟩: ∃d,zV 1 xs=d:=⟨_,rfl⟩
 rw [hd] at CC dn hu e1 DI UI;have HU:Hd (d+u=n):=Jh om;rw [F];clear F hd hu;obtain ⟨Y,o0,o1,o2⟩:=D.Z.c3;have d1:b<w.heap.size:=by rcases g7.Z with h | h <;>omega
 go_upto_region 3 with fail
 go_cut [4] (fun s4 wz=> ∃(wx:World) (mb T:Nat),wx=wz/\s4= .pointer ↑mb/\E.heap.size<=mb/\E.heap.size<=T/\mb≠T/\Blk wz mb 32 #[W,H, .slice ↑T n n]/\Own wz T n n (List.replicate n 0)/\Below E E wz)
 case first=>
  have MK:Hd (∀v,BelowL E v->Jc v w W/\Jc v (w,1) H/\Jc v (w,2) (.slice (some ↑(b,off)) n y)/\BelowL E v):=Jh (fun v hB=>⟨(hB.Z.cell Y).trans o0,(hB.Z.cell Y).trans o1,(hB.Z.cell Y).trans o2,hB⟩);refine zh 10 MK zK (MK.Z _ lS) ?_;intro l;have g0:=wK l;refine zM 0 ?_;refine zM 1 ?_;refine zM 2 ?_;refine zM 3 ?_;refine zM 4 ?_;refine zM 5 ?_;refine zM 6 ?_;simp only [List.getElem_toArray,List.getElem_cons_succ,List.getElem_cons_zero,Act.put,List.setIfInBounds_toArray,List.set_cons_zero,List.set_cons_succ];refine vm (i:=7) (j:=9) zK rfl rfl (fun K hK=>?_) (fun K hK=>?_)
  . refine YG _ rfl (.tmp 21) (.tmp 21) rfl .i64 .i64 n rfl rfl om ?_
    intro M hM;have d0:=BelowL.alloc g0 (.cells M 3);refine hK.out _ _ (fun _=>Jd (MK.Z _ d0)) (fun hH2=>?_);clear hK K l;have l:=hH2 dC;refine zM 8 ?_;refine zW 9 (fun K hK=>?_);go_simp;have e8:=BelowL.alloc d0 (.cells ↑Zp 32);refine hK.out _ _ (fun _=>by (try dsimp only);first | exact MK.Z _ e8 | exact MK.Z _ (BelowL.mk (zJ (zJ bR _) _).drew)) (fun d6=>?_);clear hK K l;refine zW 10 (fun K hK=>?_);go_simp;refine hK.out _ _ (fun h=>absurd h dC) (fun e7=>?_);clear hK K e7 d6 hH2;refine zx zK ?_ _;(try go_simp);go_wp2_with fail;go_meet;have hr:=hM.own E.drew;refine ⟨_,E.heap.size+1,E.heap.size,rfl,rfl,om,nI,om,?_,?_,?_⟩
    first | exact Blk.zD _ _ sI | exact (Blk.zD _ _ sI).drew | trace_state
    first | exact (hM.own E).alloc _ | exact (hr.alloc _) | exact ((hM.own E).alloc _).drewN 1 | trace_state
    first | exact zJ (zJ bR _) _ | exact (zJ (zJ bR _) _).drew | trace_state
  go_simp;have d0:=BelowL.alloc g0 (.cells ↑Zp 32);have d8:BelowL E (E.alloc (.cells ↑Zp 32)).drew:=BelowL.mk (zJ bR _).drew;refine hK.out _ _ (fun _=>by (try dsimp only);first | exact MK.Z _ d0 | exact MK.Z _ d8) (fun hH2=>?_);clear hK K l;have l:=hH2 dC;(try simp only [List.getElem_toArray,List.getElem_cons_succ,List.getElem_cons_zero,Act.put,List.setIfInBounds_toArray,List.set_cons_zero,List.set_cons_succ]);refine zW 7 (fun K hK=>?_);refine YG _ (by rfl) (.tmp 21) (.tmp 21) (by rfl) .i64 .i64 n (by rfl) (by rfl) om ?_;intro M hM;have e8:=BelowL.alloc d0 (.cells M 3);have g3:=BelowL.alloc d8 (.cells M 3);refine hK.out _ _ (fun _=>by (try dsimp only);first | exact MK.Z _ e8 | exact MK.Z _ g3) (fun d6=>?_);clear hK K l;have l:=d6 dC;refine zM 8 ?_;have hX:=(Blk.new E 32 ↑Zp)
  refine zW 10 (fun K hK=>?_);go_simp;refine hK.out _ _ (fun h=>absurd h dC) (fun e7=>?_);clear hK K e7 d6 hH2;refine zx zK ?_ _;(try go_simp);go_wp2_with fail;go_meet;have hr:=hM.own' (g:=E.heap.size+1) (E.alloc (.cells #[W,H, .slice ↑(E.heap.size+1) n n] 32)) sI;have h7:=hM.own' (g:=E.heap.size+1) (E.alloc (.cells #[W,H, .slice ↑(E.heap.size+1) n n] 32)).drew (by show _=(E.alloc _).heap.size;simp);refine ⟨_,E.heap.size,E.heap.size+1,rfl,rfl,nI,om,om,?_,?_,?_⟩
  first | exact (Blk.new _ _ _).alloc _ | exact (Blk.new _ _ _).drew.alloc _ | exact ((Blk.new _ _ _).alloc _).drew | trace_state
  first | exact hr | exact h7 | exact hr.drewN 1 | trace_state
  first | exact zJ (zJ bR _) _ | exact zJ (zJ bR _).drew _ | exact (zJ (zJ bR _) _).drew | trace_state
 obtain ⟨wx,mb,T,rfl,rfl,h5,h6,g5,g4,g6,hb⟩:=hcut;have O:=Jh g4;have t:=Jh g6;have D:=Jh (D.Z.zA hb);have x:=Jh (x.Z.zA hb);have I:=Jh (I.Z.below hb);have A:=Jh (zI A.Z hb);have m:Hd (w.heap.size+1<mb/\w.heap.size+1<T/\mb≠T):=Jh ⟨by have:=ZB.Z;omega,by have:=ZB.Z;omega,g5⟩;clear g4 g6 hb h5 h6 g5 Y o0 o1 o2;obtain ⟨Y,o0,o1,o2⟩:=D.Z.c3;go_wp2_with fail;refine (uj W H b off n y xs _ HN.Z (by exact I.Z) om).mono ?_;rintro e w5 ⟨oa,z,rfl,ho,hb⟩
 obtain ⟨f,rfl,d2,X⟩: ∃g,oa=some ⟨g,0,none⟩/\wx.heap.size<=g/\Own w5 g n z xs:=by
  rcases ho with ⟨_,h,_⟩ | h
  omega;exact h
 have J:Hd (mb<f/\T<f/\w.heap.size+1<f/\f<w5.heap.size/\b<w.heap.size):=Jh ⟨by have:=O.Z.lt;omega,by have:=t.Z.lt;omega,by have:=x.Z.lt;omega,X.lt,d1⟩;have O:=Jh ((O.Z.zA hb).alloc (.cells #[W,H, .slice ↑f n z] 31));have D:=Jh ((D.Z.zA hb).alloc (.cells #[W,H, .slice ↑f n z] 31));have x:=Jh ((x.Z.zA hb).alloc (.cells #[W,H, .slice ↑f n z] 31));have t:=Jh ((t.Z.below hb t.Z.lt).alloc (.cells #[W,H, .slice ↑f n z] 31));have I:=Jh ((I.Z.below hb).alloc (.cells #[W,H, .slice ↑f n z] 31));have A:=Jh (zJ (zI A.Z hb) (.cells #[W,H, .slice ↑f n z] 31));have KD:=Jh (Blk.new w5 31 #[W,H, .slice ↑f n z]);have C:=Jh (X.alloc (.cells #[W,H, .slice ↑f n z] 31));obtain ⟨wy,d5⟩:=zN (w5.alloc (.cells #[W,H, .slice ↑f n z] 31));clear ho hb d2 X Y o0 o1 o2;go_upto_region 5 with fail;rw [<-d5] at O D x t I A KD C⊢;clear d5;obtain ⟨Y,o0,o1,o2⟩:=D.Z.c3;go_wp2_with fail;refine (Jz W H _ n y xs 1 _ HN.Z (by exact I.Z) om).mono ?_;rw [CC.Z];rintro e w7 ⟨rfl,hb⟩;have O:=Jh (O.Z.zA hb);have D:=Jh (D.Z.zA hb);have x:=Jh (x.Z.zA hb);have KD:=Jh (KD.Z.zA hb);have t:=Jh (t.Z.below hb t.Z.lt);have C:=Jh (C.Z.below hb C.Z.lt);have I:=Jh (I.Z.below hb);have A:=Jh (zI A.Z hb);clear hb Y o0 o1 o2;go_wp2_with fail
 go_loopw [6] (fun s wr=> ∃(k:Nat) (L:Int),k<=d/\s=↑L/\Hd (L+k+1=d)/\-1<=L/\Hd (Own wr f n z (yW W H xs d (List.replicate n 0) k).1)/\Hd (Own wr T n n (yW W H xs d (List.replicate n 0) k).2)/\Hd (Keep6 (Duo f T) w7 wr)) (fun s _=>(intOf s+1).toNat)
 case atStart=>exact ⟨0,(d:Int) - 1,nZ,rfl,Jh om,om,C,t,Jh (Keep6.refl _ _)⟩
 clear C t;obtain ⟨k,L,hk,rfl,HL,h3,C,t,P⟩:=hrel;by_cases f4:0<=L
 . have h4:k<d:=by have:=HL.Z;omega
   have i4:L<d:=by have:=HL.Z;omega
   obtain ⟨F1,F2,F3,F4⟩:=DI.Z k om;rw [HN.Z] at F2;obtain ⟨i,i1,i2,i3⟩:=YH (W:=W) (H:=H) (xs:=(yW W H xs d (List.replicate n 0) k).1) om
   have DE:Hd (yW W H xs d (List.replicate n 0) (k+1)=((yW W H xs d (List.replicate n 0) k).1.set i 0,(yW W H xs d (List.replicate n 0) k).2.set i L)):=Jh (by
    rw [yW,kS,i1,show (d:Int) - 1 - k=L by have:=HL.Z;omega]
    rfl)
   rw [F2] at i2;have c0:=Jh F1;have c1:=Jh F2;have HI:=Jh i1;clear F1 F2 F3 F4 i1 i3;obtain ⟨e6,Q⟩: ∃c,(yW W H xs d (List.replicate n 0) k).1=c:=⟨_,rfl⟩
   obtain ⟨rk,d3⟩: ∃c,(yW W H xs d (List.replicate n 0) k).2=c:=⟨_,rfl⟩
   rw [Q] at C c0 c1 HI DE;rw [d3] at t DE;clear Q d3;have V:=Jh (P.Z.blk KD.Z (by have:=J.Z;unfold Duo;omega));have c8:=Jh (P.Z.blk O.Z (by have:=J.Z;have:=m.Z;unfold Duo;omega));obtain ⟨lD,q0,q1,q2⟩:=V.Z.c3;go_wp2_with fail;refine (Jb W H _ n z e6 _ c1.Z (by exact C.Z.rd) c0.Z).mono ?_;rw [HI.Z];rintro e w8 ⟨rfl,hb⟩;have e5:=Jh (c8.Z.zA hb);have e4:=Jh (V.Z.zA hb);have U:=Jh (C.Z.below hb C.Z.lt);have e3:=Jh (t.Z.below hb t.Z.lt);have e2:=Jh (P.Z.call hb);clear hb lD q0 q1 q2 V c8;obtain ⟨lD,q0,q1,q2⟩:=e4.Z.c3;have g1:=U.Z.cell i2;have g2:=U.Z.frozen i;have b0:=Jh (U.Z.set i 0);have c5:=Jh (e5.Z.other (a:=↑(f,i)) (oS J.Z) ↑Z0);have N:=Jh (e3.Z.other (a:=↑(f,i)) (oS J.Z) ↑Z0);have c4:=Jh (e2.Z.set (a:=↑(f,i)) (Or.inl rfl) ↑Z0);obtain ⟨wv,d4⟩:=zN (w8.setCell (f,i) ↑Z0);go_upto_region 10 with fail;rw [<-d4] at b0 c5 N c4⊢;clear d4 g1 g2 lD q0 q1 q2;obtain ⟨lm,m0,m1,m2⟩:=c5.Z.c3;have g1:=N.Z.cell i2;have g2:=N.Z.frozen i;go_wp2_with fail;go_roundw
   case rel=>exact ⟨k+1,L - 1,om,by go_num,Jh (by have:=HL.Z;push_cast;omega),om,Jh (by rw [DE.Z];exact b0.Z.other (by exact fun e=>by have:=J.Z;simp at e;omega) _),Jh (by rw [DE.Z];exact N.Z.set i L),Jh (c4.Z.set (Or.inr rfl) _)⟩
   exact Jm
 obtain rfl:k=d:=by have:=HL.Z;omega
 have i0:L<0:=om;obtain ⟨RK,f8⟩: ∃R,(yW W H xs k (List.replicate n 0) k).2=R:=⟨_,rfl⟩
 rw [f8] at t e1 UI;have O:=Jh (P.Z.blk O.Z (by have:=J.Z;have:=m.Z;unfold Duo;omega));have D:=Jh (P.Z.blk D.Z (by have:=J.Z;have:=m.Z;unfold Duo;omega));have x:=Jh (P.Z.blk x.Z (by have:=J.Z;have:=m.Z;unfold Duo;omega));have I:=Jh (P.Z.rd I.Z (fun a ha=>by cases ha;have:=J.Z;have:=m.Z;unfold Duo;simp;omega));have A:=Jh (A.Z.trans (P.Z.below (B:=w.heap.size) (fun i hi=>by have:=J.Z;have:=m.Z;unfold Duo at hi;omega) A.Z.size));clear f8 C P J KD f4;obtain ⟨Y,o0,o1,o2⟩:=D.Z.c3;go_wp2_with fail;refine (uj W H b off n y xs _ HN.Z (by exact I.Z) om).mono ?_;rintro e d7 ⟨oa,z,rfl,ho,hb⟩
 obtain ⟨f,rfl,d2,X⟩: ∃g,oa=some ⟨g,0,none⟩/\wr.heap.size<=g/\Own d7 g n z xs:=by
  rcases ho with ⟨_,h,_⟩ | h
  omega;exact h
 have J:Hd (mb<f/\T<f/\w.heap.size+1<f/\f<d7.heap.size/\b<w.heap.size):=Jh ⟨by have:=O.Z.lt;omega,by have:=t.Z.lt;omega,by have:=x.Z.lt;omega,X.lt,d1⟩;have O:=Jh ((O.Z.zA hb).alloc (.cells #[W,H, .slice ↑f n z] 31));have D:=Jh ((D.Z.zA hb).alloc (.cells #[W,H, .slice ↑f n z] 31));have x:=Jh ((x.Z.zA hb).alloc (.cells #[W,H, .slice ↑f n z] 31));have t:=Jh ((t.Z.below hb t.Z.lt).alloc (.cells #[W,H, .slice ↑f n z] 31));have I:=Jh ((I.Z.below hb).alloc (.cells #[W,H, .slice ↑f n z] 31));have A:=Jh (zJ (zI A.Z hb) (.cells #[W,H, .slice ↑f n z] 31));have KD:=Jh (Blk.new d7 31 #[W,H, .slice ↑f n z]);have C:=Jh (X.alloc (.cells #[W,H, .slice ↑f n z] 31));obtain ⟨wy,d5⟩:=zN (d7.alloc (.cells #[W,H, .slice ↑f n z] 31));clear ho hb d2 X Y o0 o1 o2;go_upto_region 12 with fail;rw [<-d5] at O D x t I A KD C⊢;clear d5;obtain ⟨Y,o0,o1,o2⟩:=D.Z.c3;go_wp2_with fail;refine (Jz W H _ n y xs 1 _ HN.Z (by exact I.Z) om).mono ?_;rw [CC.Z];rintro e h8 ⟨rfl,hb⟩;have O:=Jh (O.Z.zA hb);have D:=Jh (D.Z.zA hb);have x:=Jh (x.Z.zA hb);have KD:=Jh (KD.Z.zA hb);have t:=Jh (t.Z.below hb t.Z.lt);have C:=Jh (C.Z.below hb C.Z.lt);have I:=Jh (I.Z.below hb);have A:=Jh (zI A.Z hb);clear hb Y o0 o1 o2;go_wp2_with fail
 go_loopw [9] (fun s wr=> ∃(q:Nat) (L:Int),q<=u/\s=↑L/\Hd (L=(k:Int)+q)/\0<=L/\Hd (Own wr f n z (upG W H xs k RK q).1)/\Hd (Own wr T n n (upG W H xs k RK q).2)/\Hd (Keep6 (Duo f T) h8 wr)) (fun s _=>n - (intOf s).toNat)
 case atStart=>exact ⟨0,(k:Int),nZ,rfl,Jh om,om,C,t,Jh (Keep6.refl _ _)⟩
 clear C t;obtain ⟨q,L,hq,rfl,HL,h3,C,t,P⟩:=hrel;have g8:=Jh (P.Z.blk D.Z (by have:=J.Z;have:=m.Z;unfold Duo;omega));obtain ⟨Y,o0,o1,o2⟩:=g8.Z.c3;by_cases f4:L<n
 . have h4:q<u:=by have:=HL.Z;have:=HU.Z;omega
   obtain ⟨F1,F2,F3,F4⟩:=UI.Z q (by have:=HU.Z;rw [HN.Z];omega);rw [HN.Z] at F2;obtain ⟨i,i1,i2,i3⟩:=Xe (W:=W) (H:=H) (xs:=(upG W H xs k RK q).1) (uA (xn rfl F1).2.2.2.2.2.2.2.1) (oh HU)
   have DE:Hd (upG W H xs k RK (q+1)=((upG W H xs k RK q).1.set i 1,(upG W H xs k RK q).2.set i L)):=Jh (by
    rw [upG,um,i1,show (k:Int)+q=L by have:=HL.Z;omega]
    rfl)
   rw [F2] at i2;have c0:=Jh F1;have c1:=Jh F2;have HI:=Jh i1;clear F1 F2 F3 F4 i1 i3;obtain ⟨e6,Q⟩: ∃c,(upG W H xs k RK q).1=c:=⟨_,rfl⟩
   obtain ⟨rk,d3⟩: ∃c,(upG W H xs k RK q).2=c:=⟨_,rfl⟩
   rw [Q] at C c0 c1 HI DE;rw [d3] at t DE;clear Q d3;have V:=Jh (P.Z.blk KD.Z (by have:=J.Z;unfold Duo;omega));have c8:=Jh (P.Z.blk O.Z (by have:=J.Z;have:=m.Z;unfold Duo;omega));obtain ⟨lD,q0,q1,q2⟩:=V.Z.c3;go_wp2_with fail;refine (UP W H _ n z e6 _ c1.Z (by exact C.Z.rd) c0.Z).mono ?_;rw [HI.Z];rintro e w8 ⟨rfl,hb⟩;have e5:=Jh (c8.Z.zA hb);have e4:=Jh (V.Z.zA hb);have U:=Jh (C.Z.below hb C.Z.lt);have e3:=Jh (t.Z.below hb t.Z.lt);have e2:=Jh (P.Z.call hb);clear hb lD q0 q1 q2 V c8;obtain ⟨lD,q0,q1,q2⟩:=e4.Z.c3;have g1:=U.Z.cell i2;have g2:=U.Z.frozen i;have b0:=Jh (U.Z.set i 1);have c5:=Jh (e5.Z.other (a:=↑(f,i)) (oS J.Z) ↑Z1);have N:=Jh (e3.Z.other (a:=↑(f,i)) (oS J.Z) ↑Z1);have c4:=Jh (e2.Z.set (a:=↑(f,i)) (Or.inl rfl) ↑Z1);obtain ⟨wv,d4⟩:=zN (w8.setCell (f,i) ↑Z1);go_upto_region 17 with fail;rw [<-d4] at b0 c5 N c4⊢;clear d4 g1 g2 lD q0 q1 q2;obtain ⟨lm,m0,m1,m2⟩:=c5.Z.c3;have g1:=N.Z.cell i2;have g2:=N.Z.frozen i;go_wp2_with fail;go_roundw
   case rel=>exact ⟨q+1,L+1,om,by go_num,Jh (by have:=HL.Z;push_cast;omega),om,Jh (by rw [DE.Z];exact b0.Z.other (by exact fun e=>by have:=J.Z;simp at e;omega) _),Jh (by rw [DE.Z];exact N.Z.set i L),Jh (c4.Z.set (Or.inr rfl) _)⟩
   exact Jm
 obtain rfl:q=u:=by have:=HL.Z;have:=HU.Z;omega
 have i5:(n:Int)<=L:=om;have EF:Hd (jR W H xs=(upG W H xs k RK q).2):=e1;have O:=Jh (P.Z.blk O.Z (by have:=J.Z;have:=m.Z;unfold Duo;omega));have x:=Jh (P.Z.blk x.Z (by have:=J.Z;have:=m.Z;unfold Duo;omega));have A:=Jh (A.Z.trans (P.Z.below (B:=w.heap.size) (fun i hi=>by have:=J.Z;have:=m.Z;unfold Duo at hi;omega) A.Z.size));obtain ⟨z0,r0,r1,r2⟩:=x.Z.c3;obtain ⟨f0,f1,f2⟩:=x.Z.f3;obtain ⟨lm,m0,m1,m2⟩:=O.Z.c3;clear f4;go_wp2_with fail
 exact bodyPost_ret (v:= .tuple #[.agg #[W,H, .slice ↑T n n], .bool true]) (by simp [results,results110,go_sem,r0,r1,r2]) rfl
  (by
   rw [ER.Z];refine ⟨_,_,_,rfl,OwnA.mk (g:=T) ?_ (oh m),om,?_⟩;show Own _ T n n (jR W H xs);rw [EF.Z];exact ((t.Z.other (oS m.Z) _).other (oS m.Z) _).other (oS m.Z) _
   exact ((A.Z.setCell sD _).setCell sD _).setCell sD _)
end Go.Proofs.YtlenfgdjdianiaaGreatDoor
