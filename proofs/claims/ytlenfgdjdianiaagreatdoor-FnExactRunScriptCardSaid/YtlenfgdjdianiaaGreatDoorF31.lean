/- Facts on which this claim rests, 31. -/
import Derived.Test.YtlenfgdjdianiaaGreatDoorF30
set_option linter.all false
set_option maxHeartbeats 6400000
namespace Go.Proofs.YtlenfgdjdianiaaGreatDoor
section
open Go.RowKit Tq Go.Proofs.Tryz
variable {H W m x : Int} {T g : Nat} {a b c : Value} {w : World} {xs : List Int}
def kU (W H x:Int):Mat × Bool:=if (yE W H x).2=true then jO (jC (yE W H x).1.W (yE W H x).1.H (yE W H x).1.ink 64).1.W (jC (yE W H x).1.W (yE W H x).1.H (yE W H x).1.ink 64).1.H (jC (yE W H x).1.W (yE W H x).1.H (yE W H x).1.ink 64).1.ink else (vQ,false)
theorem zAI (h:(yE W H x).2=true):0<(yE W H x).1.ink.length:=by
 unfold yE at h⊢;split at h;rename_i k;rw [if_pos k];have:=(uG k.1).1;have h1:yM W H=true:=k.1
 have h2:0<(W*H).toNat:=by
  have:=Vr W H (by simp [yM] at h1;omega) (by simp [yM] at h1;omega) (by simp [yM] at h1;omega) (by simp [yM] at h1;omega);omega
 simpa [zZ] using h2;simp at h
theorem zEh (h:0<xs.length):0<(jC W H xs m).1.ink.length:=by
 unfold jC;split;show 0<(xX W H m.toNat xs).1.length;rw [zNH];exact h;exact h
set_option maxRecDepth 100000 in
theorem zAt (W H x:Int) (w:World):Calls prog 138 #[W,H,x] w (kP w (kU W H x)):=by
 have b5:=Jh (zJ (Below.refl w w) (.cells ↑Zp 32));have b8:=Jh (Blk.new w 32 ↑Zp);go_in;go_wp2_with fail;refine (zCD W H x _).mono ?_;rintro e w1 ⟨a1,n1,k1,rfl,C,c8,hb⟩;have D:=Jh (zI b5.Z hb);have G:=Jh (b8.Z.zA hb);have u:=Jh C;have HL:Hd (w.heap.size<w1.heap.size):=Jh (by have:=hb.size;(try simp at this);omega);clear hb C;by_cases N:(yE W H x).2=true
 case neg=>
  have c4:(yE W H x).2=false:=by simpa using N
  have E:Hd (kU W H x=(vQ,false)):=Jh (by unfold kU;rw [if_neg N]);rw [c4];have q:=Jh (G.Z.alloc (.cells #[(yE W H x).1.W,(yE W H x).1.H, .slice a1 n1 k1] 31));obtain ⟨r0,r1,r2,r3⟩:=q.Z.c3;obtain ⟨q0,q1,q2⟩:=q.Z.f3;go_wp2_with fail;rw [E.Z]
  exact bodyPost_ret (v:= .tuple #[.agg ↑Zp, .bool false]) (by simp [results,results138,go_sem,r1,r2,r3]) rfl
   ⟨none,0,0,rfl,oN,om,
    (((zJ D.Z _).setCell sD _).setCell sD _).setCell sD _⟩
 have E:Hd (kU W H x=jO (jC (yE W H x).1.W (yE W H x).1.H (yE W H x).1.ink 64).1.W (jC (yE W H x).1.W (yE W H x).1.H (yE W H x).1.ink 64).1.H (jC (yE W H x).1.W (yE W H x).1.H (yE W H x).1.ink 64).1.ink):=Jh (by unfold kU;rw [if_pos N]);obtain ⟨b,off,rfl,M,L⟩:=u.Z.rd.at (zAI N);have P0:=Jh (zAI N);clear M L;rw [N];obtain ⟨B,X⟩:=zN (yE W H x).1.W;obtain ⟨A,V⟩:=zN (yE W H x).1.H;obtain ⟨xs,b3⟩:=zN (yE W H x).1.ink;rw [<-X,<-V] at E⊢;rw [<-b3] at E u P0;clear X V b3 N;have c0:=Jh (Blk.new w1 31 #[B,A, .slice (some ↑(b,off)) n1 k1]);have R:=Jh (zJ D.Z (.cells #[B,A, .slice (some ↑(b,off)) n1 k1] 31));have q:=Jh (G.Z.alloc (.cells #[B,A, .slice (some ↑(b,off)) n1 k1] 31));have F:=Jh (u.Z.alloc (.cells #[B,A, .slice (some ↑(b,off)) n1 k1] 31));clear D G u;go_wp2_with fail;refine ((zBy B A b off n1 k1 xs 64 _ F.Z.len (by exact F.Z.rd) om).mono (fun e w' h=>h.Z om)).mono ?_;rintro e w3 ⟨a2,n2,k2,rfl,C,d0,hb⟩;have U:=Jh (zI R.Z hb);have I:=Jh (q.Z.zA hb);have k:=Jh C;clear hb C R q F c0;obtain ⟨b2,t,rfl,M,L⟩:=k.Z.rd.at (zEh P0.Z);clear M L P0;obtain ⟨P,b0⟩:=zN (jC B A xs 64).1.W;obtain ⟨O,Y⟩:=zN (jC B A xs 64).1.H;obtain ⟨qn,b1⟩:=zN (jC B A xs 64).2;obtain ⟨ys,b4⟩:=zN (jC B A xs 64).1.ink;rw [<-b0,<-Y] at E⊢;rw [<-b1];rw [<-b4] at E k;clear b0 Y b4 b1;go_wp2_with fail;refine (zCB P O b2 t n2 k2 ys _ (by exact k.Z.len) (by exact (k.Z.alloc _).rd) om).mono ?_;rintro e w4 ⟨a3,n3,k3,rfl,C,c1,hb⟩;have b6:=Jh (zI (zJ U.Z (.cells #[P,O, .slice (some ↑(b2,t)) n2 k2] 31)) hb);have J:=Jh ((I.Z.alloc (.cells #[P,O, .slice (some ↑(b2,t)) n2 k2] 31)).zA hb);have c5:Hd (w.heap.size<w4.heap.size):=Jh J.Z.lt;have b7:Hd (w.heap.size+1<=w3.heap.size):=Jh I.Z.lt;have z:=Jh C;clear hb C I U k;obtain ⟨r0,r1,r2,r3⟩:=J.Z.c3;obtain ⟨q0,q1,q2⟩:=J.Z.f3;go_wp2_with fail;rw [E.Z];have hz:=b7.Z
 exact bodyPost_ret (v:= .tuple #[.agg #[(jO P O ys).1.W,(jO P O ys).1.H, .slice a3 n3 k3], .bool (jO P O ys).2]) (by simp [results,results138,go_sem,r1,r2,r3]) rfl
  ⟨a3,n3,k3,rfl,OwnA.mono (((z.Z.zF (fun e=>by have:=z.Z.bd _ e;simp at this;omega) _).zF (fun e=>by have:=z.Z.bd _ e;simp at this;omega) _).zF (fun e=>by have:=z.Z.bd _ e;simp at this;omega) _) sO,c1,
   ((b6.Z.setCell sD _).setCell sD _).setCell sD _⟩
set_option maxRecDepth 100000 in
theorem zNm (E:Option Addr) (B:Nat) (x y z:Int) (w:World) (hr:Rd w E [x,y,z]):
 Calls prog 77 #[.string ⟨#[114,97,110,107]⟩, .slice E 3 B] w (uH w (kU x y z).1):=by
 obtain ⟨w0,k⟩:=zN (w.alloc (.cells #[.slice E 3 B] 22));have t:Hd (Below w w w0):=Jh (by rw [k];exact zJ (Below.refl w w) (.cells #[.slice E 3 B] 22));obtain ⟨b,off,F,A,q⟩:=(hr.below t.Z).at sI;subst F;have L:=q 0 sI;have M:=q 1 sI;have N:=q 2 sI;rw [show [x,y,z].getD 0 0=x from rfl,Yy] at L;rw [show [x,y,z].getD 1 0=y from rfl] at M;rw [show [x,y,z].getD 2 0=z from rfl] at N;have P:w0.cell? w=some (.slice (some ↑(b,off)) 3 B):=by rw [k];exact (Blk.new w 22 #[.slice (some ↑(b,off)) 3 B]).cell 0
 have O:w.heap.size<w0.heap.size:=by rw [k];simp
 clear hr q;go_in;go_wp2_with fail;rw [<-k];clear k;have D:Hd (∀v,BelowL w0 v->Jc v w (.slice (some ↑(b,off)) 3 B)/\Jc v (b,off) x/\Jc v (b,off+1) y/\Jc v (b,off+2) z/\BelowL w0 v):=Jh (fun v h=>⟨(h.Z.cell O).trans P,(h.Z.cell A).trans L,(h.Z.cell A).trans M,(h.Z.cell A).trans N,h⟩)
 go_region_held3 D
  (first | exact D.Z _ C | exact D.Z _ u | exact D.Z _ lS)
  (first
   | (go_at_call 138;((with_reducible refine (zAt _ _ _ _).mono ?_);rintro e R ⟨a1,n1,k1,rfl,I,G,J⟩;have u:=BelowL.call (ZM aS) J))
   | (go_at_call 135;((with_reducible refine (vu _ _ a1 n1 k1 _ _).mono ?_);rintro e v2 ⟨rfl,rfl⟩;have C:=BelowL.alloc u (.cells #[(kU x y z).1.W,(kU x y z).1.H, .slice a1 n1 k1] 32))))
 go_wp2_with fail;go_ret2;exact ⟨R.heap.size,a1,n1,k1,rfl,Blk.new _ _ _,OwnA.mono (I.alloc _) (by have:=u.le;have:=t.Z.size;(try simp at*);omega),G,zI t.Z C.Z⟩
structure zAV (l:List UInt8) (n:Nat):Prop where
 flat:l=[102,108,97,116]->n≠3
 ramp:l=[114,97,109,112]->n≠2
 bayer:l=[98,97,121,101,114]->n≠1
 spiral:l=[115,112,105,114,97,108]->n≠1
 spot:l=[115,112,111,116]->n≠2
 rank:l=[114,97,110,107]->n≠3
 shift:l=[115,104,105,102,116]->n≠2
 level:l=[108,101,118,101,108]->n≠1
set_option maxRecDepth 100000 in
theorem zNk (s:ByteArray) (q:Option Addr) (n t:Nat) (w:World) (hf:zAV s.toList n):
 Calls prog 77 #[.string s, .slice q n t] w fun e w'=>e= .returned (.tuple #[.nilIface, .bool false])/\w'=w.alloc (.cells #[.slice q n t] 22):=by
 have k:=Jh hf;clear hf;go_in;go_wp2_with fail
 all_goals first
  | (exfalso;have:=k.Z.flat aS;omega)
  | (exfalso;have:=k.Z.ramp aS;omega)
  | (exfalso;have:=k.Z.bayer aS;omega)
  | (exfalso;have:=k.Z.spiral aS;omega)
  | (exfalso;have:=k.Z.spot aS;omega)
  | (exfalso;have:=k.Z.rank aS;omega)
  | (exfalso;have:=k.Z.shift aS;omega)
  | (exfalso;have:=k.Z.level aS;omega)
  | (go_ret2;exact ⟨rfl,rfl⟩)
theorem Blk.put3 (k:Blk w g T #[a,b,c]) (x y z:Value):Blk (((w.setCell g x).setCell (g,1) y).setCell (g,2) z) g T #[x,y,z]:=by
 have:=((k.set 0 x).set 1 y).set 2 z;simpa using this
def zJs (w0 wx:World) (p:Pic) (s:Value):Prop:=
 ∃g a n c,s= .pointer (some ⟨g,0,none⟩)/\Blk wx g 31 #[p.W,p.H, .slice a n c]/\OwnA wx w0 a n c p.ink/\n<=1048576/\Below w0 w0 wx
def VO (w:World) (p:Pic) (e:Ending) (w':World):Prop:=
 ∃a n c,e= .returned (.tuple #[.iface 151 (.agg #[p.W,p.H, .slice a n c]), .bool true])/\OwnA w' w a n c p.ink/\n<=1048576/\Below w w w'
set_option maxRecDepth 100000 in
theorem zNl (M:Option Addr) (I:Nat) (x y:Int) (w:World) (hr:Rd w M [x,y]):
 Calls prog 77 #[.string ⟨#[114,97,109,112]⟩, .slice M 2 I] w (VO w (xP x y).1):=by
 obtain ⟨w0,A⟩:=zN (w.alloc (.cells #[.slice M 2 I] 22));have B:Hd (Below w w w0):=Jh (by rw [A];exact zJ (Below.refl w w) (.cells #[.slice M 2 I] 22));obtain ⟨b,off,O,L,D⟩:=(hr.below B.Z).at sI;subst O;have V:=D 0 sI;have X:=D 1 sI;rw [show [x,y].getD 0 0=x from rfl,Yy] at V;rw [show [x,y].getD 1 0=y from rfl] at X;have p0:w0.cell? w=some (.slice (some ↑(b,off)) 2 I):=by rw [A];exact (Blk.new w 22 #[.slice (some ↑(b,off)) 2 I]).cell 0
 have l0:w.heap.size<w0.heap.size:=by rw [A];simp
 clear hr D;go_in;go_upto_region 6 with fail;rw [<-A];clear A
 go_cut [8] (fun s wx=>zJs w0 wx (xP x y).1 s)
 case first=>
  have C:Hd (∀v,BelowL w0 v->Jc v w (.slice (some ↑(b,off)) 2 I)/\Jc v (b,off) x/\Jc v (b,off+1) y/\BelowL w0 v):=Jh (fun v h=>⟨(h.Z.cell l0).trans p0,(h.Z.cell L).trans V,(h.Z.cell L).trans X,h⟩);clear V X p0;refine wp_region_held_drew (S:=fun v=>Jc v w (.slice (some ↑(b,off)) 2 I)/\Jc v (b,off) x/\Jc v (b,off+1) y/\BelowL w0 v) zK (C.Z _ lS) ?_;intro k;refine hTs 0 ?_;refine hTs 1 ?_;refine hTs 2 ?_;refine hTs 3 ?_;refine hTs 4 ?_;refine hTs 5 ?_;refine wpAnyH_ready (rs:=[6,10]) zK sI ?_;refine AllReadyH.cons rfl (fun K hK=>?_) (AllReadyH.cons rfl (fun K hK=>?_) AllReadyH.nil)
  . go_simp
    go_at_call 134
    ((with_reducible refine (YS x y _).mono ?_);rintro e Y ⟨a1,n1,k1,rfl,t,E,z⟩);have q:=BelowL.call lS z;go_wp2_with fail;refine hK.out _ _ (Jd (C.Z _ q)) (fun k=>?_);clear hK K;refine zv ?_;refine hTs 7 ?_;refine hTs 8 ?_;refine hTs 9 ?_;refine zy 10 (fun K hK=>?_);go_simp;have P:=BelowL.alloc q (.cells ↑Zp 31);refine hK.out _ _ (Jd (C.Z _ P)) (fun k=>?_);clear hK K;refine zv ?_;refine zy 11 (fun K hK=>?_);go_simp;have u:=BelowL.alloc q (.cells #[(xP x y).1.W,(xP x y).1.H, .slice a1 n1 k1] 31);refine hK.out _ _ (Jd (C.Z _ u)) (fun k=>?_);clear hK K;refine zv ?_;refine hTs 12 ?_;refine wpAnyH_done zK ?_ _;go_wp2_with fail;go_meet;exact ⟨Y.heap.size,a1,n1,k1,rfl,Blk.new _ _ _,(t.alloc _).mono nI,E,u.Z⟩
  go_simp;have J:BelowL w0 (w0.alloc (.cells ↑Zp 31)).drew:=BelowL.mk (zJ bR _).drew;have U:Blk (w0.alloc (.cells ↑Zp 31)).drew w0.heap.size 31 ↑Zp:=(Blk.new _ _ _).drew;refine hK.out _ _ (Jd (C.Z _ J)) (fun k=>?_);clear hK K;refine zv ?_;refine zy 6 (fun K hK=>?_);go_simp
  go_at_call 134
  ((with_reducible refine (YS x y _).mono ?_);rintro e Y ⟨a1,n1,k1,rfl,t,E,z⟩);have q:=BelowL.call J z;have F:=U.zA z;have b0:w0.heap.size+1<=Y.heap.size:=by have:=z.size;simpa using this
  go_wp2_with fail;refine hK.out _ _ (Jd (C.Z _ q)) (fun k=>?_);clear hK K;refine zv ?_;refine hTs 7 ?_;refine hTs 8 ?_;refine hTs 9 ?_;obtain ⟨m0,d0,d1,d2⟩:=F.c3;obtain ⟨f0,f1,f2⟩:=F.f3;refine zy 11 (fun K hK=>?_);go_simp;have u:BelowL w0 _:=((q.set (a:=(↑w0:Addr)) (Nat.le_refl w0) ↑(xP x y).1.W).set (a:=(↑(w0,1):Addr)) (Nat.le_refl w0) ↑(xP x y).1.H).set (a:=(↑(w0,2):Addr)) (Nat.le_refl w0) (.slice a1 n1 k1);refine hK.out _ _ (Jd (C.Z _ u)) (fun k=>?_);clear hK K;refine zv ?_;refine hTs 12 ?_;refine wpAnyH_done zK ?_ _;go_wp2_with fail;go_meet;exact ⟨w0.heap.size,a1,n1,k1,rfl,F.put3 _ _ _,OwnA.mono (((t.zF (fun e=>by have:=t.bd _ e;simp at this;omega) _).zF (fun e=>by have:=t.bd _ e;simp at this;omega) _).zF (fun e=>by have:=t.bd _ e;simp at this;omega) _) sI,E,u.Z⟩
 obtain ⟨g,a,n,c,rfl,kb,ho,hn,hb⟩:=hcut;have KB:=Jh kb;have N:=Jh (zI B.Z hb);have HO:=Jh ho;have HN:=Jh hn;have HZ:=B.Z.size;clear hb ho hn kb;obtain ⟨m0,d0,d1,d2⟩:=KB.Z.c3;go_wp2_with fail;go_ret2;exact ⟨a,n,c,rfl,OwnA.mono HO.Z HZ,HN.Z,N.Z⟩
set_option maxRecDepth 100000 in
theorem zNj (N:Option Addr) (L:Nat) (x y z:Int) (w:World) (hr:Rd w N [x,y,z]):
 Calls prog 77 #[.string ⟨#[102,108,97,116]⟩, .slice N 3 L] w (VO w (xH x y z).1):=by
 obtain ⟨w0,B⟩:=zN (w.alloc (.cells #[.slice N 3 L] 22));have D:Hd (Below w w w0):=Jh (by rw [B];exact zJ (Below.refl w w) (.cells #[.slice N 3 L] 22));obtain ⟨b,off,P,F,C⟩:=(hr.below D.Z).at sI;subst P;have X:=C 0 sI;have Y:=C 1 sI;have q2:=C 2 sI;rw [show [x,y,z].getD 0 0=x from rfl,Yy] at X;rw [show [x,y,z].getD 1 0=y from rfl] at Y;rw [show [x,y,z].getD 2 0=z from rfl] at q2;have p0:w0.cell? w=some (.slice (some ↑(b,off)) 3 L):=by rw [B];exact (Blk.new w 22 #[.slice (some ↑(b,off)) 3 L]).cell 0
 have l0:w.heap.size<w0.heap.size:=by rw [B];simp
 clear hr C;go_in;go_upto_region 3 with fail;rw [<-B];clear B
 go_cut [6] (fun s wx=>zJs w0 wx (xH x y z).1 s)
 case first=>
  have E:Hd (∀v,BelowL w0 v->Jc v w (.slice (some ↑(b,off)) 3 L)/\Jc v (b,off) x/\Jc v (b,off+1) y/\Jc v (b,off+2) z/\BelowL w0 v):=Jh (fun v h=>⟨(h.Z.cell l0).trans p0,(h.Z.cell F).trans X,(h.Z.cell F).trans Y,(h.Z.cell F).trans q2,h⟩);clear X Y q2 p0;refine wp_region_held_drew (S:=fun v=>Jc v w (.slice (some ↑(b,off)) 3 L)/\Jc v (b,off) x/\Jc v (b,off+1) y/\Jc v (b,off+2) z/\BelowL w0 v) zK (E.Z _ lS) ?_;intro k;refine hTs 0 ?_;refine hTs 1 ?_;refine hTs 2 ?_;refine hTs 3 ?_;refine hTs 4 ?_;refine hTs 5 ?_;refine hTs 6 ?_;refine hTs 7 ?_;refine hTs 8 ?_;refine wpAnyH_ready (rs:=[9,13]) zK sI ?_;refine AllReadyH.cons rfl (fun K hK=>?_) (AllReadyH.cons rfl (fun K hK=>?_) AllReadyH.nil)
  . go_simp
    go_at_call 82
    ((with_reducible refine (qh x y z _).mono ?_);rintro e v1 ⟨a1,n1,k1,rfl,t,I,A⟩);have q:=BelowL.call lS A;go_wp2_with fail;refine hK.out _ _ (Jd (E.Z _ q)) (fun k=>?_);clear hK K;refine zv ?_;refine hTs 10 ?_;refine hTs 11 ?_;refine hTs 12 ?_;refine zy 13 (fun K hK=>?_);go_simp;have U:=BelowL.alloc q (.cells ↑Zp 31);refine hK.out _ _ (Jd (E.Z _ U)) (fun k=>?_);clear hK K;refine zv ?_;refine zy 14 (fun K hK=>?_);go_simp;have u:=BelowL.alloc q (.cells #[(xH x y z).1.W,(xH x y z).1.H, .slice a1 n1 k1] 31);refine hK.out _ _ (Jd (E.Z _ u)) (fun k=>?_);clear hK K;refine zv ?_;refine hTs 15 ?_;refine wpAnyH_done zK ?_ _;go_wp2_with fail;go_meet;exact ⟨v1.heap.size,a1,n1,k1,rfl,Blk.new _ _ _,(t.alloc _).mono nI,I,u.Z⟩
  go_simp;have M:BelowL w0 (w0.alloc (.cells ↑Zp 31)).drew:=BelowL.mk (zJ bR _).drew;have V:Blk (w0.alloc (.cells ↑Zp 31)).drew w0.heap.size 31 ↑Zp:=(Blk.new _ _ _).drew;refine hK.out _ _ (Jd (E.Z _ M)) (fun k=>?_);clear hK K;refine zv ?_;refine zy 9 (fun K hK=>?_);go_simp
  go_at_call 82
  ((with_reducible refine (qh x y z _).mono ?_);rintro e v1 ⟨a1,n1,k1,rfl,t,I,A⟩);have q:=BelowL.call M A;have J:=V.zA A;have b0:w0.heap.size+1<=v1.heap.size:=by have:=A.size;simpa using this
  go_wp2_with fail;refine hK.out _ _ (Jd (E.Z _ q)) (fun k=>?_);clear hK K;refine zv ?_;refine hTs 10 ?_;refine hTs 11 ?_;refine hTs 12 ?_;obtain ⟨m0,d0,d1,d2⟩:=J.c3;obtain ⟨f0,f1,f2⟩:=J.f3;refine zy 14 (fun K hK=>?_);go_simp;have u:BelowL w0 _:=((q.set (a:=(↑w0:Addr)) (Nat.le_refl w0) ↑(xH x y z).1.W).set (a:=(↑(w0,1):Addr)) (Nat.le_refl w0) ↑(xH x y z).1.H).set (a:=(↑(w0,2):Addr)) (Nat.le_refl w0) (.slice a1 n1 k1);refine hK.out _ _ (Jd (E.Z _ u)) (fun k=>?_);clear hK K;refine zv ?_;refine hTs 15 ?_;refine wpAnyH_done zK ?_ _;go_wp2_with fail;go_meet;exact ⟨w0.heap.size,a1,n1,k1,rfl,J.put3 _ _ _,OwnA.mono (((t.zF (fun e=>by have:=t.bd _ e;simp at this;omega) _).zF (fun e=>by have:=t.bd _ e;simp at this;omega) _).zF (fun e=>by have:=t.bd _ e;simp at this;omega) _) sI,I,u.Z⟩
 obtain ⟨g,a,n,c,rfl,kb,ho,hn,hb⟩:=hcut;have KB:=Jh kb;have O:=Jh (zI D.Z hb);have HO:=Jh ho;have HN:=Jh hn;have HZ:=D.Z.size;clear hb ho hn kb;obtain ⟨m0,d0,d1,d2⟩:=KB.Z.c3;go_wp2_with fail;go_ret2;exact ⟨a,n,c,rfl,OwnA.mono HO.Z HZ,HN.Z,O.Z⟩
end
section
variable {K i j n : Nat} {key : Int → Int} {x y : Int}
open Tq Go.Proofs.Tryz
theorem zDR (h:RL key x y) (z: ∃k:Nat,k<n/\(k:Int)=x):yz key x n<yz key y n:=by
 obtain ⟨t,q,u⟩:=z
 have mono: ∀m,yz key x m<=yz key y m/\(t<m->yz key x m<yz key y m):=by
  intro m
  induction m with
  | zero=>exact ⟨nI,fun h=>om⟩
  | succ m v=>
   unfold yz;by_cases c:RLb key (m:Int) x=true
   have c2:RLb key (m:Int) y=true:=qt.2 ((qt.1 c).trans h);rw [if_pos c,if_pos c2];refine ⟨om,fun hm=>?_⟩;by_cases e:t=m
   subst e;rw [u] at c;exact absurd (qt.1 c) RL.irrefl;have:=v.2 om;omega;rw [if_neg c];refine ⟨by split <;>omega,fun hm=>?_⟩;by_cases e:t=m
   subst e;rw [if_pos (qt.2 (by rw [u];exact h))];omega;have:=v.2 om;split <;>omega
 exact (mono n).2 q
theorem zLf (hK:K<n):yz key (K:Int) n<n:=by
 have step: ∀m,yz key (K:Int) m<=m/\(K<m->yz key (K:Int) m<m):=by
  intro m
  induction m with
  | zero=>exact ⟨nI,fun h=>om⟩
  | succ m k=>
   unfold yz;refine ⟨by split <;>omega,fun hm=>?_⟩;by_cases e:K=m
   subst e;rw [if_neg (fun c=>RL.irrefl (qt.1 c))];omega;have:=k.2 om;split <;>omega
 exact (step n).2 hK
theorem zIw (hi:i<n) (k:j<n) (e:yz key (i:Int) n=yz key (j:Int) n):i=j:=by
 by_cases c:i=j
 exact c;exfalso;by_cases r:RL key (i:Int) (j:Int)
 have:=zDR r ⟨i,hi,rfl⟩;omega;have:=zDR (RL.of_not r om) ⟨j,k,rfl⟩;omega
theorem count_le (P Q:Nat->Bool) (n:Nat) (h: ∀j,j<n->P j=true->Q j=true):(List.range n).countP P<=(List.range n).countP Q:=by
 induction n with
 | zero=>simp
 | succ n k=>
  have k:=k (fun j t=>h j om);have hn:=h n om;rw [List.range_succ,List.countP_append,List.countP_append];by_cases p:P n=true
  simp [p,hn p];omega;by_cases q:Q n=true <;>simp [p,q] <;>omega
theorem zPt {d:Int} (key:Int->Int) (t:yi d d=true) (q:(n:Int)=d*d):zq d d (Zi key n)=true:=by
 unfold zq vd inR Zi;rw [t,zZ,decide_eq_true q,Bool.true_and,Bool.true_and,Bool.and_eq_true];constructor;rw [Yp];intro x k;unfold gen at k;simp at k;obtain ⟨i,hi,rfl⟩:=k;have:=zLf (key:=key) hi;simp;omega;rw [decide_eq_true_eq];unfold gen;rw [List.Nodup,List.pairwise_map]
 exact List.Pairwise.imp_of_mem (fun {a b} ha hb hab=>by
  simp at ha hb;intro e
  exact hab (zIw (key:=key) ha hb om)) List.nodup_range
end
section
open Go.RowKit Tq Go.Proofs.Tryz
variable {e : Ending} {l : List UInt8} {s : ByteArray} {w w' : World} {xs : List Int}
theorem YF (A B:Int): ∃F:Mat × Bool,(∀w,Calls prog 63 #[.agg #[A,B]] w (kP w F))/\(∀w,Calls prog 137 #[.agg #[A,B]] w (kP w F))/\zq F.1.W F.1.H F.1.ranks=F.2:=by
 by_cases u:uP A B=true
 obtain ⟨n,g,d,a,b,p,q,L⟩:=zQa u;have n1:=L.n1;have n2:=L.n2;obtain ⟨N,rfl⟩: ∃N:Nat,n=N:=⟨n.toNat,om⟩
 by_cases k:yi d d=true
 obtain ⟨b1,b2,b3⟩:=zFI k;have C:1*1<=d*d:=Yr b1 b1 om om;obtain ⟨m,v⟩: ∃m:Nat,(m:Int)=d*d:=⟨(d*d).toNat,om⟩
 obtain ⟨nm,t⟩:=zNg L d m;exact ⟨_,fun w=>VI L m nm t k v w,fun w=>VF L m nm t k v w,zPt _ k v⟩;exact ⟨_,fun w=>VH L k w,fun w=>VE L k w,dC⟩;have z:uP A B=false:=by simpa using u
 exact ⟨_,fun w=>VG z w,fun w=>VC z w,dC⟩
noncomputable def xp (A B:Int):Mat × Bool:=Classical.choose (YF A B)
theorem zBd (A B:Int):(∀w,Calls prog 63 #[.agg #[A,B]] w (kP w (xp A B))):=(Classical.choose_spec (YF A B)).1
theorem zJT (A B:Int):(∀w,Calls prog 137 #[.agg #[A,B]] w (kP w (xp A B))):=(Classical.choose_spec (YF A B)).2.1
theorem zOX (A B:Int):zq (xp A B).1.W (xp A B).1.H (xp A B).1.ranks=(xp A B).2:=(Classical.choose_spec (YF A B)).2.2
inductive jk (w:World):List UInt8->List Int->Ending->World->Prop
 | flat {x y z:Int} {e:Ending} {w':World} (h:VO w (xH x y z).1 e w'):jk w [102,108,97,116] [x,y,z] e w'
 | ramp {x y:Int} {e:Ending} {w':World} (h:VO w (xP x y).1 e w'):jk w [114,97,109,112] [x,y] e w'
 | bayer {x:Int} {e:Ending} {w':World} (h:uH w (xE x).1 e w'):jk w [98,97,121,101,114] [x] e w'
 | spiral {x:Int} {e:Ending} {w':World} (h:uH w (yu x).1 e w'):jk w [115,112,105,114,97,108] [x] e w'
 | spot {x y:Int} {e:Ending} {w':World} (h:uH w (xp x y).1 e w'):jk w [115,112,111,116] [x,y] e w'
 | rank {x y z:Int} {e:Ending} {w':World} (h:uH w (kU x y z).1 e w'):jk w [114,97,110,107] [x,y,z] e w'
 | shift {x y:Int} {na:Option Addr} {nc:Nat} (h:Rd w na [x,y]):jk w [115,104,105,102,116] [x,y] (.returned (.tuple #[.iface 137 (.func (.func 139) #[] #[.pointer (some ⟨w.heap.size,0,none⟩)]), .bool true])) (w.alloc (.cells #[.slice na 2 nc] 22))
 | level {x:Int} {na:Option Addr} {nc:Nat}:jk w [108,101,118,101,108] [x] (.returned (.tuple #[.iface 154 (.int .i64 x), .bool true])) (w.alloc (.cells #[.slice na 1 nc] 22))
 | none {l:List UInt8} {xs:List Int} {na:Option Addr} {n nc:Nat} (h:zAV l xs.length):jk w l xs (.returned (.tuple #[.nilIface, .bool false])) (w.alloc (.cells #[.slice na n nc] 22))
theorem vW (h:s.toList=l):s=⟨l.toArray⟩:=by
 rw [Yf] at h;cases s with
 | mk d=>
  congr;have:d.toList=l:=h;rw [<-this]
theorem zNZ (h:xs.length=1): ∃x,xs=[x]:=by
 match xs,h with
 | [x],_=>exact ⟨x,rfl⟩
theorem zNa (h:xs.length=2): ∃x y,xs=[x,y]:=by
 match xs,h with
 | [x,y],_=>exact ⟨x,y,rfl⟩
theorem zQb (h:xs.length=3): ∃x y z,xs=[x,y,z]:=by
 match xs,h with
 | [x,y,z],_=>exact ⟨x,y,z,rfl⟩
theorem zHv (s:ByteArray) (k:Option Addr) (n q:Nat) (xs:List Int) (w:World) (hn:xs.length=n) (hr:Rd w k xs):
 Calls prog 77 #[.string s, .slice k n q] w (jk w s.toList xs):=by
 by_cases hf:zAV s.toList xs.length
 subst hn;refine (zNk s k xs.length q w hf).mono ?_;rintro e w' ⟨rfl,rfl⟩;exact .none hf
 have hc:(s.toList=[102,108,97,116]/\xs.length=3)\/(s.toList=[114,97,109,112]/\xs.length=2)\/(s.toList=[98,97,121,101,114]/\xs.length=1)\/(s.toList=[115,112,105,114,97,108]/\xs.length=1)\/(s.toList=[115,112,111,116]/\xs.length=2)\/(s.toList=[114,97,110,107]/\xs.length=3)\/(s.toList=[115,104,105,102,116]/\xs.length=2)\/(s.toList=[108,101,118,101,108]/\xs.length=1):=by
  apply Classical.byContradiction;intro h;simp only [not_or,not_and] at h;exact hf ⟨h.1,h.2.1,h.2.2.1,h.2.2.2.1,h.2.2.2.2.1,h.2.2.2.2.2.1,h.2.2.2.2.2.2.1,h.2.2.2.2.2.2.2⟩
 subst hn;rcases hc with ⟨h1,h2⟩ | ⟨h1,h2⟩ | ⟨h1,h2⟩ | ⟨h1,h2⟩ | ⟨h1,h2⟩ | ⟨h1,h2⟩ | ⟨h1,h2⟩ | ⟨h1,h2⟩
 obtain ⟨x,y,z,rfl⟩:=zQb h2;rw [h1,vW h1];exact (zNj k q x y z w hr).mono (fun e w' h=> .flat h);obtain ⟨x,y,rfl⟩:=zNa h2;rw [h1,vW h1];exact (zNl k q x y w hr).mono (fun e w' h=> .ramp h);obtain ⟨x,rfl⟩:=zNZ h2;rw [h1,vW h1];exact (zLW k q x w hr).mono (fun e w' h=> .bayer h);obtain ⟨x,rfl⟩:=zNZ h2;rw [h1,vW h1];exact (zIr k q x w hr).mono (fun e w' h=> .spiral h);obtain ⟨x,y,rfl⟩:=zNa h2;rw [h1,vW h1];exact (zNn (xp x y) k q x y w hr (zJT x y)).mono (fun e w' h=> .spot h);obtain ⟨x,y,z,rfl⟩:=zQb h2;rw [h1,vW h1];exact (zNm k q x y z w hr).mono (fun e w' h=> .rank h);obtain ⟨x,y,rfl⟩:=zNa h2;rw [h1,vW h1];refine (zLY k q w).mono ?_;rintro e w' ⟨rfl,rfl⟩;exact .shift hr;obtain ⟨x,rfl⟩:=zNZ h2;rw [h1,vW h1];refine (zLX k q x w hr).mono ?_;rintro e w' ⟨rfl,rfl⟩;exact .level
theorem jk.below (h:jk w l xs e w'):Below w w w':=by
 have q: ∀o,Below w w (w.alloc o):=fun o=>zJ bR o;cases h with
 | flat h=>obtain ⟨_,_,_,_,_,_,h⟩:=h;exact h
 | ramp h=>obtain ⟨_,_,_,_,_,_,h⟩:=h;exact h
 | bayer h=>obtain ⟨_,_,_,_,_,_,_,_,h⟩:=h;exact h
 | spiral h=>obtain ⟨_,_,_,_,_,_,_,_,h⟩:=h;exact h
 | spot h=>obtain ⟨_,_,_,_,_,_,_,_,h⟩:=h;exact h
 | rank h=>obtain ⟨_,_,_,_,_,_,_,_,h⟩:=h;exact h
 | shift h=>exact q _
 | level=>exact q _
 | none h=>exact q _
end
section
open Go.ChangeMaps Go.MapKept Go.WideMaps Tq Go.Proofs.Tryz
open Go.Maps (Keyed)
variable {Q : Exit → Act → World → Prop} {a : Act} {b n : Nat} {o : Oper} {ops : Array Oper} {w w' : World}
theorem zCW:Keyed prog 9:=Keyed.of_law (string_law underlying9)
def zRR (v:Value):Option (DataW Value × List MemPlace):=some (.held v,[])
def VS (w:World) (b n:Nat) (S:List UInt8->Option Value):Prop:=
 ∃D:DataW Value,Maps.IsMap D/\w.ownsMap prog 9 zRR b n D/\ ∀l zd,D.atKey (.string l) zd=(match S l with | some v=> .held v | none=>zd)
theorem zQA (w:World):VS (w.alloc (.map #[] 0)) w 0 (fun _=>none):=
 ⟨.map [],Maps.isMap_empty,World.ownsMap_made w _ _ _,fun l k=>rfl⟩
theorem VS.same {S:List UInt8->Option Value} (h:VS w b n S) (hb:w'.heap[b]? =w.heap[b]?):VS w' b n S:=by
 obtain ⟨D,h1,⟨es,k,h2,h3⟩,h4⟩:=h;exact ⟨D,h1,⟨es,k,hb.trans h2,h3⟩,h4⟩
theorem VS.lt {w:World} {b n:Nat} {S:List UInt8->Option Value} (h:VS w b n S):b<w.heap.size:=by
 obtain ⟨D,h1,h2,h3⟩:=h;exact h2.lt
theorem VS.below {S:List UInt8->Option Value} (h:VS w b n S) (hb:Go.RowKit.Below w w w'):VS w' b n S:=h.same (hb.block b h.lt)
theorem VS.alloc {w:World} {b n:Nat} {S:List UInt8->Option Value} (h:VS w b n S) (o:Obj):VS (w.alloc o) b n S:=by
 obtain ⟨D,h1,h2,h3⟩:=h;exact ⟨D,h1,h2.alloc o,h3⟩
theorem VS.look {S:List UInt8->Option Value} (h:VS w b n S) (s:ByteArray) (E:s.size<=maxLen):
 (Instr.lookup 102 (.map (some b)) (.string s) true).run prog w= .ok (.tuple #[(S s.data.toList).getD .nilIface, .bool (S s.data.toList).isSome]) w:=by
 obtain ⟨D,h1,⟨es,z,hb,F,G,hD⟩,h3⟩:=h;have J:(zeroValue 60).run prog w= .ok .nilIface w:=zK;have h4:=h3 s.data.toList;rcases Maps.fit_look true zCW underlying102 J hb F (keyOf_string_mk underlying9 E) with ⟨q,_,k⟩ | ⟨B,y,_,_,q,C,k,_⟩
 rw [<-hD] at k
 have A:S s.data.toList=none:=by
  cases hS:S s.data.toList with
  | none=>rfl
  | some v=>
   have t:=h4 .nil;rw [hS] at t;have u:=k .nil;rw [t] at u;cases u
 rw [A];simpa using q;rw [<-hD] at k;have I:y=(.held B.val,[]):=(Yd C).symm
 have A:S s.data.toList=some B.val:=by
  have u:=k .nil;rw [I] at u;have t:=h4 .nil;rw [u] at t;cases hS:S s.data.toList with
  | none=>rw [hS] at t;cases t
  | some v=>rw [hS] at t;simp only [DataW.held.injEq] at t;rw [t]
 rw [A];simpa using q
def uU (S:List UInt8->Option Value) (l:List UInt8) (v:Value):List UInt8->Option Value:=fun k=>if k=l then some v else S k
theorem zHZ (w:World) {rest:List Oper} {t:TypeId}
 (hg:o.guard=none) (q:o.op=Op.makeMap t none)
 (hK:wpList prog ops Q rest (a.put o.dst (.map (some w))) (w.alloc (.map #[] 0))):wpList prog ops Q (o::rest) a w:=by
 refine wpList_plain hg fun K k=>?_;have hr:(Instr.makeMap t none).run prog w= .ok (.map (some w)) (w.alloc (.map #[] 0)):=rfl;unfold Oper.wp;simp [execOp,q,hr,Result.andThen];exact k _ _ hK
end
section
open Go.RowKit Tq Go.Proofs.Tryz
variable {ab bx f g kb kn mb : Nat} {alt : Bool} {w w' : World}
def Qd (mb:Nat) (L:List (World->Prop)) (w:World):Prop:= ∀p,p ∈ L->p w/\ ∀v v':World,v.grownBy v' (some mb)->p v->p v'
theorem Qd.step {L:List (World->Prop)} (h:Qd mb L w) (hg:w.grownBy w' (some mb)):Qd mb L w':=fun p hp=>⟨(h p hp).2 w w' hg (h p hp).1,(h p hp).2⟩
theorem Qd.cons {L:List (World->Prop)} {p:World->Prop} (h:Qd mb L w) (hp:p w) (hk: ∀v k:World,v.grownBy k (some mb)->p v->p k):Qd mb (p::L) w:=by
 intro q hq;rcases List.mem_cons.1 hq with rfl | hq
 exact ⟨hp,hk⟩;exact h q hq
def xN (kb ab g kn:Nat) (ks:List Prt) (alt:Bool) (w:World):Prop:=Blk w kb 82 #[.slice ↑g kn kn]/\Blk w ab 4 #[.bool alt]/\RowT w 124 3 g kn kn (flat ks)
def ky (bx f:Nat) (w:World):Prop:=Blk w bx 74 #[.func (.func f) #[] #[]]
theorem xN.kept {ks:List Prt} (h1:kb≠mb) (h2:ab≠mb) (h3:g≠mb): ∀v k:World,v.grownBy k (some mb)->xN kb ab g kn ks alt v->xN kb ab g kn ks alt k:=
 fun v k hg h=>⟨h.1.grown hg (fun e=>h1 (Yd e)),h.2.1.grown hg (fun e=>h2 (Yd e)),h.2.2.grown hg (fun e=>h3 (Yd e))⟩
theorem ky.kept (h1:bx≠mb): ∀v k:World,v.grownBy k (some mb)->ky bx f v->ky bx f k:=
 fun v k hg h=>Blk.grown h hg (fun e=>h1 (Yd e))
def zAe (kb ab:Nat):Value:= .iface 139 (.func (.func 160) #[] #[.pointer ↑kb, .pointer ↑ab])
def zIQ (bx:Nat):Value:= .iface 142 (.func (.func 163) #[] #[.pointer ↑bx])
def fnV (T f:Nat):Value:= .iface T (.func (.func f) #[] #[])
def Vx (k1 a1 k2 a2 k3 a3 k4 a4 b1 b2 b3:Nat):List UInt8->Option Value:=
 (uU (uU (uU (uU (uU (uU (uU (uU (uU (uU (uU (uU (uU (uU (uU (fun _=>none) [114,101,118,101,114,115,101] (fnV 137 116)) [115,99,114,101,101,110] (fnV 139 117)) [100,105,102,102,117,115,101,32,115,116,101,105,110,32,108,101,102,116] (zAe k1 a1)) [100,105,102,102,117,115,101,32,115,116,101,105,110,32,98,111,116,104] (zAe k2 a2)) [100,105,102,102,117,115,101,32,112,108,97,105,110,32,108,101,102,116] (zAe k3 a3)) [100,105,102,102,117,115,101,32,112,108,97,105,110,32,98,111,116,104] (zAe k4 a4)) [103,114,111,119] (zIQ b1)) [115,104,114,105,110,107] (zIQ b2)) [109,105,114,114,111,114] (zIQ b3)) [100,114,111,112] (fnV 142 125)) [115,104,111,119] (fnV 142 126)) [114,117,110,115] (fnV 142 127)) [109,101,97,110] (fnV 142 128)) [99,111,117,110,116,115] (fnV 142 129)) [101,114,114,111,114] (fnV 142 130))
theorem vX (a:Option Addr) (n c:Nat) (alt:Bool) (w:World):
 Calls prog 118 #[.slice a n c, .bool alt] w fun e w'=>e= .returned (.func (.func 160) #[] #[.pointer ↑w, .pointer ↑(w.heap.size+1)])/\w'=(w.alloc (.cells #[.slice a n c] 82)).alloc (.cells #[.bool alt] 4):=by
 go_in;go_wp2_with fail;go_ret;exact ⟨sI,rfl⟩
theorem qk (f:Nat) (w:World):
 Calls prog 121 #[.func (.func f) #[] #[]] w fun e w'=>e= .returned (.func (.func 163) #[] #[.pointer ↑w])/\w'=w.alloc (.cells #[.func (.func f) #[] #[]] 74):=by
 go_in;go_wp2_with fail;go_ret;exact ⟨rfl,rfl⟩
end
end Go.Proofs.YtlenfgdjdianiaaGreatDoor
