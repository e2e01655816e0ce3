/- Facts on which this claim rests, 35. -/
import Derived.Test.YtlenfgdjdianiaaGreatDoorF33
set_option linter.all false
set_option maxHeartbeats 6400000
namespace Go.Proofs.YtlenfgdjdianiaaGreatDoor
open Go.RowKit Tq Go.Proofs.Tryz
variable {B H W b j k l n off s y : Nat} {E : Prop} {K : Act → World → Prop} {Q : Exit → Act → World → Prop} {a ad ad' : Option Addr} {o : Oper} {ops : Array Oper} {row : Option Nat} {v w w' : World} {xs : List Int}
theorem zJW (w:World) {a:Act}
 (m:o.guard=none) (s x:Operand) (q:o.op= .call {callee:= .builtin .append,args:=#[s,x],argTypes:=#[22,22]})
 (B n e:Nat) (ad:Option Addr) (xs:List Int) (J:a.eval s= .slice ad n e) (I:OwnA w B ad n e xs) (g:Nat) (v:Int) (L:a.eval x= .slice ↑g 1 1)
 (hc:w.cell? g=some ↑v) (hn:n<=1048576) (G:B<=w.heap.size)
 (hK: ∀ad' c w',OwnA w' B ad' (n+1) c (xs++ [v])->w.grownBy w' (zL ad)->(zL ad'=zL ad\/zL ad'=some w)->K (a.put o.dst (.slice ad' (n+1) c)) w'):
 if Region.wanted o (yielded ops a.tmps)=true then Oper.wp prog o a w K Q else E:=by
 have hw:Region.wanted o (yielded ops a.tmps)=true:=by simp [Region.wanted,m]
 rw [if_pos hw];obtain ⟨i,hi,t,z,A⟩:=info_parts qD
 obtain ⟨M,w',hr,h2,h3,_,C⟩:=run_append_own_at (P:=prog) w B 22 o.type 3 i ↑Z0 1 8 underlying22 hi t z A rfl dC _ n (xs.map (Value.int .i64)) I.toRow ↑g 1 1 [↑v] rfl (fun j u f=>by
  match j,f with
  | 0,f=>simp at f;subst f;simpa [Addr.add] using hc) (fun u D=>by simp at D;subst D;rfl) (by unfold maxLen;omega) om G
 unfold Oper.wp execOp;simp only [q,resolve,invoke,builtin,Sem.run_bind,Sem.run_pure,Result.andThen_ok,List.map_toArray,List.map_cons,List.map_nil,J,L,hr];have h4:w'.ownsRow B 3 1 M (n+1) ((xs++ [v]).map (Value.int .i64)):=by simpa using h2
 obtain ⟨ad',c,rfl,F⟩:=OwnA.ofRow h4;rw [ud] at h3;rw [ud,ud] at C;exact hK ad' c w' F h3 C
theorem zID (hn:xs.length=n) (f:s<=n) (c:j<n):(qN xs s).getD j 0=xs.getD ((j+s) % n) 0:=by
 unfold qN;by_cases h:j+s<n
 rw [Nat.mod_eq_of_lt h];simp only [List.getD];rw [List.getElem?_append_left sO,List.getElem?_drop,Nat.add_comm];have e:(j+s) % n=j+s - n:=by rw [Nat.mod_eq_sub_mod om,Nat.mod_eq_of_lt om]
 rw [e];simp only [List.getD];rw [List.getElem?_append_right sO,List.length_drop,List.getElem?_take,if_pos om];congr 2;omega
theorem zFY (hn:xs.length=n) (c:s<=n):(qN xs s).length=n:=by
 unfold qN;simp;omega
def kX (w:World) (ad a:Option Addr) (xs:List Int):Prop:=Rd w a xs/\ ∀x,zL a=some x->x<w.heap.size/\zL ad≠some x
theorem zDW (h:Rd w a xs) (hg:w.grownBy w' row) (ha: ∀x,zL a=some x->row≠some x):Rd w' a xs:=fun k hk=>by
 obtain ⟨b,off,h1,h2,h3⟩:=h k hk;subst h1;exact ⟨b,off,rfl,Yb h2 hg.size,(World.cell?_of_block (by exact hg.block b h2 (fun e=>ha b rfl e.symm))).trans h3⟩
theorem kX.step (h:kX w ad a xs) (hg:w.grownBy w' (zL ad)) (g:zL ad'=zL ad\/zL ad'=some w):kX w' ad' a xs:=
 ⟨zDW h.1 hg (fun x c=>(h.2 x c).2),fun x c=>by
  obtain ⟨h1,h2⟩:=h.2 x c;refine ⟨Yb h1 hg.size,?_⟩;rcases g with e | e
  rw [e];exact h2
  rw [e];intro f;have:=Yd f;omega⟩
theorem kX.alloc {w:World} {ad a:Option Addr} {xs:List Int} (h:kX w ad a xs) (o:Obj):kX (w.alloc o) ad a xs:=
 ⟨h.1.alloc o,fun x c=>⟨by have:=(h.2 x c).1;simp;omega,(h.2 x c).2⟩⟩
theorem kX.drew {w:World} {ad a:Option Addr} {xs:List Int} (h:kX w ad a xs):kX w.drew ad a xs:=⟨h.1.drew,h.2⟩
theorem kX.mk' (h:Rd w a xs) (hn:1<=xs.length) (ha: ∀x,zL a=some x->x=b\/k<=x) (hb:b<B) (hd: ∀x,zL ad=some x->B<=x/\x<k):kX w ad a xs:=
 ⟨h,fun x c=>by
  obtain ⟨b2,off,h1,h2,_⟩:=h 0 om;subst h1;simp only [zL,Option.some.injEq] at c;subst c;refine ⟨h2,fun e=>?_⟩;have:=hd b2 e
  rcases ha b2 rfl with q | q <;>omega⟩
def zMo (w:World) (n:Nat) (ys:List Int) (e:Ending) (w':World):Prop:= ∃a c,e= .returned (.slice a n c)/\OwnA w' w a n c ys/\Below w w w'
theorem UV (c:j<l):((xs.drop s).take l).getD j 0=xs.getD (s+j) 0:=by
 simp [List.getD,List.getElem?_take,List.getElem?_drop,c]
theorem zCX (hn:xs.length=n) (h:s+l<=n):((xs.drop s).take l).length=l:=by
 simp;omega
theorem zMy (c:j<W):vx W H xs (W*k+j)=xs.getD (W*k+j) 0+xs.getD (W*k+(j+1) % W) 0+xs.getD (W*k+(j+(W - 1)) % W) 0+xs.getD (W*((k+1) % H)+j) 0+xs.getD (W*((k+(H - 1)) % H)+j) 0:=by
 unfold vx UD zAy zAj upI;rw [zNP c,zNQ c]
theorem zQg (hk:k<H):((k:Int) - 1) % (H:Int)=(((k+(H - 1)) % H:Nat):Int):=by
 have h1:((k:Int) - 1) % (H:Int)=((k:Int) - 1+(H:Int)) % (H:Int):=by rw [Int.add_emod_right]
 have h2:(k:Int) - 1+(H:Int)=((k+(H - 1):Nat):Int):=om;rw [h1,h2];norm_cast
theorem zOB:((k:Int)+1) % (H:Int)=(((k+1) % H:Nat):Int):=nC
theorem ZD (e:n=W*H) (c:y<H):W*y+W<=n:=by
 have:W*(y+1)<=W*H:=Nat.mul_le_mul_left _ c;rw [Nat.mul_succ] at this;omega
theorem Rd.cellAt (h:Rd w (some ↑(b,off)) xs) (hk:k<xs.length):w.cell? (b,off+k)=some ↑(xs.getD k 0):=by
 obtain ⟨f,c,h1,_,h3⟩:=h k hk;have e:=Yd h1;simp only [Addr.mk.injEq] at e;obtain ⟨rfl,rfl,_⟩:=e;exact h3
theorem Kr {a:Addr} {y:Value} (O:Obj) (h:v.cell? a=some y):(v.drew.alloc O).cell? a=some y:=by
 rw [World.cell?_alloc_some _ _ _ (by rw [show v.drew.cell? a=v.cell? a from rfl,h];rfl)];exact h
theorem zKc (n:Nat) (f:Nat->Int) (v:Int) (h:f n=v):gen n f++ [v]=gen (n+1) f:=by rw [<-h];exact jG n f
set_option maxRecDepth 100000 in
theorem zCF (W H:Nat) (b off n f:Nat) (xs:List Int) (w:World) (hn:xs.length=n) (ha:Rd w (some ⟨b,off,none⟩) xs) (W1:1<=W) (W2:W<=64) (H1:1<=H) (H2:H<=64) (hq:n=W*H) (g8:n<=1024) (hc:n<=f) (z:zIK n xs):
 Calls Tryz.prog 203 #[.agg #[.int .i64 W, .int .i64 H, .slice (some ⟨b,off,none⟩) n f]] w (zMo w n (gen n (vx W H xs))):=by
 have HN:=Jh hn;have HA:=Jh ha;have HX:=Jh z;have HQ:=Jh hq;obtain ⟨b0,q0,e0,lb,_⟩:=ha.at (by have:1*1<=W*H:=Nat.mul_le_mul W1 H1;omega);have e1:=Yd e0;simp only [Addr.mk.injEq] at e1;obtain ⟨rfl,rfl,_⟩:=e1;clear e0 hn ha z hq;have W3:(0:Int)<=(W:Int):=by omega
 go_enter Tryz.func203,Tryz.ntmps203;go_wp2_with fail;have KP:=Jh (Blk.new w 31 #[.int .i64 W, .int .i64 H, .slice (some ⟨b,off,none⟩) n f]);obtain ⟨L,o0,o1,o2⟩:=KP.Z.c3;have X:=Jh (Joins.below_alloc1 w (.cells #[.int .i64 W, .int .i64 H, .slice (some ⟨b,off,none⟩) n f] 31));obtain ⟨g,c5⟩: ∃g,g=w.alloc (.cells #[.int .i64 W, .int .i64 H, .slice (some ⟨b,off,none⟩) n f] 31):=⟨_,rfl⟩
 have ZO:Hd (g.heap.size=w.heap.size+1):=Jh (by rw [c5];simp);go_wp2_with fail;rw [<-c5] at KP X L o0 o1 o2⊢;have I:=Jh (HA.Z.below X.Z);clear c5 L o0 o1 o2
 go_loopw [3,14] (fun s i wr=> ∃(k m:Nat) (ad:Option Addr) (c:Nat),k<=H/\s= .slice ad m c/\i= .int .i64 k/\Hd (m=W*k)/\Hd (OwnA wr g.heap.size ad m c (gen m (vx W H xs)))/\Hd (Below g.heap.size g wr)) (fun _ i _=>H - (intOf i).toNat)
 case atStart=>exact ⟨0,0,none,0,Nat.zero_le _,rfl,rfl,Jh (by simp),Jh (OwnA.none _ _),Jh (Below.refl _ _)⟩
 obtain ⟨k,m,ad,c,hk,rfl,rfl,HM,HO,HW⟩:=hrel;have e2:=Jh (KP.Z.zA HW.Z);have g6:=Jh (I.Z.below HW.Z);obtain ⟨L,o0,o1,o2⟩:=e2.Z.c3;by_cases b7:k<H
 . obtain ⟨U,hU⟩: ∃U,(k+(H - 1)) % H=U:=⟨_,rfl⟩
   obtain ⟨D,hD⟩: ∃D,(k+1) % H=D:=⟨_,rfl⟩
   have U1:U<H:=by rw [<-hU];exact Nat.mod_lt _ (by omega)
   have D1:D<H:=by rw [<-hD];exact Nat.mod_lt _ (by omega)
   have rU:=zQg b7;have rD:=zOB (H:=H) (k:=k);rw [hU] at rU;rw [hD] at rD;have fK:=ZD HQ.Z b7;have fU:=ZD HQ.Z U1;have fD:=ZD HQ.Z D1;have m1:=HM.Z;have CK:=Jh (fun v:World=>Zz W H b off n f k (k:Int) v rfl W1 (by omega) W2 (by rw [Nat.mul_comm];exact fK) hc (by omega));have CU:=Jh (fun v:World=>Zz W H b off n f U (U:Int) v rfl W1 (by omega) W2 (by rw [Nat.mul_comm];exact fU) hc (by omega));have CD:=Jh (fun v:World=>Zz W H b off n f D (D:Int) v rfl W1 (by omega) W2 (by rw [Nat.mul_comm];exact fD) hc (by omega));have RU:Hd (∀v:World,Calls Tryz.prog 235 #[.int .i64 ((k:Int) - 1), .int .i64 H] v fun e w'=>e= .returned (.int .i64 (U:Int))/\v=w'):=Jh (fun v=>by have h:=qC ((k:Int) - 1) H v (by omega) (by omega);rwa [rU] at h);have RD:Hd (∀v:World,Calls Tryz.prog 235 #[.int .i64 ((k:Int)+1), .int .i64 H] v fun e w'=>e= .returned (.int .i64 (D:Int))/\v=w'):=Jh (fun v=>by have h:=qC ((k:Int)+1) H v (by omega) (by omega);rwa [rD] at h);have k1:IntKind.i64.wrap ((k:Int) - 1)=(k:Int) - 1:=Yc _ (by omega);have k2:IntKind.i64.wrap ((k:Int)+1)=(k:Int)+1:=Yc _ (by omega);obtain ⟨pK,c1⟩: ∃p,off+k*W=p:=⟨_,rfl⟩
   obtain ⟨pU,c4⟩: ∃p,off+U*W=p:=⟨_,rfl⟩
   obtain ⟨pD,c0⟩: ∃p,off+D*W=p:=⟨_,rfl⟩
   rw [c1] at CK;rw [c4] at CU;rw [c0] at CD;have LK:Hd (∀v,Rd v (some ⟨b,off,none⟩) xs->Rd v (some ⟨b,pK,none⟩) ((xs.drop (k*W)).take W)):=Jh (fun v h=>by rw [<-c1];exact UA h _ _);have LU:Hd (∀v,Rd v (some ⟨b,off,none⟩) xs->Rd v (some ⟨b,pU,none⟩) ((xs.drop (U*W)).take W)):=Jh (fun v h=>by rw [<-c4];exact UA h _ _);have LD:Hd (∀v,Rd v (some ⟨b,off,none⟩) xs->Rd v (some ⟨b,pD,none⟩) ((xs.drop (D*W)).take W)):=Jh (fun v h=>by rw [<-c0];exact UA h _ _);have EU:=Jh hU;have ED:=Jh hD;have N:Hd (((xs.drop (k*W)).take W).length=W):=Jh (zCX HN.Z (by rw [Nat.mul_comm];exact fK));have nU:Hd (((xs.drop (U*W)).take W).length=W):=Jh (zCX HN.Z (by rw [Nat.mul_comm];exact fU));have nD:Hd (((xs.drop (D*W)).take W).length=W):=Jh (zCX HN.Z (by rw [Nat.mul_comm];exact fD));clear hU hD rU rD c1 c4 c0 m1 fK fU fD;go_wp2_with fail;refine (CK.Z _).mono ?_;rintro e w3 ⟨rfl,hb⟩;have d5:=Jh (zI HW.Z hb);have b6:=Jh (e2.Z.zA hb);have d3:=Jh (HO.Z.zA hb);clear hb L o0 o1 o2;obtain ⟨L,o0,o1,o2⟩:=b6.Z.c3;go_wp2_with fail;have MK:Hd (∀v,BelowL w3 v->v.cell? ⟨w.heap.size,0,none⟩=some (.int .i64 W)/\v.cell? ⟨w.heap.size,1,none⟩=some (.int .i64 H)/\v.cell? ⟨w.heap.size,2,none⟩=some (.slice (some ⟨b,off,none⟩) n f)/\BelowL w3 v):=Jh (fun v hB=>⟨(hB.Z.cell L).trans o0,(hB.Z.cell L).trans o1,(hB.Z.cell L).trans o2,hB⟩)
   go_region_held3 (fun v=>v.cell? ⟨w.heap.size,0,none⟩=some (.int .i64 W)/\v.cell? ⟨w.heap.size,1,none⟩=some (.int .i64 H)/\v.cell? ⟨w.heap.size,2,none⟩=some (.slice (some ⟨b,off,none⟩) n f)/\BelowL w3 v)
    (first | exact MK.Z _ (by assumption) | exact MK.Z _ (BelowL.start _))
    (first
     | (go_at_call 235;((with_reducible refine (RU.Z _).mono ?_);rintro e v1 ⟨rfl,rfl⟩))
     | (go_at_call 235;((with_reducible refine (RD.Z _).mono ?_);rintro e v1 ⟨rfl,rfl⟩))
     | (go_at_call 205;((with_reducible refine (CU.Z _).mono ?_);rintro e v2 ⟨rfl,f2⟩;have g5:=BelowL.call (wK (by assumption)) f2))
     | (go_at_call 205;((with_reducible refine (CD.Z _).mono ?_);rintro e v3 ⟨rfl,f4⟩;have J:=BelowL.call (wK (by assumption)) f4)))
   go_wp2_with fail;have b3:=Jh (zI d5.Z J.Z);have d7:=Jh (b6.Z.zA J.Z);have b1:=Jh (d3.Z.zA J.Z);have d1:=Jh (I.Z.below b3.Z);have O:=Jh b1.Z.bd;refine (Kd b pK W (W - 1) 1 ((W:Int) - 1) _ v3 (by omega) N.Z (by exact LK.Z _ d1.Z) W1 W2 (by omega)).mono ?_;rintro e M ⟨al,cl,rfl,f0,e6,hb⟩;have Z5:=Jh hb.size;have b4:=Jh (zI b3.Z hb);have d8:=Jh (d7.Z.zA hb);have d4:=Jh (b1.Z.zA hb);have d2:=Jh (I.Z.below b4.Z);have e3:=Jh f0;have c8:=Jh e6;clear hb f0 e6 f2 f4 g5 J L o0 o1 o2;go_wp2_with fail;refine (Kd b pK W 1 (W - 1) 1 _ M rfl N.Z (by exact LK.Z _ d2.Z) W1 W2 (by omega)).mono ?_;rintro e w6 ⟨ar,cr,rfl,f1,e7,hb⟩;have d6:=Jh (zI b4.Z hb);have g7:=Jh (d8.Z.zA hb);have f8:=Jh (d4.Z.zA hb);have V:=Jh (I.Z.below d6.Z);have e4:=Jh (e3.Z.below hb);have e5:=Jh f1;have d0:=Jh e7;clear hb f1 e7;have nL:Hd ((qN ((xs.drop (k*W)).take W) (W - 1)).length=W):=Jh (zFY N.Z (by omega));have nR:Hd ((qN ((xs.drop (k*W)).take W) 1).length=W):=Jh (zFY N.Z W1);have LB:Hd (b<g.heap.size):=Jh (by have:=ZO.Z;omega);have BD:Hd (∀x,zL ad=some x->g.heap.size<=x/\x<v3.heap.size):=Jh O.Z;have A:Hd (∀x,zL ad=some x->g.heap.size<=x/\x<M.heap.size):=Jh (fun x z=>by have:=O.Z x z;have:=Z5.Z;omega);have PK:Hd (kX w6 ad (some ⟨b,pK,none⟩) ((xs.drop (k*W)).take W)):=Jh (kX.mk' (B:=g.heap.size) (b:=b) (k:=M.heap.size) (LK.Z _ V.Z) (by rw [N.Z];exact W1) (fun x z=>Or.inl (by simpa [zL] using z.symm)) LB.Z A.Z);have PU:Hd (kX w6 ad (some ⟨b,pU,none⟩) ((xs.drop (U*W)).take W)):=Jh (kX.mk' (B:=g.heap.size) (b:=b) (k:=M.heap.size) (LU.Z _ V.Z) (by rw [nU.Z];exact W1) (fun x z=>Or.inl (by simpa [zL] using z.symm)) LB.Z A.Z);have PD:Hd (kX w6 ad (some ⟨b,pD,none⟩) ((xs.drop (D*W)).take W)):=Jh (kX.mk' (B:=g.heap.size) (b:=b) (k:=M.heap.size) (LD.Z _ V.Z) (by rw [nD.Z];exact W1) (fun x z=>Or.inl (by simpa [zL] using z.symm)) LB.Z A.Z);have PL:Hd (kX w6 ad al (qN ((xs.drop (k*W)).take W) (W - 1))):=Jh (kX.mk' (B:=g.heap.size) (b:=b) (k:=v3.heap.size) e4.Z (by rw [nL.Z];exact W1) c8.Z LB.Z BD.Z);have PR:Hd (kX w6 ad ar (qN ((xs.drop (k*W)).take W) 1)):=Jh (kX.mk' (B:=g.heap.size) (b:=b) (k:=M.heap.size) e5.Z (by rw [nR.Z];exact W1) d0.Z LB.Z A.Z);clear e3 c8 e4 e5 d0 BD A d5 b6 d3 b3 d7 b1 d1 b4 d8 d4 d2 O Z5 MK;go_wp2_with fail
   go_loopw [3,43] (fun s i wr=> ∃(j F:Nat) (ad':Option Addr) (c':Nat),j<=W/\s= .slice ad' F c'/\i= .int .i64 j/\Hd (F=m+j)/\Hd (OwnA wr g.heap.size ad' F c' (gen F (vx W H xs)))/\Hd (Below g.heap.size g wr)/\Hd (kX wr ad' (some ⟨b,pK,none⟩) ((xs.drop (k*W)).take W))/\Hd (kX wr ad' (some ⟨b,pU,none⟩) ((xs.drop (U*W)).take W))/\Hd (kX wr ad' (some ⟨b,pD,none⟩) ((xs.drop (D*W)).take W))/\Hd (kX wr ad' al (qN ((xs.drop (k*W)).take W) (W - 1)))/\Hd (kX wr ad' ar (qN ((xs.drop (k*W)).take W) 1))) (fun _ i _=>W - (intOf i).toNat)
   case atStart=>exact ⟨0,m,ad,c,Nat.zero_le _,rfl,rfl,Jh rfl,f8,d6,PK,PU,PD,PL,PR⟩
   obtain ⟨j,F,ad',c',hj,rfl,rfl,Y,b2,b5,QK,QU,QD,QL,QR⟩:=hrel;by_cases t:j<W
   . have cK:=QK.Z.1.cellAt (k:=j) (by have:=N.Z;omega)
     have cU:=QU.Z.1.cellAt (k:=j) (by have:=nU.Z;omega);have cD:=QD.Z.1.cellAt (k:=j) (by have:=nD.Z;omega);obtain ⟨bl,ol,g3,ll,cL⟩:=QL.Z.1 j (by have:=nL.Z;omega);obtain ⟨br,or,g4,lr,cR⟩:=QR.Z.1 j (by have:=nR.Z;omega);subst g3 g4;have fK:=ZD HQ.Z b7;have fU:=ZD HQ.Z U1;have fD:=ZD HQ.Z D1;have m1:=HM.Z;have kL:=Nat.mod_lt (j+(W - 1)) (show 0<W by omega);have kR:=Nat.mod_lt (j+1) (show 0<W by omega);have eK:((xs.drop (k*W)).take W).getD j 0=xs.getD (W*k+j) 0:=by rw [UV t,Nat.mul_comm]
     have eU:((xs.drop (U*W)).take W).getD j 0=xs.getD (W*U+j) 0:=by rw [UV t,Nat.mul_comm]
     have eD:((xs.drop (D*W)).take W).getD j 0=xs.getD (W*D+j) 0:=by rw [UV t,Nat.mul_comm]
     have eL:(qN ((xs.drop (k*W)).take W) (W - 1)).getD j 0=xs.getD (W*k+(j+(W - 1)) % W) 0:=by rw [zID N.Z (by omega) t,UV kL,Nat.mul_comm]
     have eR:(qN ((xs.drop (k*W)).take W) 1).getD j 0=xs.getD (W*k+(j+1) % W) 0:=by rw [zID N.Z W1 t,UV kR,Nat.mul_comm]
     have xK:=HX.Z (W*k+j) (by omega);have xU:=HX.Z (W*U+j) (by omega);have xD:=HX.Z (W*D+j) (by omega);have xL:=HX.Z (W*k+(j+(W - 1)) % W) (by omega);have xR:=HX.Z (W*k+(j+1) % W) (by omega);have P:=zMy (W:=W) (H:=H) (k:=k) (xs:=xs) t;rw [EU.Z,ED.Z,<-m1] at P;rw [<-m1] at eK eL eR xK xL xR;rw [eK] at cK;rw [eU] at cU;rw [eD] at cD;rw [eL] at cL;rw [eR] at cR;obtain ⟨a0,h0⟩: ∃a,xs.getD (m+j) 0=a:=⟨_,rfl⟩
     obtain ⟨a1,h1⟩: ∃a,xs.getD (W*U+j) 0=a:=⟨_,rfl⟩
     obtain ⟨a2,h2⟩: ∃a,xs.getD (W*D+j) 0=a:=⟨_,rfl⟩
     obtain ⟨a3,h3⟩: ∃a,xs.getD (m+(j+(W - 1)) % W) 0=a:=⟨_,rfl⟩
     obtain ⟨a4,h4⟩: ∃a,xs.getD (m+(j+1) % W) 0=a:=⟨_,rfl⟩
     rw [h0] at cK xK P;rw [h1] at cU xU P;rw [h2] at cD xD P;rw [h3] at cL xL P;rw [h4] at cR xR P;obtain ⟨h7,h8⟩:0<=a0/\a0<=1:=by omega
     obtain ⟨i0,i1⟩:0<=a1/\a1<=1:=by omega
     obtain ⟨i2,i3⟩:0<=a2/\a2<=1:=by omega
     obtain ⟨i4,i5⟩:0<=a3/\a3<=1:=by omega
     obtain ⟨i6,i7⟩:0<=a4/\a4<=1:=by omega
     have T:vx W H xs (m+j)=a0+a1+a2+a3+a4:=by omega
     have EM:F=m+j:=Y.Z;rw [<-EM] at T;have EV:=Jh T;have w1:IntKind.i64.wrap (a0+a1)=a0+a1:=Yc _ (by omega);have w2:IntKind.i64.wrap (a0+a1+a2)=a0+a1+a2:=Yc _ (by omega);have w3:IntKind.i64.wrap (a0+a1+a2+a3)=a0+a1+a2+a3:=Yc _ (by omega);have w4:IntKind.i64.wrap (a0+a1+a2+a3+a4)=a0+a1+a2+a3+a4:=Yc _ (by omega);have mb:F<=1024:=by omega
     have h5:(0:Int)<=(j:Int):=by omega
     have h6:(j:Int)<(W:Int):=by omega
     have WZ:=Jh b5.Z.size;have VU:Hd (((xs.drop (U*W)).take W).getD j 0=a1):=Jh (by rw [eU,h1]);have VD:Hd (((xs.drop (D*W)).take W).getD j 0=a2):=Jh (by rw [eD,h2]);have VL:Hd ((qN ((xs.drop (k*W)).take W) (W - 1)).getD j 0=a3):=Jh (by rw [eL,h3]);have VR:Hd ((qN ((xs.drop (k*W)).take W) 1).getD j 0=a4):=Jh (by rw [eR,h4]);clear eK eU eD eL eR xK xU xD xL xR h0 h1 h2 h3 h4 P T EM fK fU fD m1 kL kR;go_upto_region 11 with fail;refine wp_region_held_drew (S:=fun v=>v.cell? ⟨b,pU+j,none⟩=some (.int .i64 a1)/\v.cell? ⟨b,pD+j,none⟩=some (.int .i64 a2)/\v.cell? ⟨bl,ol+j,none⟩=some (.int .i64 a3)/\v.cell? ⟨br,or+j,none⟩=some (.int .i64 a4)) (by kernel_rfl) ⟨cU,cD,cL,cR⟩ ?_;intro C;refine zO 0 ?_;refine zO 1 ?_;refine zO 2 ?_;refine zO 3 ?_;refine zO 4 ?_;refine zO 5 ?_;refine zO 6 ?_;refine zO 7 ?_;refine zO 8 ?_;refine zO 9 ?_;refine zO 10 ?_;refine zO 11 ?_;refine zO 12 ?_;refine zO 13 ?_;refine zO 14 ?_;refine zO 15 ?_;refine zO 16 ?_;refine zO 17 ?_;refine zO 18 ?_;refine zO 19 ?_;refine zO 20 ?_;refine zO 21 ?_;(try simp only [List.getElem_toArray,List.getElem_cons_succ,List.getElem_cons_zero,Act.put,List.setIfInBounds_toArray,List.set_cons_zero,List.set_cons_succ]);refine zy 22 (fun K hK=>?_);go_simp;refine hK.out _ _ (by (try dsimp only);exact ⟨Kr _ cU,Kr _ cD,Kr _ cL,Kr _ cR⟩) (fun C=>?_);clear hK K;refine zy 23 (fun K hK=>?_);refine zJW _ (by rfl) (.tmp 48) (.tmp 70) (by rfl) g.heap.size F c' ad' (gen F (vx W H xs)) (by rfl) ((b2.Z.drew).alloc _) wr.heap.size (a0+a1+a2+a3+a4) (by rfl) ((Blk.new wr.drew 3 #[.int .i64 (a0+a1+a2+a3+a4)]).cell 0) (by omega) (by have:=WZ.Z;simp;omega) ?_;intro g2 e8 M b8 q u;rw [zKc _ _ _ EV.Z] at b8;have g0:=Jh b8;have g1:=Jh ((b5.Z.drew.alloc (by have:=WZ.Z;simpa using this) (.cells #[.int .i64 (a0+a1+a2+a3+a4)] 3)).grown q (by have:=WZ.Z;simp;omega) (fun x z=>(b2.Z.bd x z).1));have TK:=Jh ((QK.Z.drew.alloc (.cells #[.int .i64 (a0+a1+a2+a3+a4)] 3)).step q u);have TU:=Jh ((QU.Z.drew.alloc (.cells #[.int .i64 (a0+a1+a2+a3+a4)] 3)).step q u);have TD:=Jh ((QD.Z.drew.alloc (.cells #[.int .i64 (a0+a1+a2+a3+a4)] 3)).step q u);have TL:=Jh ((QL.Z.drew.alloc (.cells #[.int .i64 (a0+a1+a2+a3+a4)] 3)).step q u);have TR:=Jh ((QR.Z.drew.alloc (.cells #[.int .i64 (a0+a1+a2+a3+a4)] 3)).step q u);clear b8 q u;have tU:=TU.Z.1.cellAt (k:=j) (by have:=nU.Z;omega);have tD:=TD.Z.1.cellAt (k:=j) (by have:=nD.Z;omega);have tL:=TL.Z.1.cellAt (k:=j) (by have:=nL.Z;omega);have tR:=TR.Z.1.cellAt (k:=j) (by have:=nR.Z;omega);rw [VU.Z] at tU;rw [VD.Z] at tD;rw [VL.Z] at tL;rw [VR.Z] at tR;(try simp only [List.getElem_toArray,List.getElem_cons_succ,List.getElem_cons_zero,Act.put,List.setIfInBounds_toArray,List.set_cons_zero,List.set_cons_succ]);have f5:M.cell? ⟨bl,ol+j,none⟩=some (.int .i64 a3):=tL;have f6:M.cell? ⟨br,or+j,none⟩=some (.int .i64 a4):=tR;refine hK.out _ _ (by (try dsimp only);exact ⟨tU,tD,f5,f6⟩) (fun C=>?_);clear hK K;refine zO 24 ?_;(try simp only [List.getElem_toArray,List.getElem_cons_succ,List.getElem_cons_zero,Act.put,List.setIfInBounds_toArray,List.set_cons_zero,List.set_cons_succ]);refine wpAnyH_done (by kernel_rfl) ?_ _;clear tU tD tL tR f5 f6;go_wp2_with fail;go_roundw
     case rel=>exact ⟨j+1,F+1,g2,e8,by omega,rfl,by go_num,Jh (by have:=Y.Z;omega),g0,g1,TK,TU,TD,TL,TR⟩
     simp [intOf];omega
   obtain rfl:j=W:=by omega
   go_wp2_with fail;go_roundw
   case rel=>exact ⟨k+1,F,ad',c',by omega,rfl,by go_num,Jh (by have:=Y.Z;have:=HM.Z;rw [Nat.mul_succ];omega),b2,b5⟩
   simp [intOf];omega
 obtain rfl:k=H:=by omega
 have EM:Hd (m=n):=Jh (by have:=HM.Z;have:=HQ.Z;omega);go_wp2_with fail;go_ret;exact ⟨ad,c,by rw [EM.Z];rfl,by rw [<-EM.Z];exact HO.Z.mono (by have:=ZO.Z;omega),X.Z.trans (HW.Z.mono (by have:=ZO.Z;omega))⟩
theorem wX (W H:Int) (ad:Option Addr) (n u:Nat) (xs:List Int) (c:Int) (w:World) (hn:xs.length=n) (ha:Rd w ad xs) (hl:n<=9223372036854775807) (b0:n<=u):
 Calls prog 164 #[.agg #[W,H, .slice ad n u],c] w (jl w (jv c W H xs)):=by
 have J:=Jh hn;have HA:=Jh ha;clear hn ha;by_cases hp:zP W H xs 1=true
 case neg=>
  have e5:zP W H xs 1=false:=by simpa using hp
  rw [zEp hp];clear hp;go_in;go_wp2_with fail;refine (kH _ _ _ _ _ xs _ J.Z (by exact (HA.Z.alloc _).alloc _) hl).mono ?_;rintro e w1 ⟨rfl,hb⟩;have F:=Jh (nV.trans (hb.mono sO));have G:=Jh (((Blk.new w 31 #[W,H, .slice ad n u]).alloc _).zA hb)
  have t:Hd (Blk w1 (w.heap.size+1) 31 ↑Zp):=by
   have h:=(Blk.new (w.alloc (.cells #[W,H, .slice ad n u] 31)) 31 ↑Zp).zA hb;exact Jh (by simpa using h)
  obtain ⟨l1,c0,c1,c2⟩:=G.Z.c3;obtain ⟨m1,d0,d1,d2⟩:=t.Z.c3;obtain ⟨f0,f1,f2⟩:=t.Z.f3;clear hb;rw [e5];go_wp2_with fail
  exact bodyPost_ret (v:= .agg ↑Zp) (by simp [results,results164,go_sem,d0,d1,d2]) rfl ⟨none,0,0,rfl,oN,om,
   ((F.Z.setCell sD _).setCell sD _).setCell sD _⟩
 rw [VZ J.Z hp];obtain ⟨D,hq,hi⟩:=yH J.Z hp;obtain ⟨b1,b2,b3,b4,b5,b6⟩:=yF D;have HQ:=Jh hq;have HI:=Jh hi;have HS:=Jh D;have e6:1<=n:=om;have e4:n<=1024:=om;clear hq hi D;have HX:=Jh (zEd J.Z HI.Z);obtain ⟨Wn,e1⟩: ∃Wn:Nat,W=Wn:=⟨W.toNat,om⟩
 obtain ⟨f,e0⟩: ∃f:Nat,H=f:=⟨H.toNat,om⟩
 subst e1 e0;obtain ⟨b,off,e2,_,_⟩:=HA.Z.at (oh J);subst e2;have b7:n=Wn*f:=by have:((Wn*f:Nat):Int)=(Wn:Int)*(f:Int):=Int.natCast_mul _ _;have:=HQ.Z;omega
 have CC:=Jh (fun (v:World) (hv:Rd v (some ↑(b,off)) xs)=>zCF Wn f b off n u xs v J.Z hv om om om om b7 e4 b0 HX.Z);have E1:Hd ((Wn:Int).toNat=Wn):=Jh (Yu _);have E2:Hd ((f:Int).toNat=f):=Jh (Yu _);rw [E1.Z,E2.Z];clear b7;go_in;go_wp2_with fail;refine (kH _ _ _ _ _ xs _ J.Z (by exact (HA.Z.alloc _).alloc _) hl).mono ?_;rintro e w1 ⟨rfl,hb⟩;have F:=Jh (nV.trans (hb.mono sO));have G:=Jh (((Blk.new w 31 #[Wn,f, .slice (some ↑(b,off)) n u]).alloc _).zA hb)
 have t:Hd (Blk w1 (w.heap.size+1) 31 ↑Zp):=by
  have h:=(Blk.new (w.alloc (.cells #[Wn,f, .slice (some ↑(b,off)) n u] 31)) 31 ↑Zp).zA hb;exact Jh (by simpa using h)
 obtain ⟨l1,c0,c1,c2⟩:=G.Z.c3;obtain ⟨m1,d0,d1,d2⟩:=t.Z.c3;obtain ⟨f0,f1,f2⟩:=t.Z.f3;clear hb;rw [hp];go_wp2_with fail;refine (jw (Wn:Int) (f:Int) n _ HS.Z HQ.Z).mono ?_;rintro e w2 ⟨g,rfl,hg,ho,hb⟩;have O:=Jh (F.Z.trans (hb.mono F.Z.size));have d6:=Jh (G.Z.zA hb);have d7:=Jh (t.Z.zA hb);have HO:=Jh ho;have HG:Hd (w1.heap.size<=g):=Jh hg;clear hb hg ho c0 c1 c2 d0 d1 d2 f0 f1 f2;obtain ⟨l2,c0,c1,c2⟩:=d6.Z.c3;go_wp2_with fail;have K3:=Jh (Blk.new w2 31 #[Wn,f, .slice ↑g n n]);have L:=Jh (HO.Z.alloc (.cells #[Wn,f, .slice ↑g n n] 31));have U:=Jh (d7.Z.alloc (.cells #[Wn,f, .slice ↑g n n] 31));have I:=Jh (O.Z.alloc O.Z.size (.cells #[Wn,f, .slice ↑g n n] 31));refine (CC.Z _ (by exact HA.Z.below I.Z)).mono ?_;rintro e w4 ⟨ca,cc,rfl,N,hb⟩;have K4:=Jh (K3.Z.zA hb);have d4:=Jh (L.Z.below hb L.Z.lt);have d8:=Jh (U.Z.zA hb);have P:=Jh (zI I.Z hb);have c4:=Jh N;have c5:Hd (∀x,zL ca=some x->w2.heap.size+1<=x):=Jh (fun x hx=>by have:=(N.bd x hx).1;simp at this;omega);have T:Hd (g<w2.heap.size):=Jh HO.Z.lt;have C:Hd (w.heap.size+1<g):=Jh (zB HG.Z t.Z.lt);clear hb N c0 c1 c2 l2 K3 L U I;go_wp2_with fail
 go_loopw [20] (fun i wr=> ∃k:Nat,k<=n/\i=↑k/\Hd (Own wr g n n (zn (jQ Wn f xs n c) (List.replicate n 0) k))/\Hd (w4.grownBy wr (some g))) (fun i _=>n - (intOf i).toNat)
 case atStart=>exact ⟨0,nZ,rfl,Jh (by rw [yh];exact d4.Z),Jh (yR _ _)⟩
 obtain ⟨k,hk,rfl,R,A⟩:=hrel;have d5:=Jh (K4.Z.grown A.Z (by have:=T.Z;intro e;have:=Yd e;omega));obtain ⟨l0,o0,o1,o2⟩:=d5.Z.c3;by_cases z:k<n
 . have c8:Hd (Rd wr ca (gen n (vx Wn f xs))):=Jh (zDW c4.Z.rd A.Z (fun x hx e=>by have:=c5.Z x hx;have:=T.Z;have:=Yd e;omega))
   obtain ⟨bc,oc,e3,lc,Y⟩:=c8.Z k (by rw [zZ];exact z);subst e3;rw [yN _ _ _ z] at Y;have EV:=zDE (w:=Wn) (h:=f) (xs:=xs) (m:=c) z;obtain ⟨V,hV⟩: ∃V,vx Wn f xs k=V:=⟨_,rfl⟩
   rw [hV] at EV Y;have HE:=Jh EV;clear EV hV;by_cases le:c<=V
   . have g2:=R.Z.cell z
     have g3:=R.Z.frozen k;have D:=R.Z.set k 1;rw [yd (jQ Wn f xs n c) _ k _ (by rw [uQ];exact z) sO (by rw [HE.Z,if_pos le])] at D;have M:=Jh D;clear D;go_wp2_with fail;go_roundw
     case rel=>exact ⟨k+1,om,by go_num,Jh (by simpa using M.Z),Jh (yO A.Z _)⟩
     exact Jm
   have D:=VY (jQ Wn f xs n c) (List.replicate n 0) k (by rw [uQ];exact z) sO (by rw [HE.Z,if_neg le];simp [List.getD,z]);have M:Hd (Own wr g n n (zn (jQ Wn f xs n c) (List.replicate n 0) (k+1))):=Jh (by rw [<-D];exact R.Z);clear D;go_wp2_with fail;go_roundw
   case rel=>exact ⟨k+1,om,by go_num,M,A⟩
   exact Jm
 obtain rfl:n=k:=om;have d3:Hd (Own wr g n n (jQ Wn f xs n c)):=Jh (by have h:=R.Z;rwa [xY _ _ _ (uQ _ _ _ _ _) sI] at h);have X:=Jh (d8.Z.grown A.Z (by have:=C.Z;intro e;have:=Yd e;omega));have b8:=Jh (P.Z.grown A.Z P.Z.size (by intro q hq;cases hq;have:=C.Z;omega));obtain ⟨z0,r0,r1,r2⟩:=X.Z.c3;obtain ⟨f0,f1,f2⟩:=X.Z.f3;go_wp2_with fail
 exact bodyPost_ret (v:= .agg #[Wn,f, .slice ↑g n n]) (by simp [results,results164,go_sem,r0,r1,r2]) rfl
  ⟨_,_,_,rfl,OwnA.mk (((d3.Z.other (oS C.Z) _).other (oS C.Z) _).other (oS C.Z) _) (oh C),om,
   ((b8.Z.setCell sD _).setCell sD _).setCell sD _⟩
theorem zBz (W H:Int) (ad:Option Addr) (n f:Nat) (xs:List Int) (w:World) (hn:xs.length=n) (ha:Rd w ad xs) (hl:n<=9223372036854775807) (q:n<=f):
 Calls prog 122 #[.agg #[W,H, .slice ad n f]] w (jl w (jv 1 W H xs)):=by
 have A:=Jh hn;have z:=Jh ha;clear hn ha;go_in;go_wp2_with fail;refine (wX W H ad n f xs 1 _ A.Z (by exact (z.Z.alloc _).alloc _) hl q).mono ?_;rintro e w1 ⟨a,m,c,rfl,x,hm,hb⟩;have t:=Jh (zI (zJ (zJ (Below.refl w w) _) _) hb);have i:=Jh ((Blk.zD (g:=w.heap.size+1) (w:=w.alloc (.cells #[W,H, .slice ad n f] 31)) 31 ↑Zp sI).zA hb);have u:=Jh x;obtain ⟨I,C,d1,d2⟩:=i.Z.c3;obtain ⟨D,F,G⟩:=i.Z.f3;clear x hb;go_wp2_with fail
 exact bodyPost_ret (v:= .agg #[(jv 1 W H xs).W,(jv 1 W H xs).H, .slice a m c]) (by simp [results,results122,go_sem,C,d1,d2]) rfl
  ⟨a,m,c,rfl,(((u.Z.other sI _).other sI _).other sI _).mono sO,hm,((t.Z.setCell sD _).setCell sD _).setCell sD _⟩
theorem Qn (W H:Int) (ad:Option Addr) (n f:Nat) (xs:List Int) (w:World) (hn:xs.length=n) (ha:Rd w ad xs) (hl:n<=9223372036854775807) (q:n<=f):
 Calls prog 123 #[.agg #[W,H, .slice ad n f]] w (jl w (jv 5 W H xs)):=by
 have A:=Jh hn;have z:=Jh ha;clear hn ha;go_in;go_wp2_with fail;refine (wX W H ad n f xs 5 _ A.Z (by exact (z.Z.alloc _).alloc _) hl q).mono ?_;rintro e w1 ⟨a,m,c,rfl,x,hm,hb⟩;have t:=Jh (zI (zJ (zJ (Below.refl w w) _) _) hb);have i:=Jh ((Blk.zD (g:=w.heap.size+1) (w:=w.alloc (.cells #[W,H, .slice ad n f] 31)) 31 ↑Zp sI).zA hb);have u:=Jh x;obtain ⟨I,C,d1,d2⟩:=i.Z.c3;obtain ⟨D,F,G⟩:=i.Z.f3;clear x hb;go_wp2_with fail
 exact bodyPost_ret (v:= .agg #[(jv 5 W H xs).W,(jv 5 W H xs).H, .slice a m c]) (by simp [results,results123,go_sem,C,d1,d2]) rfl
  ⟨a,m,c,rfl,(((u.Z.other sI _).other sI _).other sI _).mono sO,hm,((t.Z.setCell sD _).setCell sD _).setCell sD _⟩
def JP (xs:List Int) (W:Int) (s:Nat):List Int:=gen xs.length (fun p=>if p<s then xs.getD (uk W (p:Nat)).toNat 0 else xs.getD p 0)
theorem zFJ (xs:List Int) (W:Int) (s:Nat):(JP xs W s).length=xs.length:=zZ _ _
theorem zLR (xs:List Int) (W:Int):JP xs W 0=xs:=by
 symm;refine xk _ _ _ rfl (fun p hp=>?_);rw [if_neg om]
theorem zNc (xs:List Int) (W:Int) (s:Nat) (h:s=xs.length):JP xs W s=gen xs.length (fun j=>xs.getD (uk W (j:Nat)).toNat 0):=by
 refine xk _ _ _ (zFJ _ _ _) (fun p hp=>?_);unfold JP;rw [yN _ _ _ hp,if_pos om]
theorem zNd {W:Int} {p:Nat} {w r:Nat} (hw:(w:Int)=W) (h1:1<=w) (c:s=r*w) (h2:s<=p) (h3:p<s+w):(uk W (p:Nat)).toNat=2*s+w - 1 - p:=by
 have e:(p:Int)=(r:Int)*W+((p - s:Nat):Int):=by
  rw [<-hw,<-Int.natCast_mul,<-c];omega
 obtain ⟨f,g⟩:=wj (q:=(r:Int)) (r:=((p - s:Nat):Int)) (m:=W) om om;unfold uk;rw [e,f,g,<-hw,<-Int.natCast_mul,<-c];omega
theorem zLQ (xs:List Int) (W:Int) (s w r k:Nat) (hw:(w:Int)=W) (h1:1<=w) (e:s=r*w) (h2:s+w<=xs.length) (h3:w<=2*k+1) (h4:k<=w):
 qM (JP xs W s) s w k=JP xs W (s+w):=by
 have hl:=zFJ xs W s;refine xk _ _ _ (by rw [JW,hl]) (fun p hp=>?_);rw [JV _ _ _ _ _ om];unfold JP;by_cases c:s<=p/\p<s+w
 rw [if_pos (by omega:p<s+w),zNd hw h1 e c.1 c.2];by_cases d:p<s+k\/s+w<p+1+k
 rw [if_pos ⟨c.1,c.2,d⟩,yN _ _ _ om,if_neg om];rw [if_neg (fun h=>d h.2.2),yN _ _ _ hp,if_neg om];congr 1;omega;rw [if_neg (fun h=>c ⟨h.1,h.2.1⟩),yN _ _ _ hp];by_cases d:p<s
 rw [if_pos d,if_pos om];rw [if_neg d,if_neg om]
theorem Vd (W H:Int) (ad:Option Addr) (n t:Nat) (xs:List Int) (w:World) (hn:xs.length=n) (ha:Rd w ad xs) (hl:n<=9223372036854775807):
 Calls prog 124 #[.agg #[W,H, .slice ad n t]] w (jl w (wl W H xs)):=by
 have D:=Jh hn;have O:=Jh ha;clear hn ha;by_cases hp:zP W H xs 255=true
 case neg=>
  have Y:zP W H xs 255=false:=by simpa using hp
  rw [zHu hp];clear hp;go_in;go_wp2_with fail;refine (ym _ _ _ _ _ xs _ D.Z (by exact (O.Z.alloc _).alloc _) hl).mono ?_;rintro e w1 ⟨rfl,hb⟩;have x:=Jh (nV.trans (hb.mono sO));have f:=Jh (((Blk.new w 31 #[W,H, .slice ad n t]).alloc _).zA hb)
  have m:Hd (Blk w1 (w.heap.size+1) 31 ↑Zp):=by
   have h:=(Blk.new (w.alloc (.cells #[W,H, .slice ad n t] 31)) 31 ↑Zp).zA hb;exact Jh (by simpa using h)
  obtain ⟨l1,c0,c1,c2⟩:=f.Z.c3;obtain ⟨m1,X,d1,d2⟩:=m.Z.c3;obtain ⟨f0,f1,f2⟩:=m.Z.f3;clear hb;rw [Y];go_wp2_with fail
  exact bodyPost_ret (v:= .agg ↑Zp) (by simp [results,results124,go_sem,X,d1,d2]) rfl ⟨none,0,0,rfl,oN,om,
   ((x.Z.setCell sD _).setCell sD _).setCell sD _⟩
 obtain ⟨hs,hq,hi⟩:=yH D.Z hp;obtain ⟨b1,b2,b3,b4,b5,b6⟩:=yF hs;have T:=Jh hq;have HI:=Jh hi;have HS:=Jh hs;have b8:1<=n:=om;have c4:n<=1024:=om;clear hq hi hs;rw [Qw hp T.Z];obtain ⟨u,N⟩: ∃u:Nat,(u:Int)=W:=⟨W.toNat,om⟩
 have c:=Jh N;have M:1<=u:=om;clear N;go_in;go_wp2_with fail;refine (ym _ _ _ _ _ xs _ D.Z (by exact (O.Z.alloc _).alloc _) hl).mono ?_;rintro e w1 ⟨rfl,hb⟩;have x:=Jh (nV.trans (hb.mono sO));have f:=Jh (((Blk.new w 31 #[W,H, .slice ad n t]).alloc _).zA hb)
 have m:Hd (Blk w1 (w.heap.size+1) 31 ↑Zp):=by
  have h:=(Blk.new (w.alloc (.cells #[W,H, .slice ad n t] 31)) 31 ↑Zp).zA hb;exact Jh (by simpa using h)
 obtain ⟨l1,c0,c1,c2⟩:=f.Z.c3;obtain ⟨m1,X,d1,d2⟩:=m.Z.c3;obtain ⟨f0,f1,f2⟩:=m.Z.f3;clear hb;rw [hp];go_wp2_with fail;refine (ql W H ad n t xs _ D.Z (by exact O.Z.below x.Z) HS.Z T.Z).mono ?_;rintro e w2 ⟨g,rfl,hg,A,hb⟩;have C:=Jh (x.Z.trans (hb.mono x.Z.size));have J:=Jh (f.Z.zA hb);have L:=Jh (m.Z.zA hb);have HO:=Jh A;have z:Hd (w1.heap.size<=g):=Jh hg;clear hb hg A c0 c1 c2 X d1 d2 f0 f1 f2;obtain ⟨l2,c0,c1,c2⟩:=J.Z.c3;go_wp2_with fail
 go_loopw [4] (fun i wr=> ∃(s r:Nat),s<=n/\i=↑s/\Hd (s=r*u)/\Own wr g n n (JP xs W s)/\(w2.alloc (.cells #[W,H, .slice ↑g n n] 31)).grownBy wr (some g)) (fun i _=>n - (intOf i).toNat)
 case atStart=>exact ⟨0,0,nZ,rfl,(by unfold Hd;omega),by rw [zLR];exact HO.Z.alloc _,yR _ _⟩
 obtain ⟨k,r,hk,rfl,U,A,hg⟩:=hrel;have P:=Jh ((C.Z.alloc C.Z.size _).grown hg (oS C.Z.size) (by intro k hk;cases hk;have:=z.Z;omega));have KO:=Jh ((Blk.new w2 31 #[W,H, .slice ↑g n n]).grown hg (oS HO.Z.lt));obtain ⟨l0,o0,o1,o2⟩:=KO.Z.c3;have KP:=Jh ((J.Z.alloc _).grown hg (oT z.Z f.Z.lt));obtain ⟨l9,p0,p1,p2⟩:=KP.Z.c3;by_cases b7:k<n
 . have b0:(k:Int)+W<=n:=by
    have h1:=U.Z;have h2:=T.Z;have h3:=c.Z
    have h4:r<H.toNat:=by
     apply Nat.lt_of_mul_lt_mul_right (a:=u);rw [<-h1];have:((H.toNat*u:Nat):Int)=n:=by rw [Int.natCast_mul,h3,Int.toNat_of_nonneg om,h2,Ys]
     omega
    have h5:(r+1)*u<=H.toNat*u:=Nat.mul_le_mul_right _ h4;have:((H.toNat*u:Nat):Int)=n:=by rw [Int.natCast_mul,h3,Int.toNat_of_nonneg om,h2,Ys]
    rw [Nat.add_mul,Nat.one_mul,<-h1] at h5;omega
   go_wp2_with fail;rw [show ((k:Int)+W).toNat - k=u from by have:=c.Z;omega];refine (zGl g n n k u (n - k) (JP xs W k) _ A (oh c) M om).mono ?_;rintro e w3 ⟨rfl,⟨q,q1,q2,I⟩,G⟩;rw [zLQ xs W k u r q c.Z M U.Z (zB D.Z c.Z) q1 q2] at I;have F:=Jh I;have R:=Jh (zU hg G);have V:=Jh (KP.Z.grown G (oT z.Z f.Z.lt));obtain ⟨z9,z0,z1,z2⟩:=V.Z.c3;clear I G A hg o0 o1 o2 p0 p1 p2;go_wp2_with fail;go_roundw
   case rel=>exact ⟨k+u,r+1,by have:=c.Z;omega,by rw [<-c.Z];go_num,(by have:=U.Z;unfold Hd;rw [Nat.add_mul,Nat.one_mul,this]),F.Z,R.Z⟩
   have:=c.Z;simp [intOf];omega
 obtain rfl:n=k:=om;have KR:=Jh ((L.Z.alloc _).grown hg (oT z.Z L.Z.lt));obtain ⟨r0,r1,r2,r3⟩:=KR.Z.c3;obtain ⟨q0,q1,q2⟩:=KR.Z.f3;rw [zNc _ _ _ D.Z.symm,D.Z] at A;have F:=Jh A;clear A;go_wp2_with fail
 exact bodyPost_ret (v:= .agg #[W,H, .slice ↑g n n]) (by simp [results,results124,go_sem,r1,r2,r3]) rfl
  ⟨_,_,_,rfl,OwnA.mk (((F.Z.other (oS z.Z) _).other (oS z.Z) _).other (oS z.Z) _) (oh z),om,
   ((P.Z.setCell sD _).setCell sD _).setCell sD _⟩
end Go.Proofs.YtlenfgdjdianiaaGreatDoor
