/- Facts on which this claim rests, 16. -/
import Derived.Test.YtlenfgdjdianiaaGreatDoorG15
set_option linter.all false
set_option maxHeartbeats 6400000
namespace Go.Proofs.YtlenfgdjdianiaaGreatDoor
section
open Go.RowKit Tq Go.Proofs.Tryz
variable {M : Array Value} {P : Program} {Q : Exit → Act → World → Prop} {T X Y : Int} {a : Act} {j k n sz : Nat} {o : Oper} {ops : Array Oper} {w : World} {xs : List Int}
theorem Cz (h: ¬(-4<=X/\X<=4/\0<=Y/\Y<=4/\(Y=0->1<=X)/\1<=T/\T<=100)):uz ⟨X,Y,T⟩=false:=decide_eq_false h
theorem Qd (h:-4<=X/\X<=4/\0<=Y/\Y<=4/\(Y=0->1<=X)/\1<=T/\T<=100):uz ⟨X,Y,T⟩=true:=decide_eq_true h
theorem Di (X Y T:Int) (w:World):
 Calls prog 238 #[.agg #[X,Y,T]] w (zR (.bool (uz ⟨X,Y,T⟩)) w):=by
 by_cases c:Y=0
 . subst c
   go_in;go_wp2_with fail
   all_goals (go_ret;exact ⟨zV (by first | (symm;exact Cz om) | (symm;rw [Qd om];simp;done) | (by_cases h:T<=100 <;>first | (rw [Qd om];simp [*];done) | (rw [Cz om];simp [*];done))),nJ⟩)
 have f:(Y==0)=false:=by simpa using c
 go_in;go_wp2_with fail
 all_goals (go_ret;exact ⟨zV (by first | (symm;exact Cz om) | (symm;rw [Qd om];simp;done) | (by_cases h:T<=100 <;>first | (rw [Qd om];simp [*];done) | (rw [Cz om];simp [*];done))),nJ⟩)
theorem Xl (X Y T:Int) (w:World):
 Calls prog 240 #[.agg #[X,Y,T]] w (zR (.agg #[X,Y]) w):=by
 go_in
 go_wp2
 exact bodyPost_ret (v:= .agg #[X,Y]) (Jr results240) rfl ⟨rfl,(by first | exact Joins.below_alloc2 w _ _ | exact (bR.alloc nI _).alloc sI _)⟩
theorem bX {ks:List Prt} {q:Prt} (hk:k<=ks.length) (f:j<k) (c:prt ks j=q) (h1:q.dx=X) (h2:q.dy=Y):vO (ks.take k) X Y=true:=
 Mr (k:=j+1) (by rw [UO ks j X Y om,c,decide_eq_true ⟨h1,h2⟩];simp) om
theorem Nc (ad:Option Addr) (k n V:Nat) (ks:List Prt) (X Y:Int) (w:World) (hn:ks.length=n) (ha:Rd w ad (flat ks)) (hl:n<=1048576) (hk:k<=n):
 Calls prog 239 #[.slice ad k V, .agg #[X,Y]] w (zR (.bool (vO (ks.take k) X Y)) w):=by
 have I:=Jh hn;have HA:=Jh (ha.alloc (.cells #[X,Y] 176));clear hn ha;go_in;go_wp2_with fail;have J:=Jh (Blk.new w 176 #[X,Y]);have D:=Jh (Joins.below_alloc1 w (.cells #[X,Y] 176));have U:w.heap.size<(w.alloc (.cells #[X,Y] 176)).heap.size:=sI;obtain ⟨wo,G⟩:=zN (w.alloc (.cells #[X,Y] 176):World);rw [<-G] at J HA D U⊢;clear G
 go_loopw [9] (fun i wz=> ∃j:Nat,j<=k/\i=↑j/\Hd (vO (ks.take j) X Y=false)/\Below wo wo wz) (fun i _=>k - (intOf i).toNat)
 exact ⟨0,nZ,rfl,Jh (He X Y),bR⟩;obtain ⟨j,hj,rfl,O,C⟩:=hrel;have HZ:=Jh C;have E:=Jh (zL D.Z C);by_cases b1:j<k
 . obtain ⟨ba,oa,b0,b2,c0,c1,c2⟩:=wm (HA.Z.below C) (k:=j) (oh I)
   subst b0;obtain ⟨q,hq⟩: ∃q,prt ks j=q:=⟨_,rfl⟩
   rw [hq] at c0 c1 c2;obtain ⟨f,g,l⟩:=q;have R:=Jh hq;have y:=((J.Z.zA C).alloc (.cells #[f,g,l] 124)).cell 0;have k1:=((J.Z.zA C).alloc (.cells #[f,g,l] 124)).cell 1;have kl:=(J.Z.zA C).lt;have z:=(Blk.new wr 124 #[f,g,l]).cell 0;have A:=(Blk.new wr 124 #[f,g,l]).cell 1;have B:=(Blk.new wr 124 #[f,g,l]).cell 2;have m:w.heap.size<(wr.alloc (.cells #[f,g,l] 124)).heap.size:=sO;have c:wr.heap.size<(wr.alloc (.cells #[f,g,l] 124)).heap.size:=sI;clear hq C;dsimp only at c0 c1 c2;simp only [Yi,List.getElem?_cons_zero,List.getElem?_cons_succ] at y k1 z A B;by_cases L:f=X/\g=Y
   case pos=>
    obtain ⟨rfl,rfl⟩:=L
    go_wp2
    go_region_held3 (fun v=>Jc v w f/\Jc v (w,1) g/\JA v wr f g l)
     (first | exact ⟨y,k1,z,A,B⟩ | exact ⟨(hb.cell m).trans y,(hb.cell m).trans k1,(hb.cell c).trans z,(hb.cell c).trans A,(hb.cell c).trans B⟩)
     (first
      | (go_at_call 240;((with_reducible refine (Xl _ _ _ _).mono ?_);rintro e v1 ⟨rfl,hb⟩)))
    have u:=Jh (zL ((zM E.Z (.cells #[f,g,l] 124)).drew) hb);clear hb y k1 z A B c0 c1 c2
    go_wp2
    go_ret;exact ⟨zV (bX (oh I) b1 R.Z rfl rfl).symm,u.Z⟩
   by_cases F:f=X
   case pos=>
    have e4: ¬g=Y:=fun h=>L ⟨F,h⟩;have e3:(g==Y)=false:=by simpa using e4
    have N:=Jh e4;clear L e4;subst F
    go_wp2
    go_region_held3 (fun v=>Jc v w f/\Jc v (w,1) Y/\JA v wr f g l)
     (first | exact ⟨y,k1,z,A,B⟩ | exact ⟨(hb.cell m).trans y,(hb.cell m).trans k1,(hb.cell c).trans z,(hb.cell c).trans A,(hb.cell c).trans B⟩)
     (first
      | (go_at_call 240;((with_reducible refine (Xl _ _ _ _).mono ?_);rintro e v1 ⟨rfl,hb⟩)))
    have u:=Jh (zL ((zM HZ.Z (.cells #[f,g,l] 124)).drew) hb);clear hb y k1 z A B c0 c1 c2
    go_wp2
    go_roundw
    . exact ⟨j+1,om,by go_num,Jh (Vt (oh I) O.Z R.Z (fun h=>N.Z h.2)),u.Z⟩
    exact Jm
   have e3:(f==X)=false:=by simpa using F
   have N:=Jh F;clear L F
   go_wp2
   go_region_held3 (fun v=>Jc v w X/\Jc v (w,1) Y/\JA v wr f g l)
    (first | exact ⟨y,k1,z,A,B⟩ | exact ⟨(hb.cell m).trans y,(hb.cell m).trans k1,(hb.cell c).trans z,(hb.cell c).trans A,(hb.cell c).trans B⟩)
    (first
     | (go_at_call 240;((with_reducible refine (Xl _ _ _ _).mono ?_);rintro e v1 ⟨rfl,hb⟩)))
   have u:=Jh (zL ((zM HZ.Z (.cells #[f,g,l] 124)).drew) hb);clear hb y k1 z A B c0 c1 c2
   go_wp2
   go_roundw
   . exact ⟨j+1,om,by go_num,Jh (Vt (oh I) O.Z R.Z (fun h=>N.Z h.1)),u.Z⟩
   exact Jm
 obtain rfl:k=j:=om
 go_wp2
 go_ret;exact ⟨zV O.Z.symm,E.Z⟩
theorem JZ (ad:Option Addr) (n g:Nat) (ks:List Prt) (w:World) (hn:ks.length=n) (ha:Rd w ad (flat ks)) (hl:n<=1048576) (b0:n<=g):
 Calls prog 200 #[.slice ad n g] w (zR (.bool (kP ks)) w):=by
 have y:=Jh hn;have V:=Jh ha;clear hn ha;by_cases N:n<1
 . rw [QX y.Z om]
   go_in
   go_wp2
   go_ret;exact ⟨rfl,bR⟩
 by_cases O:12<n
 . rw [QX y.Z om]
   have h0:decide ((n:Int)<1)=false:=sO;have h1:decide (12<(n:Int))=true:=sO;go_in
   go_wp2
   go_ret;exact ⟨rfl,bR⟩
 have R:1<=n:=om;have U:n<=12:=om;clear N O;go_in
 go_wp2
 go_loopw [15] (fun i wr=> ∃k:Nat,k<=n/\i=↑k/\Hd (jL ks k=true)/\Below w w wr) (fun i _=>n - (intOf i).toNat)
 exact ⟨0,nZ,rfl,Jh rfl,bR⟩;obtain ⟨k,hk,rfl,HT,hw⟩:=hrel;have G:=Jh hw;by_cases C:k<n
 . obtain ⟨ba,oa,J,b4,c0,c1,c2⟩:=wm (V.Z.below hw) (k:=k) (oh y)
   subst J;obtain ⟨p,hp⟩: ∃p,prt ks k=p:=⟨_,rfl⟩
   rw [hp] at c0 c1 c2;obtain ⟨X,Y,T⟩:=p;have E:=Jh hp;have F:=Jh (V.Z.below hw);clear hp hw;dsimp only at c0 c1 c2;have z:=(Blk.new wr 124 #[X,Y,T]).cell 0;have A:=(Blk.new wr 124 #[X,Y,T]).cell 1;have B:=(Blk.new wr 124 #[X,Y,T]).cell 2;simp only [Yi,List.getElem?_cons_zero,List.getElem?_cons_succ] at z A B;have kc:k<=g:=om;have b5:(k:Int)<=(g:Int):=om;have k0:(0:Int)<=(k:Int):=om;by_cases hp:uz ⟨X,Y,T⟩=true
   case neg=>
    have D:uz ⟨X,Y,T⟩=false:=by simpa using hp
    have b2:=Jh hp;clear hp;go_wp2_with fail
    first | (go_region_with (first | (go_at_call 238;((with_reducible refine (Di _ _ _ _).mono ?_);rintro e v1 ⟨rfl,hb⟩;rw [D])))) | fail
    all_goals
     have m:=Jh (zL ((zM G.Z (.cells #[X,Y,T] 124)).drew) hb);clear hb;go_simp
     go_wp2
     go_ret;exact ⟨zV (Jp y.Z C (by rw [E.Z,D];rfl)).symm,m.Z⟩
   have c:wr.heap.size<(wr.alloc (.cells #[X,Y,T] 124)).heap.size:=sI;have L:k<=n:=om;obtain ⟨I,u⟩: ∃I,vO (ks.take k) X Y=I:=⟨_,rfl⟩
   cases I
   all_goals
    go_wp2
    go_region_held3 (fun v=>JA v wr X Y T)
     (first | exact ⟨z,A,B⟩ | exact ⟨(hb.cell c).trans z,(hb.cell c).trans A,(hb.cell c).trans B⟩ | exact ⟨(f.cell (Yb c hb.size)).trans ((hb.cell c).trans z),(f.cell (Yb c hb.size)).trans ((hb.cell c).trans A),(f.cell (Yb c hb.size)).trans ((hb.cell c).trans B)⟩ | exact ⟨(l.cell (Yb c (Yx hb.size f.size))).trans ((f.cell (Yb c hb.size)).trans ((hb.cell c).trans z)),(l.cell (Yb c (Yx hb.size f.size))).trans ((f.cell (Yb c hb.size)).trans ((hb.cell c).trans A)),(l.cell (Yb c (Yx hb.size f.size))).trans ((f.cell (Yb c hb.size)).trans ((hb.cell c).trans B))⟩)
     (first
      | (go_at_call 238;((with_reducible refine (Di _ _ _ _).mono ?_);rintro e v1 ⟨rfl,hb⟩;rw [hp]))
      | (go_at_call 240;((with_reducible refine (Xl _ _ _ _).mono ?_);rintro e v2 ⟨rfl,f⟩))
      | (go_at_call 239;((with_reducible refine (Nc _ k n g ks _ _ _ y.Z (by exact (((F.Z.alloc _).drew.below hb).below f).of_heap rfl) hl L).mono ?_);rintro e v3 ⟨rfl,l⟩;rw [u])))
    have m:=Jh (zL (zL (zL ((zM G.Z (.cells #[X,Y,T] 124)).drew) hb) f) l);have b3:=Jh (show jL ks k=true->uz ⟨X,Y,T⟩=true->True from fun _ _=>trivial);clear hb f l z A B c0 c1 c2;go_wp2_with fail
   . have b1:=u
     go_roundw
     . exact ⟨k+1,om,by go_num,Jh (by rw [Kk,HT.Z,E.Z,hp,u];rfl),m.Z⟩
     exact Jm
   go_ret;exact ⟨zV (Jp y.Z C (by rw [E.Z,hp,u];rfl)).symm,m.Z⟩
 obtain rfl:n=k:=om
 go_wp2
 go_ret;exact ⟨zV (Gh y.Z R U HT.Z).symm,G.Z⟩
theorem Na (F:Option Addr) (n l:Nat) (ks:List Prt) (w:World) (hn:ks.length=n) (ha:Rd w F (flat ks)) (hl:n<=1048576) (c:n<=l):
 Calls prog 294 #[.slice F n l] w fun e w'=>e= .returned ↑(VB ks)/\Below w w w':=by
 have g:=Jh hn;have m:=Jh ha;clear hn ha;by_cases hp:kP ks=true
 case neg=>
  rw [IK hp];have B:kP ks=false:=by simpa using hp
  clear hp;go_in;go_wp2_with fail;refine (JZ _ _ _ ks _ g.Z (by exact m.Z) hl c).mono ?_;rintro e w1 ⟨rfl,hb⟩;rw [B];have y:=Jh hb;clear hb
  go_wp2
  go_ret;exact ⟨rfl,y.Z⟩
 rw [Kw g.Z hp];obtain ⟨k1,k2,k3⟩:=XZ g.Z hp;have D:=Jh k3;clear k3;go_in;go_wp2_with fail;refine (JZ _ _ _ ks _ g.Z (by exact m.Z) hl c).mono ?_;rintro e w1 ⟨rfl,hb⟩;rw [hp];have y:=Jh hb;have v:=Jh (m.Z.below hb);clear hb m
 go_wp2
 go_loopw [3,11] (fun s i wr=> ∃k:Nat,k<=n/\i=↑k/\s=↑(yL ks k)/\Below w1 w1 wr) (fun _ i _=>n - (intOf i).toNat)
 exact ⟨0,nZ,rfl,rfl,bR⟩;obtain ⟨k,hk,rfl,rfl,f⟩:=hrel;obtain ⟨N,O⟩:=Xf D.Z k hk;have E:=Jh f;by_cases A:k<n
 . obtain ⟨J,L,z,I,c0,c1,c2⟩:=wm (v.Z.below f) (k:=k) (oh g)
   subst z;obtain ⟨p,hp⟩: ∃p,prt ks k=p:=⟨_,rfl⟩
   have C:=wC (qz D.Z A).1;have u:yL ks (k+1)=yL ks k+(prt ks k).wt:=rfl;rw [hp] at c0 c1 c2 C u;obtain ⟨X,Y,T⟩:=p;dsimp only at c0 c1 c2 C u;obtain ⟨_,_,_,_,_,R,t2⟩:=C;have G:=Jh u;clear hp f u
   go_wp2
   go_roundw
   . exact ⟨k+1,om,by go_num,by rw [G.Z],zM E.Z _⟩
   exact Jm
 obtain rfl:n=k:=om
 go_wp2
 go_ret;exact ⟨rfl,zL y.Z E.Z⟩
def xQ:List Prt:=[⟨1,0,7⟩,⟨-1,1,3⟩,⟨0,1,5⟩,⟨1,1,1⟩]
def xP:List Prt:=[⟨1,0,1⟩]
theorem Ql {T:Nat} (h1:xs.length=n*sz) (h2:M.toList=xs.map (Value.int .i64)) (hn:n<=maxLen):RowT (w.alloc (.cells M T)) T sz w n n xs:=
 ⟨h1,M,heap_alloc_new w _,nI,hn,by have:=congrArg List.length h2;simpa [h1] using this,by rw [h2,Yk (by simp [h1])]⟩
theorem Vg (w:World):Calls prog 54 #[] w fun e w'=> ∃g,e= .returned (.slice (some ⟨g,0,none⟩) 4 4)/\w.heap.size<=g/\RowT w' 124 3 g 4 4 (flat xQ)/\Below w w w':=by
 go_in
 go_wp2
 go_ret;exact ⟨_,rfl,nI,Ql rfl rfl dC,nJ⟩
theorem VT (w:World):Calls prog 119 #[] w fun e w'=> ∃g,e= .returned (.slice (some ⟨g,0,none⟩) 4 4)/\w.heap.size<=g/\RowT w' 124 3 g 4 4 (flat xQ)/\Below w w w':=by
 go_in
 go_wp2
 go_ret;exact ⟨_,rfl,nI,Ql rfl rfl dC,nJ⟩
theorem Zb (w:World):Calls prog 53 #[] w fun e w'=> ∃g,e= .returned (.slice (some ⟨g,0,none⟩) 1 1)/\w.heap.size<=g/\RowT w' 124 3 g 1 1 (flat xP)/\Below w w w':=by
 go_in
 go_wp2
 go_ret;exact ⟨_,rfl,nI,Ql rfl rfl dC,nJ⟩
theorem VP (w:World):Calls prog 120 #[] w fun e w'=> ∃g,e= .returned (.slice (some ⟨g,0,none⟩) 1 1)/\w.heap.size<=g/\RowT w' 124 3 g 1 1 (flat xP)/\Below w w w':=by
 go_in
 go_wp2
 go_ret;exact ⟨_,rfl,nI,Ql rfl rfl dC,nJ⟩
theorem NZ (w:World) {rest:List Oper}
 (E:o.guard=none) (t e sz f:Nat) (z:Value) (ht:P.underlying t=some (.slice e)) (F:(P.info? e).map (fun i=>(i.zero,i.size,i.bytes))=some (some z,sz,f)) (hz:z.cells.size=sz) (b0:1<=sz) (D:f<=4096)
 (s x:Operand) (I:o.op= .call {callee:= .builtin .append,args:=#[s,x],argTypes:=#[t,t]})
 (B y:Nat) (C:Option Addr) (V:a.eval s= .slice C 0 y) (U:RowA w e sz B C 0 y []) (b off m c:Nat) (v:List Int) (hx:a.eval x= .slice (some ↑(b,off)) m c)
 (hv:v.length=m*sz) (hc: ∀j,j<m*sz->w.cell? ⟨b,off+j,none⟩=some (.int .i64 (v.getD j 0))) (hn:m<=1048576) (R:B<=w.heap.size)
 (hK: ∀l g w',RowA w' e sz B l m g v->w.grownBy w' (zO C)->wpList P ops Q rest (a.put o.dst (.slice l m g)) w'):
 wpList P ops Q (o::rest) a w:=by
 obtain ⟨i,hi,J,L,N⟩:=info_parts F;have m1:m*f<=1048576*4096:=Nat.mul_le_mul om D;refine wpList_append_own w E s x t I B e i z sz f ht hi J L N hz om _ 0 (([]:List Int).map (Value.int .i64)) V U.toRow ↑(b,off) m c (v.map (Value.int .i64)) hx (by simp [hv]) ?_ ?_ (by unfold maxLen;omega) (by rw [Nat.zero_add];omega) R ?_;intro j u A;by_cases G:j<m*sz
 have:=hc j G;rw [List.getElem?_map,Ya om] at A;simp only [Option.map_some,Option.some.injEq] at A;subst A;rw [show (Addr.mk b off none).add j=⟨b,off+j,none⟩ by rw [Addr.add_lit],this];simp [List.getD,Ya (show j<v.length by omega)];rw [Yv sO] at A;cases A;intro u hu;obtain ⟨x,_,rfl⟩:=List.mem_map.1 hu;rfl;intro v' w' h2 h3 _;rw [Nat.zero_add] at h2;have h4:w'.ownsRow B e sz v' m (v.map (Value.int .i64)):=by simpa using h2
 obtain ⟨l,g,rfl,O⟩:=RowA.ofRow h4;rw [jO] at h3;exact hK l g w' O h3
theorem Hq (w:World) (T sz:Nat):RowT (w.alloc (.cells #[] T)) T sz w 0 0 []:=⟨sI,#[],heap_alloc_new w _,nI,by unfold maxLen;omega,sI,sI⟩
end
section
variable {H W e s x : Int} {a b i j k n q : Nat} {alt : Bool} {sh xs : List Int} {t : Option Nat}
open Tq Go.Proofs.Tryz
def qK (alt:Bool) (y:Int):Int:=if alt=true/\y % 2=1 then -1 else 1
def xAt (alt:Bool) (W:Int) (i:Nat):Int:=if alt=true/\(i:Int)/W % 2=1 then W - 1 - (i:Int) % W else (i:Int) % W
def zU (alt:Bool) (W:Int) (i:Nat):Nat:=((i:Int)/W*W+xAt alt W i).toNat
theorem IV (c:1<=W):0<=xAt alt W i/\xAt alt W i<W:=by
 have h1:=Yg (i:Int) (show W≠0 by omega);have h2:=Ye (i:Int) (show 0<W by omega);unfold xAt;split <;>omega
theorem XR (f:1<=W) (hn:(n:Int)=W*H) (hi:i<n):
 zU alt W i<n/\((zU alt W i:Nat):Int)=(i:Int)/W*W+xAt alt W i/\0<=(i:Int)/W/\(i:Int)/W<H/\((zU alt W i:Nat):Int)/W=(i:Int)/W/\((zU alt W i:Nat):Int) % W=xAt alt W i:=by
 obtain ⟨x,y,h1,h2,h3,h4,g,l,c⟩:=Qq (i:=(i:Int)) (W:=W) (H:=H) f om om;obtain ⟨b1,b2⟩:=IV (alt:=alt) (i:=i) f;obtain ⟨m,u⟩:=wF b1 b2 h3 h4
 have e:((zU alt W i:Nat):Int)=(i:Int)/W*W+xAt alt W i:=by
  unfold zU;rw [c];omega
 obtain ⟨d1,d2⟩:=KJ (q:=(i:Int)/W) b1 b2;refine ⟨by rw [c] at e;omega,e,om,om,by rw [e];exact d1,by rw [e];exact d2⟩
theorem Vu (g:1<=W) (hn:(n:Int)=W*H) (hi:i<n):zU alt W (zU alt W i)=i:=by
 obtain ⟨h1,h2,h3,h4,f,l⟩:=XR (alt:=alt) g hn hi
 have e:((zU alt W (zU alt W i):Nat):Int)=i:=by
  have:=(XR (alt:=alt) g hn h1).2.1;rw [this,f];have a:=Int.emod_add_mul_ediv (i:Int) W
  have c:xAt alt W (zU alt W i)=(i:Int) % W:=by
   unfold xAt;rw [f,l];unfold xAt;split <;>omega
  rw [c,Ys];omega
 omega
theorem mh (c:1<=W) (hn:(n:Int)=W*H) (hi:i<n) (hk:k<n) (h:zU alt W i=zU alt W k):i=k:=by
 rw [<-Vu (alt:=alt) c hn hi,<-Vu (alt:=alt) c hn hk,h]
def tgt (W H x y way:Int) (p:Prt):Option Nat:=if 0<=x+way*p.dx/\x+way*p.dx<W/\0<=y+p.dy/\y+p.dy<H then some ((y+p.dy)*W+(x+way*p.dx)).toNat else none
def wG (alt:Bool) (W H:Int) (i:Nat) (p:Prt):Option Nat:=tgt W H (xAt alt W i) ((i:Int)/W) (qK alt ((i:Int)/W)) p
theorem oo {p:Prt} (g:1<=W) (hn:(n:Int)=W*H) (hi:i<n) (hp:uz p=true) (h:wG alt W H i p=some j): ∃k,i<k/\k<n/\j=zU alt W k:=by
 obtain ⟨C,D,E,F,y,G,I⟩:=wC hp;unfold wG tgt at h;split at h
 case isFalse=>cases h
 case isTrue c=>
 obtain ⟨c1,c2,c3,c4⟩:=c;obtain ⟨J,L,N,O,R,U⟩:=XR (alt:=alt) g hn hi;obtain ⟨V,r2⟩:=wF c1 c2 c3 c4
 have v:(j:Int)=((i:Int)/W+p.dy)*W+(xAt alt W i+qK alt ((i:Int)/W)*p.dx):=by
  have:=Yd h;omega
 have f:j<n:=om;obtain ⟨d1,d2⟩:=KJ (q:=(i:Int)/W+p.dy) c1 c2;rw [<-v] at d1 d2;obtain ⟨k1,k2,k3,k4,A,B⟩:=XR (alt:=alt) g hn f;refine ⟨zU alt W j,?_,k1,(Vu (alt:=alt) g hn f).symm⟩;have a:=Int.emod_add_mul_ediv (i:Int) W;have b1:=Yg (i:Int) (show W≠0 by omega);have b2:=Ye (i:Int) (show 0<W by omega);by_cases l:p.dy=0
 have z:=y l
 have u:xAt alt W j=(i:Int) % W+p.dx:=by
  unfold xAt;rw [d1,d2,l];unfold xAt qK;simp only [Int.add_zero];split <;>omega
 rw [d1,l,u] at k2;simp only [Int.add_zero] at k2;rw [Ys] at k2;omega;obtain ⟨x1,x2⟩:=IV (alt:=alt) (W:=W) (i:=j) g;rw [d1] at k2;have m:=Yo (show (i:Int)/W+1<=(i:Int)/W+p.dy by omega) (show 0<=W by omega);rw [Int.add_mul ((i:Int)/W) 1 W,Int.one_mul] at m;rw [Ys] at a;omega
theorem QW (xs:List Int) (j:Nat) (v:Int) (h:j<xs.length):xE (xs.set j v)=xE xs - xs.getD j 0+v:=by
 induction xs generalizing j with
 | nil=>simp at h
 | cons x xs c=>
  cases j with
  | zero=>simp [xE];omega
  | succ j=>
   have:=c j (by simpa using h);simp only [List.set_cons_succ,xE,this];simp;omega
def VF (xs:List Int):Int:=xE (xs.map (fun v=>(v.natAbs:Int)))
theorem EO (xs:List Int) (j:Nat) (v:Int) (h:j<xs.length):VF (xs.set j v)=VF xs - ((xs.getD j 0).natAbs:Int)+(v.natAbs:Int):=by
 unfold VF;rw [List.map_set,QW _ _ _ (by simpa using h)];simp [List.getD,h]
theorem Dm (h: ∀x ∈ xs,0<=x):0<=xE xs:=by
 induction xs with
 | nil=>simp [xE]
 | cons x xs f=>
  have h1:=h x sI;have h2:=f (fun y c=>h y (by simp [c]));simp only [xE];omega
theorem sZ (h: ∀x ∈ xs,0<=x) (hx:x ∈ xs):x<=xE xs:=by
 induction xs with
 | nil=>simp at hx
 | cons y xs f=>
  have h1:=h y sI;have h2:=Dm (xs:=xs) (fun y c=>h y (by simp [c]));simp only [xE];rcases List.mem_cons.1 hx with rfl | hx
  omega;have:=f (fun y c=>h y (by simp [c])) hx;omega
theorem Cm (xs:List Int) (j:Nat):((xs.getD j 0).natAbs:Int)<=VF xs:=by
 by_cases h:j<xs.length
 unfold VF;refine sZ (fun x c=>?_) ?_;obtain ⟨y,_,rfl⟩:=List.mem_map.1 c;omega;refine List.mem_map.2 ⟨xs[j],List.getElem_mem h,?_⟩;simp [List.getD,h];have:0<=VF xs:=Dm (fun x c=>by obtain ⟨y,_,rfl⟩:=List.mem_map.1 c;omega);rw [List.getD,Yv om];simpa using this
theorem SC (h:xM xs 255=true):VF xs<=255*xs.length:=by
 have h2: ∀x ∈ xs,0<=x/\x<=255:=fun x c=>by
  have:=List.all_eq_true.1 h x c;simpa using this
 clear h;unfold VF
 induction xs with
 | nil=>simp [xE]
 | cons x xs g=>
  have h1:=h2 x sI;have h3:=g (fun y f=>h2 y (by simp [f]));simp only [List.map_cons,xE,List.length_cons];omega
def qD (st:List Int × Int) (t:Option Nat) (s:Int):List Int × Int:=
 match t with
 | some j=>(st.1.set j (st.1.getD j 0+s),st.2)
 | none=>(st.1,st.2+s)
def kT (T:Nat->Option Nat) (sh:List Int) (st:List Int × Int):Nat->List Int × Int
 | 0=>st
 | k+1=>qD (kT T sh st k) (T k) (sh.getD k 0)
def Bn (sh:List Int):Nat->Int
 | 0=>0
 | k+1=>Bn sh k+sh.getD k 0
def qb (sh:List Int):Nat->Int
 | 0=>0
 | k+1=>qb sh k+((sh.getD k 0).natAbs:Int)
theorem sN (st:List Int × Int) (t:Option Nat) (s:Int):(qD st t s).1.length=st.1.length:=by cases t <;>simp [qD]
theorem JL (T:Nat->Option Nat) (sh:List Int) (st:List Int × Int) (k:Nat):(kT T sh st k).1.length=st.1.length:=by
 induction k with
 | zero=>rfl
 | succ k c=>rw [kT,sN,c]
theorem iI {T:Nat->Option Nat} {st:List Int × Int} (h: ∀i j,i<k->T i=some j->j<st.1.length):xE (kT T sh st k).1+(kT T sh st k).2=xE st.1+st.2+Bn sh k:=by
 induction k with
 | zero=>simp [kT,Bn]
 | succ k c=>
  have h1:=c (fun i j hi=>h i j om);simp only [kT,Bn];cases hT:T k with
  | none=>simp only [qD];omega
  | some j=>
   simp only [qD];rw [QW _ _ _ (by rw [JL];exact h k j om hT)];omega
theorem MN {T:Nat->Option Nat} {st:List Int × Int} (h: ∀i j,i<k->T i=some j->j<st.1.length):VF (kT T sh st k).1+((kT T sh st k).2.natAbs:Int)<=VF st.1+(st.2.natAbs:Int)+qb sh k:=by
 induction k with
 | zero=>simp [kT,qb]
 | succ k c=>
  have h1:=c (fun i j hi=>h i j om);simp only [kT,qb];cases hT:T k with
  | none=>simp only [qD];omega
  | some j=>
   simp only [qD];rw [EO _ _ _ (by rw [JL];exact h k j om hT)];omega
theorem GQ {T:Nat->Option Nat} {st:List Int × Int} (h: ∀i,i<k->T i≠some j):(kT T sh st k).1.getD j 0=st.1.getD j 0:=by
 induction k with
 | zero=>rfl
 | succ k f=>
  have h1:=f (fun i hi=>h i om);have h2:=h k om;simp only [kT];cases hT:T k with
  | none=>simpa [qD] using h1
  | some i=>
   have c:i≠j:=fun e=>h2 (by rw [hT,e]);simp only [qD,List.getD,List.getElem?_set,if_neg c];simpa [List.getD] using h1
theorem aZ {S:Nat->Prop} {a b:List Int × Int} (hl:a.1.length=b.1.length) (h: ∀j,S j->a.1.getD j 0=b.1.getD j 0): ∀j,S j->(qD a t s).1.getD j 0=(qD b t s).1.getD j 0:=by
 intro j c;cases t with
 | none=>exact h j c
 | some i=>
  by_cases e:i=j
  subst e;by_cases hb:i<b.1.length
  simp only [qD];rw [vS _ _ _ _ om,vS _ _ _ _ hb,if_pos rfl,if_pos rfl,h i c];simp only [qD];simp only [List.getD];rw [Yv sO,Yv sO];have:=h j c;simp only [qD,List.getD,List.getElem?_set,if_neg e];simpa [List.getD] using this
theorem iH (a b:List Int × Int) (t:Option Nat) (s:Int) (h:a.2=b.2):(qD a t s).2=(qD b t s).2:=by cases t <;>simp [qD,h]
theorem zAj {ks:List Prt} (k:Nat) (hk:k<=ks.length):Bn (yR ks W e) k=kG ks W e k+(if 1<=k then e - kG ks W e ks.length else 0):=by
 induction k with
 | zero=>simp [Bn,kG]
 | succ k f=>
  have h1:=f om;simp only [Bn,kG];rw [Ht _ _ _ _ om,h1];by_cases c:k=0
  subst c;simp [kG];rw [if_pos om,if_neg c,if_pos om];omega
theorem zAi {ks:List Prt} (hn:ks.length=n) (h1:1<=n):Bn (yR ks W e) n=e:=by
 rw [zAj n om,if_pos h1,hn];omega
theorem fH {ks:List Prt} (hn:ks.length=n) (h:jL ks n=true) (k:Nat) (hk:k<=n):
 qb (yR ks (yL ks n) e) k<=((kG ks (yL ks n) e k).natAbs:Int)+(if 1<=k then ((e - kG ks (yL ks n) e n).natAbs:Int) else 0)/\(0<=e->0<=kG ks (yL ks n) e k)/\(e<=0->kG ks (yL ks n) e k<=0):=by
 have v:=(Xf h n nI).1
 induction k with
 | zero=>simp [qb,kG]
 | succ k u=>
  obtain ⟨a,b,c⟩:=u om;have hp:=wC (qz h (show k<n by omega)).1;have l:0<=e->0<=kZ ks (yL ks n) e k:=fun he=>Yw (Int.mul_nonneg he om) om
  have m:e<=0->kZ ks (yL ks n) e k<=0:=fun he=>by
   unfold kZ
   exact Int.ediv_le_of_le_mul om (by
    have:=Yo he (show 0<=(prt ks k).wt by omega)
    omega)
  have f:=Ht ks (yL ks n) e k om;rw [hn] at f;refine ⟨?_,fun he=>?_,fun he=>?_⟩;simp only [qb,kG];rw [f,if_pos (show 1<=k+1 by omega)];by_cases g:k=0
  subst g;simp only [qb,kG] at a⊢;simp;omega;rw [if_pos (show 1<=k by omega)] at a;rw [if_neg g];by_cases he:0<=e
  have:=l he;have:=b he;omega;have:=m om;have:=c om;omega;have:=l he;have:=b he;simp only [kG];omega;have:=m he;have:=c he;simp only [kG];omega
theorem Ag {ks:List Prt} (hn:ks.length=n) (h1:1<=n) (h2:n<=12) (h:jL ks n=true):qb (yR ks (yL ks n) e) n<=(e.natAbs:Int)+24:=by
 obtain ⟨a,b,c⟩:=fH (e:=e) hn h n nI;obtain ⟨d1,d2⟩:=dG (e:=e) h h1;rw [if_pos h1] at a;by_cases he:0<=e
 have:=b he;omega;have:=c om;omega
theorem FN {ks:List Prt} (hn:ks.length=n) (h1:1<=n) (h2:n<=12) (h:jL ks n=true) (k:Nat) (hk:k<n):(((yR ks (yL ks n) e).getD k 0).natAbs:Int)<=(e.natAbs:Int)+24:=by
 have mono: ∀(sh:List Int) (a b:Nat),a<=b->qb sh a<=qb sh b:=by
  intro sh a b f
  induction b with
  | zero=>
   obtain rfl:a=0:=om;exact Int.le_refl _
  | succ b g=>
   by_cases c:a=b+1
   subst c;exact Int.le_refl _;have:=g om;simp only [qb];omega
 have m:=mono (yR ks (yL ks n) e) (k+1) n om;have z:0<=qb (yR ks (yL ks n) e) k:=by have:=mono (yR ks (yL ks n) e) 0 k om;simpa [qb] using this
 have a:=Ag (e:=e) hn h1 h2 h;simp only [qb] at m;omega
structure Dif where
 dots:List Int
 pend:List Int
 errs:List Int
 lost:Int
def ZK (v:Int):Int:=if 128<=v then 1 else 0
def yN (v:Int):Int:=v - 255*ZK v
def xJ (alt:Bool) (ks:List Prt) (W H:Int) (i:Nat) (e:Int) (st:List Int × Int) (k:Nat):List Int × Int:=
 kT (fun q=>wG alt W H i (prt ks q)) (yR ks (yL ks ks.length) e) st k
def Gv (alt:Bool) (ks:List Prt) (W H:Int) (d:Dif) (i:Nat):Dif:=
 ⟨d.dots.set (zU alt W i) (ZK (d.pend.getD (zU alt W i) 0)),
  (xJ alt ks W H i (yN (d.pend.getD (zU alt W i) 0)) (d.pend.set (zU alt W i) 0,d.lost) ks.length).1,
  d.errs.set (zU alt W i) (yN (d.pend.getD (zU alt W i) 0)),
  (xJ alt ks W H i (yN (d.pend.getD (zU alt W i) 0)) (d.pend.set (zU alt W i) 0,d.lost) ks.length).2⟩
def yM (alt:Bool) (ks:List Prt) (W H:Int) (ink:List Int):Nat->Dif
 | 0=>⟨List.replicate ink.length 0,ink,List.replicate ink.length 0,0⟩
 | i+1=>Gv alt ks W H (yM alt ks W H ink i) i
def jd (ks:List Prt) (W H:Int) (xs:List Int) (alt:Bool):Pic × Int × Bool:=
 if kP ks=true/\zT W H xs 255=true then (⟨W,H,(yM alt ks W H xs xs.length).dots⟩,(yM alt ks W H xs xs.length).lost,true) else (xF,0,false)
theorem VH {ks:List Prt} (h: ¬(kP ks=true/\zT W H xs 255=true)):jd ks W H xs alt=(xF,0,false):=by unfold jd;rw [if_neg h]
theorem Ak {ks:List Prt} (hn:xs.length=n) (h1:kP ks=true) (h2:zT W H xs 255=true):jd ks W H xs alt=(⟨W,H,(yM alt ks W H xs n).dots⟩,(yM alt ks W H xs n).lost,true):=by unfold jd;rw [if_pos ⟨h1,h2⟩,hn]
theorem Al (v:Int):((yN v).natAbs:Int)<=(v.natAbs:Int):=by unfold yN ZK;split <;>omega
theorem rW (v:Int):0<=ZK v/\ZK v<=1:=by unfold ZK;split <;>omega
theorem zAW (m j:Nat):(List.replicate m (0:Int)).getD j 0=0:=by
 by_cases h:j<m
 simp [List.getD,List.getElem?_replicate,h];simp [List.getD,List.getElem?_replicate,h]
section
variable {alt : Bool} {ks : List Prt} {W H : Int} {ink : List Int} {n : Nat}
theorem UK {st:List Int × Int}:(xJ alt ks W H i e st k).1.length=st.1.length:=JL _ _ _ _
theorem VA (t:Nat):(yM alt ks W H ink t).dots.length=ink.length/\(yM alt ks W H ink t).pend.length=ink.length/\(yM alt ks W H ink t).errs.length=ink.length:=by
 induction t with
 | zero=>simp [yM]
 | succ t f=>
  obtain ⟨a,b,c⟩:=f;simp only [yM,Gv,UK,List.length_set];exact ⟨a,b,c⟩
structure jr (alt:Bool) (ks:List Prt) (W H:Int) (ink:List Int) (n:Nat):Prop where
 W1:1<=W
 hn:(n:Int)=W*H
 hl:ink.length=n
 hw:xM ink 255=true
 nb:n<=1024
 hk:jL ks ks.length=true
 k1:1<=ks.length
 k2:ks.length<=12
theorem jr.of (hn:ink.length=n) (h1:kP ks=true) (h2:zT W H ink 255=true):jr alt ks W H ink n:=by
 obtain ⟨a,b,c⟩:=yu hn h2;obtain ⟨d,e,f⟩:=XZ rfl h1;have s:=yP a;exact ⟨s.1,b,hn,c,om,f,d,e⟩
theorem jr.tgt (h:jr alt ks W H ink n) (hi:i<n) (c:q<ks.length) (f:wG alt W H i (prt ks q)=some j): ∃k,i<k/\k<n/\j=zU alt W k:=
 oo h.W1 h.hn hi (qz h.hk c).1 f
theorem jr.pos (h:jr alt ks W H ink n) (hi:i<n):zU alt W i<n:=(XR h.W1 h.hn hi).1
theorem jr.ne (h:jr alt ks W H ink n) (hi:i<n) (hk:k<n) (c:i≠k):zU alt W i≠zU alt W k:=fun e=>c (mh h.W1 h.hn hi hk e)
theorem getD_set_ne (ys:List Int) (v:Int) (h:a≠b):(ys.set a v).getD b 0=ys.getD b 0:=by
 simp [List.getD,List.getElem?_set,h]
theorem DC (h:jr alt ks W H ink n) (t:Nat) (U:t<=n):
 VF (yM alt ks W H ink t).pend+((yM alt ks W H ink t).lost.natAbs:Int)<=255*(n:Int)+24*t/\
 (∀i,t<=i->i<n->(yM alt ks W H ink t).dots.getD (zU alt W i) 0=0/\(yM alt ks W H ink t).errs.getD (zU alt W i) 0=0)/\
 (∀i,i<t->(yM alt ks W H ink t).pend.getD (zU alt W i) 0=0)/\
 (∀j,(((yM alt ks W H ink t).errs.getD j 0).natAbs:Int)<=255*(n:Int)+24*t)/\
 xE (yM alt ks W H ink t).pend+(yM alt ks W H ink t).lost+255*xE (yM alt ks W H ink t).dots=xE ink/\xM (yM alt ks W H ink t).dots 1=true:=by
 induction t with
 | zero=>
  have a:=SC h.hw;rw [h.hl] at a;refine ⟨by simp only [yM];simpa using a,fun i _ hi=>?_,fun i hi=>om,fun j=>?_,?_,?_⟩;exact ⟨zAW _ _,zAW _ _⟩;simp only [yM];rw [zAW];simp;omega
  have z: ∀m:Nat,xE (List.replicate m (0:Int))=0:=fun m=>by induction m with
   | zero=>rfl
   | succ m C=>simp [List.replicate_succ,xE,C]
  simp only [yM,z];omega;simp only [yM,xM,Yp];intro x l;have:=List.eq_of_mem_replicate l;subst this;decide
 | succ t C=>
  obtain ⟨b1,b2,b3,F,L,u⟩:=C om;obtain ⟨G,D,I⟩:=VA (alt:=alt) (ks:=ks) (W:=W) (H:=H) (ink:=ink) t;obtain ⟨d,hd⟩: ∃d,yM alt ks W H ink t=d:=⟨_,rfl⟩
  have hr:yM alt ks W H ink (t+1)=Gv alt ks W H d t:=by rw [yM,hd]
  rw [hd] at b1 b2 b3 F L u G D I;rw [hr];clear hr hd;have y:=h.pos (show t<n by omega);have f:zU alt W t<d.pend.length:=by rw [D,h.hl];exact y
  obtain ⟨v,hv⟩: ∃v,d.pend.getD (zU alt W t) 0=v:=⟨_,rfl⟩
  have R:=Al v
  have E: ∀q j,q<ks.length->wG alt W H t (prt ks q)=some j->j<(d.pend.set (zU alt W t) 0,d.lost).1.length:=fun q j B g=>by
   obtain ⟨k,k1,k2,rfl⟩:=h.tgt (show t<n by omega) B g;have:=h.pos k2;simp only [List.length_set];rw [D,h.hl];exact this
  have S:=iI (sh:=yR ks (yL ks ks.length) (yN v)) E;have A:=MN (sh:=yR ks (yL ks ks.length) (yN v)) E;have O:=Ag (e:=yN v) rfl h.k1 h.k2 h.hk;rw [zAi rfl h.k1] at S;simp only at S A;rw [QW _ _ _ f,hv] at S;rw [EO _ _ _ f,hv] at A
  have J: ∀i,i<=t->(kT (fun q=>wG alt W H t (prt ks q)) (yR ks (yL ks ks.length) (yN v)) (d.pend.set (zU alt W t) 0,d.lost) ks.length).1.getD (zU alt W i) 0=0:=fun i hi=>by
   rw [GQ (fun q B g=>by obtain ⟨k,k1,k2,k3⟩:=h.tgt (show t<n by omega) B g;exact h.ne (show i<n by omega) k2 om k3)];by_cases e:i=t
   subst e;simp only;rw [vS _ _ _ _ f,if_pos rfl];simp only;rw [getD_set_ne _ _ (h.ne om om om)];exact b3 i om
  simp only [Gv,hv,xJ];refine ⟨?_,fun i hi c=>?_,fun i hi=>J i om,fun j=>?_,?_,?_⟩;simp at A;omega;rw [getD_set_ne _ _ (h.ne om c om),getD_set_ne _ _ (h.ne om c om)];exact b2 i om c;by_cases e:zU alt W t=j
  subst e;rw [vS _ _ _ _ (by rw [I,h.hl];exact y),if_pos rfl];have:=Cm d.pend (zU alt W t);rw [hv] at this;omega;rw [getD_set_ne _ _ e];have:=F j;omega;rw [QW _ _ _ (by rw [G,h.hl];exact y),(b2 t nI om).1];unfold yN at S⊢;omega;have N:=rW v;unfold xM at u⊢;rw [Yp] at u⊢;intro x l;rcases List.mem_or_eq_of_mem_set l with l | rfl
  exact u x l;simpa using N
theorem LM (h:jr alt ks W H ink n) (t:Nat) (g:t<=n) (j:Nat):-300000<=(yM alt ks W H ink t).pend.getD j 0/\(yM alt ks W H ink t).pend.getD j 0<=300000/\-300000<=(yM alt ks W H ink t).errs.getD j 0/\(yM alt ks W H ink t).errs.getD j 0<=300000/\-300000<=(yM alt ks W H ink t).lost/\(yM alt ks W H ink t).lost<=300000:=by
 obtain ⟨b1,_,_,f,_⟩:=DC h t g;have a:=Cm (yM alt ks W H ink t).pend j;have c:=f j;have z:=Cm (yM alt ks W H ink t).pend n;have:=h.nb;omega
theorem Wj (h : jr alt ks W H ink n) (t : Nat) (u : t < n) (k : Nat) (hk : k ≤ ks.length) (j : Nat) :
    -300000 ≤ (xJ alt ks W H t (yN ((yM alt ks W H ink t).pend.getD (zU alt W t) 0)) ((yM alt ks W H ink t).pend.set (zU alt W t) 0, (yM alt ks W H ink t).lost) k).1.getD j 0 ∧
     (xJ alt ks W H t (yN ((yM alt ks W H ink t).pend.getD (zU alt W t) 0)) ((yM alt ks W H ink t).pend.set (zU alt W t) 0, (yM alt ks W H ink t).lost) k).1.getD j 0 ≤ 300000 ∧
    -300000 ≤ (xJ alt ks W H t (yN ((yM alt ks W H ink t).pend.getD (zU alt W t) 0)) ((yM alt ks W H ink t).pend.set (zU alt W t) 0, (yM alt ks W H ink t).lost) k).2 ∧
     (xJ alt ks W H t (yN ((yM alt ks W H ink t).pend.getD (zU alt W t) 0)) ((yM alt ks W H ink t).pend.set (zU alt W t) 0, (yM alt ks W H ink t).lost) k).2 ≤ 300000 := by
  obtain ⟨b1, _⟩ := DC h t om
  obtain ⟨G, l, I⟩ := VA (alt := alt) (ks := ks) (W := W) (H := H) (ink := ink) t
  obtain ⟨d, hd⟩ : ∃ d, yM alt ks W H ink t = d := ⟨_, rfl⟩
  rw [hd] at b1 l ⊢
  have f : zU alt W t < d.pend.length := by rw [l, h.hl]; exact h.pos u
  obtain ⟨v, hv⟩ : ∃ v, d.pend.getD (zU alt W t) 0 = v := ⟨_, rfl⟩
  rw [hv]
  have E := Al v
  have A := MN (k := k) (T := fun q => wG alt W H t (prt ks q)) (sh := yR ks (yL ks ks.length) (yN v)) (st := (d.pend.set (zU alt W t) 0, d.lost)) (fun q j F g => by
      obtain ⟨m, J, B, rfl⟩ := h.tgt u (show q < ks.length by omega) g
      have := h.pos B
      simp only [List.length_set]
      rw [l, h.hl]; exact this)
  have C := Ag (e := yN v) rfl h.k1 h.k2 h.hk
  have mono : ∀ (sh : List Int) (a b : Nat), a ≤ b → qb sh a ≤ qb sh b := by
    intro sh a b y
    induction b with
    | zero =>
      obtain rfl : a = 0 := om
      exact Int.le_refl _
    | succ b z =>
      by_cases c : a = b + 1
      · subst c; exact Int.le_refl _
      · have := z om; simp only [qb]; omega
  have D := mono (yR ks (yL ks ks.length) (yN v)) k ks.length hk
  simp only at A
  rw [EO _ _ _ f, hv] at A
  have a := Cm (kT (fun q => wG alt W H t (prt ks q)) (yR ks (yL ks ks.length) (yN v)) (d.pend.set (zU alt W t) 0, d.lost) k).1 j
  have := h.nb
  unfold xJ
  simp at A
  omega
end
end
end Go.Proofs.YtlenfgdjdianiaaGreatDoor
