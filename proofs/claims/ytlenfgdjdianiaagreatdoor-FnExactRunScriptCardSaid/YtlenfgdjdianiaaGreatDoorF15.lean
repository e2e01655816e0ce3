/- Facts on which this claim rests, 15. -/
import Derived.Test.YtlenfgdjdianiaaGreatDoorF14
set_option linter.all false
set_option maxHeartbeats 6400000
namespace Go.Proofs.YtlenfgdjdianiaaGreatDoor
section
open Go.RowKit Tq Go.Proofs.Tryz
variable {M : Array Value} {P : Program} {Q : Exit → Act → World → Prop} {T X Y : Int} {a : Act} {j k n sz : Nat} {o : Oper} {ops : Array Oper} {w : World} {xs : List Int}
theorem Uk (h: ¬(-4<=X/\X<=4/\0<=Y/\Y<=4/\(Y=0->1<=X)/\1<=T/\T<=100)):jp ⟨X,Y,T⟩=false:=decide_eq_false h
theorem JS (h:-4<=X/\X<=4/\0<=Y/\Y<=4/\(Y=0->1<=X)/\1<=T/\T<=100):jp ⟨X,Y,T⟩=true:=decide_eq_true h
theorem QF (X Y T:Int) (w:World):
 Calls prog 238 #[.agg #[X,Y,T]] w (zR (.bool (jp ⟨X,Y,T⟩)) w):=by
 by_cases c:Y=0
 . subst c
   go_in;go_wp2_with fail
   all_goals (go_ret;exact ⟨zX (by first | (symm;exact Uk om) | (symm;rw [JS om];simp;done) | (by_cases h:T<=100 <;>first | (rw [JS om];simp [*];done) | (rw [Uk om];simp [*];done))),nJ⟩)
 have f:(Y==0)=false:=by simpa using c
 go_in;go_wp2_with fail
 all_goals (go_ret;exact ⟨zX (by first | (symm;exact Uk om) | (symm;rw [JS om];simp;done) | (by_cases h:T<=100 <;>first | (rw [JS om];simp [*];done) | (rw [Uk om];simp [*];done))),nJ⟩)
theorem wG (X Y T:Int) (w:World):
 Calls prog 240 #[.agg #[X,Y,T]] w (zR (.agg #[X,Y]) w):=by
 go_in;go_wp2_with fail;exact bodyPost_ret (v:= .agg #[X,Y]) (Jr results240) rfl ⟨rfl,(by first | exact Joins.below_alloc2 w _ _ | exact (bR.alloc nI _).alloc sI _)⟩
theorem zIx {ks:List Prt} {q:Prt} (hk:k<=ks.length) (f:j<k) (c:prt ks j=q) (h1:q.dx=X) (h2:q.dy=Y):ko (ks.take k) X Y=true:=
 zDT (k:=j+1) (by rw [Xn ks j X Y om,c,decide_eq_true ⟨h1,h2⟩];simp) om
theorem zDq (ad:Option Addr) (k n R:Nat) (ks:List Prt) (X Y:Int) (w:World) (hn:ks.length=n) (ha:Rd w ad (flat ks)) (hl:n<=1048576) (hk:k<=n):
 Calls prog 239 #[.slice ad k R, .agg #[X,Y]] w (zR (.bool (ko (ks.take k) X Y)) w):=by
 have J:=Jh hn;have HA:=Jh (ha.alloc (.cells #[X,Y] 176));clear hn ha;go_in;go_wp2_with fail;have L:=Jh (Blk.new w 176 #[X,Y]);have G:=Jh (Joins.below_alloc1 w (.cells #[X,Y] 176));have O:w.heap.size<(w.alloc (.cells #[X,Y] 176)).heap.size:=sI;obtain ⟨wo,F⟩:=zN (w.alloc (.cells #[X,Y] 176):World);rw [<-F] at L HA G O⊢;clear F
 go_loopw [9] (fun i wz=> ∃j:Nat,j<=k/\i=↑j/\Hd (ko (ks.take j) X Y=false)/\Below wo wo wz) (fun i _=>k - (intOf i).toNat)
 case atStart=>exact ⟨0,nZ,rfl,Jh (zBQ X Y),bR⟩
 obtain ⟨j,hj,rfl,N,C⟩:=hrel;have HZ:=Jh C;have E:=Jh (zI G.Z C);by_cases b0:j<k
 . obtain ⟨ba,oa,b1,b2,c0,c1,c2⟩:=uC (HA.Z.below C) (k:=j) (oh J)
   subst b1;obtain ⟨q,hq⟩: ∃q,prt ks j=q:=⟨_,rfl⟩
   rw [hq] at c0 c1 c2;obtain ⟨f,g,l⟩:=q;have HQ:=Jh hq;have z:=((L.Z.zA C).alloc (.cells #[f,g,l] 124)).cell 0;have k1:=((L.Z.zA C).alloc (.cells #[f,g,l] 124)).cell 1;have kl:=(L.Z.zA C).lt;have y:=(Blk.new wr 124 #[f,g,l]).cell 0;have B:=(Blk.new wr 124 #[f,g,l]).cell 1;have A:=(Blk.new wr 124 #[f,g,l]).cell 2;have m:w.heap.size<(wr.alloc (.cells #[f,g,l] 124)).heap.size:=sO;have c:wr.heap.size<(wr.alloc (.cells #[f,g,l] 124)).heap.size:=sI;clear hq C;dsimp only at c0 c1 c2;simp only [Yi,List.getElem?_cons_zero,List.getElem?_cons_succ] at z k1 y B A;by_cases I:f=X/\g=Y
   case pos=>
    obtain ⟨rfl,rfl⟩:=I;go_wp2_with fail
    go_region_held3 (fun v=>Jc v w f/\Jc v (w,1) g/\JA v wr f g l)
     (first | exact ⟨z,k1,y,B,A⟩ | exact ⟨(hb.cell m).trans z,(hb.cell m).trans k1,(hb.cell c).trans y,(hb.cell c).trans B,(hb.cell c).trans A⟩)
     (first
      | (go_at_call 240;((with_reducible refine (wG _ _ _ _).mono ?_);rintro e v1 ⟨rfl,hb⟩)))
    have u:=Jh (zI ((zJ E.Z (.cells #[f,g,l] 124)).drew) hb);clear hb z k1 y B A c0 c1 c2;go_wp2_with fail;go_ret;exact ⟨zX (zIx (oh J) b0 HQ.Z rfl rfl).symm,u.Z⟩
   by_cases D:f=X
   case pos=>
    have U: ¬g=Y:=fun h=>I ⟨D,h⟩;have e3:(g==Y)=false:=by simpa using U
    have V:=Jh U;clear I U;subst D;go_wp2_with fail
    go_region_held3 (fun v=>Jc v w f/\Jc v (w,1) Y/\JA v wr f g l)
     (first | exact ⟨z,k1,y,B,A⟩ | exact ⟨(hb.cell m).trans z,(hb.cell m).trans k1,(hb.cell c).trans y,(hb.cell c).trans B,(hb.cell c).trans A⟩)
     (first
      | (go_at_call 240;((with_reducible refine (wG _ _ _ _).mono ?_);rintro e v1 ⟨rfl,hb⟩)))
    have u:=Jh (zI ((zJ HZ.Z (.cells #[f,g,l] 124)).drew) hb);clear hb z k1 y B A c0 c1 c2;go_wp2_with fail;go_roundw
    case rel=>exact ⟨j+1,om,by go_num,Jh (XT (oh J) N.Z HQ.Z (fun h=>V.Z h.2)),u.Z⟩
    exact Jm
   have e3:(f==X)=false:=by simpa using D
   have V:=Jh D;clear I D;go_wp2_with fail
   go_region_held3 (fun v=>Jc v w X/\Jc v (w,1) Y/\JA v wr f g l)
    (first | exact ⟨z,k1,y,B,A⟩ | exact ⟨(hb.cell m).trans z,(hb.cell m).trans k1,(hb.cell c).trans y,(hb.cell c).trans B,(hb.cell c).trans A⟩)
    (first
     | (go_at_call 240;((with_reducible refine (wG _ _ _ _).mono ?_);rintro e v1 ⟨rfl,hb⟩)))
   have u:=Jh (zI ((zJ HZ.Z (.cells #[f,g,l] 124)).drew) hb);clear hb z k1 y B A c0 c1 c2;go_wp2_with fail;go_roundw
   case rel=>exact ⟨j+1,om,by go_num,Jh (XT (oh J) N.Z HQ.Z (fun h=>V.Z h.1)),u.Z⟩
   exact Jm
 obtain rfl:k=j:=om;go_wp2_with fail;go_ret;exact ⟨zX N.Z.symm,E.Z⟩
theorem Zm (V:Option Addr) (n g:Nat) (ks:List Prt) (w:World) (hn:ks.length=n) (ha:Rd w V (flat ks)) (hl:n<=1048576) (b0:n<=g):
 Calls prog 200 #[.slice V n g] w (zR (.bool (xF ks)) w):=by
 have y:=Jh hn;have HA:=Jh ha;clear hn ha;by_cases U:n<1
 . rw [JM y.Z om]
   go_in;go_wp2_with fail;go_ret;exact ⟨rfl,bR⟩
 by_cases F:12<n
 . rw [JM y.Z om]
   have h0:decide ((n:Int)<1)=false:=sO;have h1:decide (12<(n:Int))=true:=sO;go_in;go_wp2_with fail;go_ret;exact ⟨rfl,bR⟩
 have L:1<=n:=om;have J:n<=12:=om;clear U F;go_in;go_wp2_with fail
 go_loopw [15] (fun i wr=> ∃k:Nat,k<=n/\i=↑k/\Hd (xg ks k=true)/\Below w w wr) (fun i _=>n - (intOf i).toNat)
 case atStart=>exact ⟨0,nZ,rfl,Jh rfl,bR⟩
 obtain ⟨k,hk,rfl,HT,hw⟩:=hrel;have E:=Jh hw;by_cases D:k<n
 . obtain ⟨ba,oa,N,b5,c0,c1,c2⟩:=uC (HA.Z.below hw) (k:=k) (oh y)
   subst N;obtain ⟨p,hp⟩: ∃p,prt ks k=p:=⟨_,rfl⟩
   rw [hp] at c0 c1 c2;obtain ⟨X,Y,T⟩:=p;have I:=Jh hp;have R:=Jh (HA.Z.below hw);clear hp hw;dsimp only at c0 c1 c2;have B:=(Blk.new wr 124 #[X,Y,T]).cell 0;have A:=(Blk.new wr 124 #[X,Y,T]).cell 1;have z:=(Blk.new wr 124 #[X,Y,T]).cell 2;simp only [Yi,List.getElem?_cons_zero,List.getElem?_cons_succ] at B A z;have kc:k<=g:=om;have b1:(k:Int)<=(g:Int):=om;have k0:(0:Int)<=(k:Int):=om;by_cases hp:jp ⟨X,Y,T⟩=true
   case neg=>
    have C:jp ⟨X,Y,T⟩=false:=by simpa using hp
    have b3:=Jh hp;clear hp;go_wp2_with fail
    first | (go_region_with (first | (go_at_call 238;((with_reducible refine (QF _ _ _ _).mono ?_);rintro e v1 ⟨rfl,hb⟩;rw [C])))) | fail
    all_goals
     have m:=Jh (zI ((zJ E.Z (.cells #[X,Y,T] 124)).drew) hb);clear hb;go_simp;go_wp2_with fail;go_ret;exact ⟨zX (YB y.Z D (by rw [I.Z,C];rfl)).symm,m.Z⟩
   have c:wr.heap.size<(wr.alloc (.cells #[X,Y,T] 124)).heap.size:=sI;have O:k<=n:=om;obtain ⟨G,u⟩: ∃G,ko (ks.take k) X Y=G:=⟨_,rfl⟩
   cases G
   all_goals
    go_wp2_with fail
    go_region_held3 (fun v=>JA v wr X Y T)
     (first | exact ⟨B,A,z⟩ | exact ⟨(hb.cell c).trans B,(hb.cell c).trans A,(hb.cell c).trans z⟩ | exact ⟨(f.cell (Yb c hb.size)).trans ((hb.cell c).trans B),(f.cell (Yb c hb.size)).trans ((hb.cell c).trans A),(f.cell (Yb c hb.size)).trans ((hb.cell c).trans z)⟩ | exact ⟨(l.cell (Yb c (Yx hb.size f.size))).trans ((f.cell (Yb c hb.size)).trans ((hb.cell c).trans B)),(l.cell (Yb c (Yx hb.size f.size))).trans ((f.cell (Yb c hb.size)).trans ((hb.cell c).trans A)),(l.cell (Yb c (Yx hb.size f.size))).trans ((f.cell (Yb c hb.size)).trans ((hb.cell c).trans z))⟩)
     (first
      | (go_at_call 238;((with_reducible refine (QF _ _ _ _).mono ?_);rintro e v1 ⟨rfl,hb⟩;rw [hp]))
      | (go_at_call 240;((with_reducible refine (wG _ _ _ _).mono ?_);rintro e v2 ⟨rfl,f⟩))
      | (go_at_call 239;((with_reducible refine (zDq _ k n g ks _ _ _ y.Z (by exact (((R.Z.alloc _).drew.below hb).below f).of_heap rfl) hl O).mono ?_);rintro e v3 ⟨rfl,l⟩;rw [u])))
    have m:=Jh (zI (zI (zI ((zJ E.Z (.cells #[X,Y,T] 124)).drew) hb) f) l);have b4:=Jh (show xg ks k=true->jp ⟨X,Y,T⟩=true->True from fun _ _=>trivial);clear hb f l B A z c0 c1 c2;go_wp2_with fail
   . have b2:=u
     go_roundw
     case rel=>exact ⟨k+1,om,by go_num,Jh (by rw [ZL,HT.Z,I.Z,hp,u];rfl),m.Z⟩
     exact Jm
   go_ret;exact ⟨zX (YB y.Z D (by rw [I.Z,hp,u];rfl)).symm,m.Z⟩
 obtain rfl:n=k:=om;go_wp2_with fail;go_ret;exact ⟨zX (zAx y.Z L J HT.Z).symm,E.Z⟩
theorem zDo (E:Option Addr) (n g:Nat) (ks:List Prt) (w:World) (hn:ks.length=n) (ha:Rd w E (flat ks)) (hl:n<=1048576) (c:n<=g):
 Calls prog 294 #[.slice E n g] w fun e w'=>e= .returned ↑(YJ ks)/\Below w w w':=by
 have l:=Jh hn;have u:=Jh ha;clear hn ha;by_cases hp:xF ks=true
 case neg=>
  rw [zBh hp];have B:xF ks=false:=by simpa using hp
  clear hp;go_in;go_wp2_with fail;refine (Zm _ _ _ ks _ l.Z (by exact u.Z) hl c).mono ?_;rintro e w1 ⟨rfl,hb⟩;rw [B];have z:=Jh hb;clear hb;go_wp2_with fail;go_ret;exact ⟨rfl,z.Z⟩
 rw [ZU l.Z hp];obtain ⟨k1,k2,k3⟩:=qv l.Z hp;have F:=Jh k3;clear k3;go_in;go_wp2_with fail;refine (Zm _ _ _ ks _ l.Z (by exact u.Z) hl c).mono ?_;rintro e w1 ⟨rfl,hb⟩;rw [hp];have z:=Jh hb;have v:=Jh (u.Z.below hb);clear hb u;go_wp2_with fail
 go_loopw [3,11] (fun s i wr=> ∃k:Nat,k<=n/\i=↑k/\s=↑(yB ks k)/\Below w1 w1 wr) (fun _ i _=>n - (intOf i).toNat)
 case atStart=>exact ⟨0,nZ,rfl,rfl,bR⟩
 obtain ⟨k,hk,rfl,rfl,f⟩:=hrel;obtain ⟨R,N⟩:=wA F.Z k hk;have D:=Jh f;by_cases C:k<n
 . obtain ⟨L,O,y,I,c0,c1,c2⟩:=uC (v.Z.below f) (k:=k) (oh l)
   subst y;obtain ⟨p,hp⟩: ∃p,prt ks k=p:=⟨_,rfl⟩
   have A:=vc (vZ F.Z C).1;have m:yB ks (k+1)=yB ks k+(prt ks k).wt:=rfl;rw [hp] at c0 c1 c2 A m;obtain ⟨X,Y,T⟩:=p;dsimp only at c0 c1 c2 A m;obtain ⟨_,_,_,_,_,J,t2⟩:=A;have G:=Jh m;clear hp f m;go_wp2_with fail;go_roundw
   case rel=>exact ⟨k+1,om,by go_num,by rw [G.Z],zJ D.Z _⟩
   exact Jm
 obtain rfl:n=k:=om;go_wp2_with fail;go_ret;exact ⟨rfl,zI z.Z D.Z⟩
def yk:List Prt:=[⟨1,0,7⟩,⟨-1,1,3⟩,⟨0,1,5⟩,⟨1,1,1⟩]
def yj:List Prt:=[⟨1,0,1⟩]
theorem JZ {T:Nat} (h1:xs.length=n*sz) (h2:M.toList=xs.map (Value.int .i64)) (hn:n<=maxLen):RowT (w.alloc (.cells M T)) T sz w n n xs:=
 ⟨h1,M,heap_alloc_new w _,nI,hn,by have:=congrArg List.length h2;simpa [h1] using this,by rw [h2,Yk (by simp [h1])]⟩
theorem XD (w:World):Calls prog 54 #[] w fun e w'=> ∃g,e= .returned (.slice (some ⟨g,0,none⟩) 4 4)/\w.heap.size<=g/\RowT w' 124 3 g 4 4 (flat yk)/\Below w w w':=by
 go_in;go_wp2_with fail;go_ret;exact ⟨_,rfl,nI,JZ rfl rfl dC,nJ⟩
theorem YT (w:World):Calls prog 119 #[] w fun e w'=> ∃g,e= .returned (.slice (some ⟨g,0,none⟩) 4 4)/\w.heap.size<=g/\RowT w' 124 3 g 4 4 (flat yk)/\Below w w w':=by
 go_in;go_wp2_with fail;go_ret;exact ⟨_,rfl,nI,JZ rfl rfl dC,nJ⟩
theorem uX (w:World):Calls prog 53 #[] w fun e w'=> ∃g,e= .returned (.slice (some ⟨g,0,none⟩) 1 1)/\w.heap.size<=g/\RowT w' 124 3 g 1 1 (flat yj)/\Below w w w':=by
 go_in;go_wp2_with fail;go_ret;exact ⟨_,rfl,nI,JZ rfl rfl dC,nJ⟩
theorem YR (w:World):Calls prog 120 #[] w fun e w'=> ∃g,e= .returned (.slice (some ⟨g,0,none⟩) 1 1)/\w.heap.size<=g/\RowT w' 124 3 g 1 1 (flat yj)/\Below w w w':=by
 go_in;go_wp2_with fail;go_ret;exact ⟨_,rfl,nI,JZ rfl rfl dC,nJ⟩
theorem zDm (w:World) {rest:List Oper}
 (D:o.guard=none) (t e sz f:Nat) (z:Value) (V:P.underlying t=some (.slice e)) (J:(P.info? e).map (fun i=>(i.zero,i.size,i.bytes))=some (some z,sz,f)) (hz:z.cells.size=sz) (b0:1<=sz) (G:f<=4096)
 (s x:Operand) (F:o.op= .call {callee:= .builtin .append,args:=#[s,x],argTypes:=#[t,t]})
 (B y:Nat) (C:Option Addr) (hs:a.eval s= .slice C 0 y) (R:RowA w e sz B C 0 y []) (b off m c:Nat) (v:List Int) (hx:a.eval x= .slice (some ↑(b,off)) m c)
 (hv:v.length=m*sz) (hc: ∀j,j<m*sz->w.cell? ⟨b,off+j,none⟩=some (.int .i64 (v.getD j 0))) (hn:m<=1048576) (O:B<=w.heap.size)
 (hK: ∀l g w',RowA w' e sz B l m g v->w.grownBy w' (zL C)->wpList P ops Q rest (a.put o.dst (.slice l m g)) w'):
 wpList P ops Q (o::rest) a w:=by
 obtain ⟨i,hi,I,E,L⟩:=info_parts J;have m1:m*f<=1048576*4096:=Nat.mul_le_mul om G;refine wpList_append_own w D s x t F B e i z sz f V hi I E L hz om _ 0 (([]:List Int).map (Value.int .i64)) hs R.toRow ↑(b,off) m c (v.map (Value.int .i64)) hx (by simp [hv]) ?_ ?_ (by unfold maxLen;omega) (by rw [Nat.zero_add];omega) O ?_;intro j u A;by_cases N:j<m*sz
 have:=hc j N;rw [List.getElem?_map,Ya om] at A;simp only [Option.map_some,Option.some.injEq] at A;subst A;rw [show (Addr.mk b off none).add j=⟨b,off+j,none⟩ by rw [Addr.add_lit],this];simp [List.getD,Ya (show j<v.length by omega)];rw [Yv sO] at A;cases A;intro u U;obtain ⟨x,_,rfl⟩:=List.mem_map.1 U;rfl;intro v' w' h2 h3 _;rw [Nat.zero_add] at h2;have h4:w'.ownsRow B e sz v' m (v.map (Value.int .i64)):=by simpa using h2
 obtain ⟨l,g,rfl,h5⟩:=RowA.ofRow h4;rw [xj] at h3;exact hK l g w' h5 h3
theorem zBV (w:World) (T sz:Nat):RowT (w.alloc (.cells #[] T)) T sz w 0 0 []:=⟨sI,#[],heap_alloc_new w _,nI,by unfold maxLen;omega,sI,sI⟩
end
section
variable {H W e s x : Int} {a b i j k n q : Nat} {alt : Bool} {sh xs : List Int} {t : Option Nat}
open Tq Go.Proofs.Tryz
def vA (alt:Bool) (y:Int):Int:=if alt=true/\y % 2=1 then -1 else 1
def xAt (alt:Bool) (W:Int) (i:Nat):Int:=if alt=true/\(i:Int)/W % 2=1 then W - 1 - (i:Int) % W else (i:Int) % W
def zQ (alt:Bool) (W:Int) (i:Nat):Nat:=((i:Int)/W*W+xAt alt W i).toNat
theorem zBl (c:1<=W):0<=xAt alt W i/\xAt alt W i<W:=by
 have h1:=Yg (i:Int) (show W≠0 by omega);have h2:=Ye (i:Int) (show 0<W by omega);unfold xAt;split <;>omega
theorem qp (c:1<=W) (hn:(n:Int)=W*H) (hi:i<n):
 zQ alt W i<n/\((zQ alt W i:Nat):Int)=(i:Int)/W*W+xAt alt W i/\0<=(i:Int)/W/\(i:Int)/W<H/\((zQ alt W i:Nat):Int)/W=(i:Int)/W/\((zQ alt W i:Nat):Int) % W=xAt alt W i:=by
 obtain ⟨x,y,h1,h2,h3,h4,m,g,f⟩:=Ji (i:=(i:Int)) (W:=W) (H:=H) c om om;obtain ⟨b1,b2⟩:=zBl (alt:=alt) (i:=i) c;obtain ⟨l,u⟩:=ve b1 b2 h3 h4
 have e:((zQ alt W i:Nat):Int)=(i:Int)/W*W+xAt alt W i:=by
  unfold zQ;rw [f];omega
 obtain ⟨d1,d2⟩:=wj (q:=(i:Int)/W) b1 b2;refine ⟨by rw [f] at e;omega,e,om,om,by rw [e];exact d1,by rw [e];exact d2⟩
theorem XU (g:1<=W) (hn:(n:Int)=W*H) (hi:i<n):zQ alt W (zQ alt W i)=i:=by
 obtain ⟨h1,h2,h3,h4,f,l⟩:=qp (alt:=alt) g hn hi
 have e:((zQ alt W (zQ alt W i):Nat):Int)=i:=by
  have:=(qp (alt:=alt) g hn h1).2.1;rw [this,f];have a:=Int.emod_add_mul_ediv (i:Int) W
  have c:xAt alt W (zQ alt W i)=(i:Int) % W:=by
   unfold xAt;rw [f,l];unfold xAt;split <;>omega
  rw [c,Ys];omega
 omega
theorem zLk (c:1<=W) (hn:(n:Int)=W*H) (hi:i<n) (hk:k<n) (h:zQ alt W i=zQ alt W k):i=k:=by
 rw [<-XU (alt:=alt) c hn hi,<-XU (alt:=alt) c hn hk,h]
def tgt (W H x y way:Int) (p:Prt):Option Nat:=if 0<=x+way*p.dx/\x+way*p.dx<W/\0<=y+p.dy/\y+p.dy<H then some ((y+p.dy)*W+(x+way*p.dx)).toNat else none
def vf (alt:Bool) (W H:Int) (i:Nat) (p:Prt):Option Nat:=tgt W H (xAt alt W i) ((i:Int)/W) (vA alt ((i:Int)/W)) p
theorem zMV {p:Prt} (g:1<=W) (hn:(n:Int)=W*H) (hi:i<n) (hp:jp p=true) (h:vf alt W H i p=some j): ∃k,i<k/\k<n/\j=zQ alt W k:=by
 obtain ⟨J,C,p3,V,y,B,R⟩:=vc hp;unfold vf tgt at h;split at h
 case isFalse=>cases h
 case isTrue c=>
 obtain ⟨c1,c2,c3,c4⟩:=c;obtain ⟨q1,I,L,U,N,q6⟩:=qp (alt:=alt) g hn hi;obtain ⟨F,O⟩:=ve c1 c2 c3 c4
 have u:(j:Int)=((i:Int)/W+p.dy)*W+(xAt alt W i+vA alt ((i:Int)/W)*p.dx):=by
  have:=Yd h;omega
 have f:j<n:=om;obtain ⟨d1,d2⟩:=wj (q:=(i:Int)/W+p.dy) c1 c2;rw [<-u] at d1 d2;obtain ⟨k1,k2,k3,k4,E,D⟩:=qp (alt:=alt) g hn f;refine ⟨zQ alt W j,?_,k1,(XU (alt:=alt) g hn f).symm⟩;have a:=Int.emod_add_mul_ediv (i:Int) W;have b1:=Yg (i:Int) (show W≠0 by omega);have b2:=Ye (i:Int) (show 0<W by omega);by_cases l:p.dy=0
 have A:=y l
 have v:xAt alt W j=(i:Int) % W+p.dx:=by
  unfold xAt;rw [d1,d2,l];unfold xAt vA;simp only [Int.add_zero];split <;>omega
 rw [d1,l,v] at k2;simp only [Int.add_zero] at k2;rw [Ys] at k2;omega;obtain ⟨z,G⟩:=zBl (alt:=alt) (W:=W) (i:=j) g;rw [d1] at k2;have m:=Yo (show (i:Int)/W+1<=(i:Int)/W+p.dy by omega) (show 0<=W by omega);rw [Int.add_mul ((i:Int)/W) 1 W,Int.one_mul] at m;rw [Ys] at a;omega
theorem JK (xs:List Int) (j:Nat) (v:Int) (h:j<xs.length):ya (xs.set j v)=ya xs - xs.getD j 0+v:=by
 induction xs generalizing j with
 | nil=>simp at h
 | cons x xs c=>
  cases j with
  | zero=>simp [ya];omega
  | succ j=>
   have:=c j (by simpa using h);simp only [List.set_cons_succ,ya,this];simp;omega
def YL (xs:List Int):Int:=ya (xs.map (fun v=>(v.natAbs:Int)))
theorem Qg (xs:List Int) (j:Nat) (v:Int) (h:j<xs.length):YL (xs.set j v)=YL xs - ((xs.getD j 0).natAbs:Int)+(v.natAbs:Int):=by
 unfold YL;rw [List.map_set,JK _ _ _ (by simpa using h)];simp [List.getD,h]
theorem QI (h: ∀x ∈ xs,0<=x):0<=ya xs:=by
 induction xs with
 | nil=>simp [ya]
 | cons x xs f=>
  have h1:=h x sI;have h2:=f (fun y c=>h y (by simp [c]));simp only [ya];omega
theorem zNU (h: ∀x ∈ xs,0<=x) (hx:x ∈ xs):x<=ya xs:=by
 induction xs with
 | nil=>simp at hx
 | cons y xs f=>
  have h1:=h y sI;have h2:=QI (xs:=xs) (fun y c=>h y (by simp [c]));simp only [ya];rcases List.mem_cons.1 hx with rfl | hx
  omega;have:=f (fun y c=>h y (by simp [c])) hx;omega
theorem Uc (xs:List Int) (j:Nat):((xs.getD j 0).natAbs:Int)<=YL xs:=by
 by_cases h:j<xs.length
 unfold YL;refine zNU (fun x c=>?_) ?_;obtain ⟨y,_,rfl⟩:=List.mem_map.1 c;omega;refine List.mem_map.2 ⟨xs[j],List.getElem_mem h,?_⟩;simp [List.getD,h];have:0<=YL xs:=QI (fun x c=>by obtain ⟨y,_,rfl⟩:=List.mem_map.1 c;omega);rw [List.getD,Yv om];simpa using this
theorem zGP (h:yY xs 255=true):YL xs<=255*xs.length:=by
 have h2: ∀x ∈ xs,0<=x/\x<=255:=fun x f=>by
  have:=List.all_eq_true.1 h x f;simpa using this
 clear h;unfold YL
 induction xs with
 | nil=>simp [ya]
 | cons x xs g=>
  have h1:=h2 x sI;have h3:=g (fun y c=>h2 y (by simp [c]));simp only [List.map_cons,ya,List.length_cons];omega
def ju (st:List Int × Int) (t:Option Nat) (s:Int):List Int × Int:=
 match t with
 | some j=>(st.1.set j (st.1.getD j 0+s),st.2)
 | none=>(st.1,st.2+s)
def xM (T:Nat->Option Nat) (sh:List Int) (st:List Int × Int):Nat->List Int × Int
 | 0=>st
 | k+1=>ju (xM T sh st k) (T k) (sh.getD k 0)
def UE (sh:List Int):Nat->Int
 | 0=>0
 | k+1=>UE sh k+sh.getD k 0
def vN (sh:List Int):Nat->Int
 | 0=>0
 | k+1=>vN sh k+((sh.getD k 0).natAbs:Int)
theorem zNO (st:List Int × Int) (t:Option Nat) (s:Int):(ju st t s).1.length=st.1.length:=by cases t <;>simp [ju]
theorem Zb (T:Nat->Option Nat) (sh:List Int) (st:List Int × Int) (k:Nat):(xM T sh st k).1.length=st.1.length:=by
 induction k with
 | zero=>rfl
 | succ k c=>rw [xM,zNO,c]
theorem zKf {T:Nat->Option Nat} {st:List Int × Int} (h: ∀i j,i<k->T i=some j->j<st.1.length):ya (xM T sh st k).1+(xM T sh st k).2=ya st.1+st.2+UE sh k:=by
 induction k with
 | zero=>simp [xM,UE]
 | succ k c=>
  have h1:=c (fun i j hi=>h i j om);simp only [xM,UE];cases hT:T k with
  | none=>simp only [ju];omega
  | some j=>
   simp only [ju];rw [JK _ _ _ (by rw [Zb];exact h k j om hT)];omega
theorem zCy {T:Nat->Option Nat} {st:List Int × Int} (h: ∀i j,i<k->T i=some j->j<st.1.length):YL (xM T sh st k).1+((xM T sh st k).2.natAbs:Int)<=YL st.1+(st.2.natAbs:Int)+vN sh k:=by
 induction k with
 | zero=>simp [xM,vN]
 | succ k c=>
  have h1:=c (fun i j hi=>h i j om);simp only [xM,vN];cases hT:T k with
  | none=>simp only [ju];omega
  | some j=>
   simp only [ju];rw [Qg _ _ _ (by rw [Zb];exact h k j om hT)];omega
theorem zAl {T:Nat->Option Nat} {st:List Int × Int} (h: ∀i,i<k->T i≠some j):(xM T sh st k).1.getD j 0=st.1.getD j 0:=by
 induction k with
 | zero=>rfl
 | succ k f=>
  have h1:=f (fun i hi=>h i om);have h2:=h k om;simp only [xM];cases hT:T k with
  | none=>simpa [ju] using h1
  | some i=>
   have c:i≠j:=fun e=>h2 (by rw [hT,e]);simp only [ju,List.getD,List.getElem?_set,if_neg c];simpa [List.getD] using h1
theorem zIY {S:Nat->Prop} {a b:List Int × Int} (hl:a.1.length=b.1.length) (h: ∀j,S j->a.1.getD j 0=b.1.getD j 0): ∀j,S j->(ju a t s).1.getD j 0=(ju b t s).1.getD j 0:=by
 intro j c;cases t with
 | none=>exact h j c
 | some i=>
  by_cases e:i=j
  subst e;by_cases hb:i<b.1.length
  simp only [ju];rw [kw _ _ _ _ om,kw _ _ _ _ hb,if_pos rfl,if_pos rfl,h i c];simp only [ju];simp only [List.getD];rw [Yv sO,Yv sO];have:=h j c;simp only [ju,List.getD,List.getElem?_set,if_neg e];simpa [List.getD] using this
theorem zKe (a b:List Int × Int) (t:Option Nat) (s:Int) (h:a.2=b.2):(ju a t s).2=(ju b t s).2:=by cases t <;>simp [ju,h]
theorem zOP {ks:List Prt} (k:Nat) (hk:k<=ks.length):UE (yI ks W e) k=xB ks W e k+(if 1<=k then e - xB ks W e ks.length else 0):=by
 induction k with
 | zero=>simp [UE,xB]
 | succ k f=>
  have h1:=f om;simp only [UE,xB];rw [zBX _ _ _ _ om,h1];by_cases c:k=0
  subst c;simp [xB];rw [if_pos om,if_neg c,if_pos om];omega
theorem zOO {ks:List Prt} (hn:ks.length=n) (h1:1<=n):UE (yI ks W e) n=e:=by
 rw [zOP n om,if_pos h1,hn];omega
theorem zJt {ks:List Prt} (hn:ks.length=n) (h:xg ks n=true) (k:Nat) (hk:k<=n):
 vN (yI ks (yB ks n) e) k<=((xB ks (yB ks n) e k).natAbs:Int)+(if 1<=k then ((e - xB ks (yB ks n) e n).natAbs:Int) else 0)/\(0<=e->0<=xB ks (yB ks n) e k)/\(e<=0->xB ks (yB ks n) e k<=0):=by
 have v:=(wA h n nI).1
 induction k with
 | zero=>simp [vN,xB]
 | succ k u=>
  obtain ⟨a,b,c⟩:=u om;have hp:=vc (vZ h (show k<n by omega)).1;have l:0<=e->0<=xQ ks (yB ks n) e k:=fun he=>Yw (Int.mul_nonneg he om) om
  have m:e<=0->xQ ks (yB ks n) e k<=0:=fun he=>by
   unfold xQ
   exact Int.ediv_le_of_le_mul om (by
    have:=Yo he (show 0<=(prt ks k).wt by omega)
    omega)
  have g:=zBX ks (yB ks n) e k om;rw [hn] at g;refine ⟨?_,fun he=>?_,fun he=>?_⟩;simp only [vN,xB];rw [g,if_pos (show 1<=k+1 by omega)];by_cases f:k=0
  subst f;simp only [vN,xB] at a⊢;simp;omega;rw [if_pos (show 1<=k by omega)] at a;rw [if_neg f];by_cases he:0<=e
  have:=l he;have:=b he;omega;have:=m om;have:=c om;omega;have:=l he;have:=b he;simp only [xB];omega;have:=m he;have:=c he;simp only [xB];omega
theorem VP {ks:List Prt} (hn:ks.length=n) (h1:1<=n) (h2:n<=12) (h:xg ks n=true):vN (yI ks (yB ks n) e) n<=(e.natAbs:Int)+24:=by
 obtain ⟨a,b,c⟩:=zJt (e:=e) hn h n nI;obtain ⟨d1,d2⟩:=zJL (e:=e) h h1;rw [if_pos h1] at a;by_cases he:0<=e
 have:=b he;omega;have:=c om;omega
theorem zAK {ks:List Prt} (hn:ks.length=n) (h1:1<=n) (h2:n<=12) (h:xg ks n=true) (k:Nat) (hk:k<n):(((yI ks (yB ks n) e).getD k 0).natAbs:Int)<=(e.natAbs:Int)+24:=by
 have mono: ∀(sh:List Int) (a b:Nat),a<=b->vN sh a<=vN sh b:=by
  intro sh a b g
  induction b with
  | zero=>
   obtain rfl:a=0:=om;exact Int.le_refl _
  | succ b f=>
   by_cases c:a=b+1
   subst c;exact Int.le_refl _;have:=f om;simp only [vN];omega
 have m:=mono (yI ks (yB ks n) e) (k+1) n om;have z:0<=vN (yI ks (yB ks n) e) k:=by have:=mono (yI ks (yB ks n) e) 0 k om;simpa [vN] using this
 have a:=VP (e:=e) hn h1 h2 h;simp only [vN] at m;omega
structure Dif where
 dots:List Int
 pend:List Int
 errs:List Int
 lost:Int
def uK (v:Int):Int:=if 128<=v then 1 else 0
def yD (v:Int):Int:=v - 255*uK v
def ye (alt:Bool) (ks:List Prt) (W H:Int) (i:Nat) (e:Int) (st:List Int × Int) (k:Nat):List Int × Int:=
 xM (fun q=>vf alt W H i (prt ks q)) (yI ks (yB ks ks.length) e) st k
def zBL (alt:Bool) (ks:List Prt) (W H:Int) (d:Dif) (i:Nat):Dif:=
 ⟨d.dots.set (zQ alt W i) (uK (d.pend.getD (zQ alt W i) 0)),
  (ye alt ks W H i (yD (d.pend.getD (zQ alt W i) 0)) (d.pend.set (zQ alt W i) 0,d.lost) ks.length).1,
  d.errs.set (zQ alt W i) (yD (d.pend.getD (zQ alt W i) 0)),
  (ye alt ks W H i (yD (d.pend.getD (zQ alt W i) 0)) (d.pend.set (zQ alt W i) 0,d.lost) ks.length).2⟩
def yC (alt:Bool) (ks:List Prt) (W H:Int) (ink:List Int):Nat->Dif
 | 0=>⟨List.replicate ink.length 0,ink,List.replicate ink.length 0,0⟩
 | i+1=>zBL alt ks W H (yC alt ks W H ink i) i
def kE (ks:List Prt) (W H:Int) (xs:List Int) (alt:Bool):Pic × Int × Bool:=
 if xF ks=true/\zP W H xs 255=true then (⟨W,H,(yC alt ks W H xs xs.length).dots⟩,(yC alt ks W H xs xs.length).lost,true) else (yb,0,false)
theorem YN {ks:List Prt} (h: ¬(xF ks=true/\zP W H xs 255=true)):kE ks W H xs alt=(yb,0,false):=by unfold kE;rw [if_neg h]
theorem XM {ks:List Prt} (hn:xs.length=n) (h1:xF ks=true) (h2:zP W H xs 255=true):kE ks W H xs alt=(⟨W,H,(yC alt ks W H xs n).dots⟩,(yC alt ks W H xs n).lost,true):=by unfold kE;rw [if_pos ⟨h1,h2⟩,hn]
theorem VW (v:Int):((yD v).natAbs:Int)<=(v.natAbs:Int):=by unfold yD uK;split <;>omega
theorem zNC (v:Int):0<=uK v/\uK v<=1:=by unfold uK;split <;>omega
theorem zOC (m j:Nat):(List.replicate m (0:Int)).getD j 0=0:=by
 by_cases h:j<m
 simp [List.getD,List.getElem?_replicate,h];simp [List.getD,List.getElem?_replicate,h]
section
variable {alt : Bool} {ks : List Prt} {W H : Int} {ink : List Int} {n : Nat}
theorem Xj {st:List Int × Int}:(ye alt ks W H i e st k).1.length=st.1.length:=Zb _ _ _ _
theorem ZE (t:Nat):(yC alt ks W H ink t).dots.length=ink.length/\(yC alt ks W H ink t).pend.length=ink.length/\(yC alt ks W H ink t).errs.length=ink.length:=by
 induction t with
 | zero=>simp [yC]
 | succ t f=>
  obtain ⟨a,b,c⟩:=f;simp only [yC,zBL,Xj,List.length_set];exact ⟨a,b,c⟩
structure xz (alt:Bool) (ks:List Prt) (W H:Int) (ink:List Int) (n:Nat):Prop where
 W1:1<=W
 hn:(n:Int)=W*H
 hl:ink.length=n
 hw:yY ink 255=true
 nb:n<=1024
 hk:xg ks ks.length=true
 k1:1<=ks.length
 k2:ks.length<=12
theorem xz.of (hn:ink.length=n) (h1:xF ks=true) (h2:zP W H ink 255=true):xz alt ks W H ink n:=by
 obtain ⟨a,b,c⟩:=yH hn h2;obtain ⟨d,e,f⟩:=qv rfl h1;have s:=yF a;exact ⟨s.1,b,hn,c,om,f,d,e⟩
theorem xz.tgt (h:xz alt ks W H ink n) (hi:i<n) (c:q<ks.length) (f:vf alt W H i (prt ks q)=some j): ∃k,i<k/\k<n/\j=zQ alt W k:=
 zMV h.W1 h.hn hi (vZ h.hk c).1 f
theorem xz.pos (h:xz alt ks W H ink n) (hi:i<n):zQ alt W i<n:=(qp h.W1 h.hn hi).1
theorem xz.ne (h:xz alt ks W H ink n) (hi:i<n) (hk:k<n) (c:i≠k):zQ alt W i≠zQ alt W k:=fun e=>c (zLk h.W1 h.hn hi hk e)
theorem getD_set_ne (c:List Int) (v:Int) (h:a≠b):(c.set a v).getD b 0=c.getD b 0:=by
 simp [List.getD,List.getElem?_set,h]
theorem Kg (h:xz alt ks W H ink n) (t:Nat) (O:t<=n):
 YL (yC alt ks W H ink t).pend+((yC alt ks W H ink t).lost.natAbs:Int)<=255*(n:Int)+24*t/\
 (∀i,t<=i->i<n->(yC alt ks W H ink t).dots.getD (zQ alt W i) 0=0/\(yC alt ks W H ink t).errs.getD (zQ alt W i) 0=0)/\
 (∀i,i<t->(yC alt ks W H ink t).pend.getD (zQ alt W i) 0=0)/\
 (∀j,(((yC alt ks W H ink t).errs.getD j 0).natAbs:Int)<=255*(n:Int)+24*t)/\
 ya (yC alt ks W H ink t).pend+(yC alt ks W H ink t).lost+255*ya (yC alt ks W H ink t).dots=ya ink/\yY (yC alt ks W H ink t).dots 1=true:=by
 induction t with
 | zero=>
  have a:=zGP h.hw;rw [h.hl] at a;refine ⟨by simp only [yC];simpa using a,fun i _ hi=>?_,fun i hi=>om,fun j=>?_,?_,?_⟩;exact ⟨zOC _ _,zOC _ _⟩;simp only [yC];rw [zOC];simp;omega
  have z: ∀m:Nat,ya (List.replicate m (0:Int))=0:=fun m=>by induction m with
   | zero=>rfl
   | succ m C=>simp [List.replicate_succ,ya,C]
  simp only [yC,z];omega;simp only [yC,yY,Yp];intro x l;have:=List.eq_of_mem_replicate l;subst this;decide
 | succ t C=>
  obtain ⟨b1,b2,b3,I,L,u⟩:=C om;obtain ⟨F,D,G⟩:=ZE (alt:=alt) (ks:=ks) (W:=W) (H:=H) (ink:=ink) t;obtain ⟨d,hd⟩: ∃d,yC alt ks W H ink t=d:=⟨_,rfl⟩
  have hr:yC alt ks W H ink (t+1)=zBL alt ks W H d t:=by rw [yC,hd]
  rw [hd] at b1 b2 b3 I L u F D G;rw [hr];clear hr hd;have y:=h.pos (show t<n by omega);have c:zQ alt W t<d.pend.length:=by rw [D,h.hl];exact y
  obtain ⟨v,hv⟩: ∃v,d.pend.getD (zQ alt W t) 0=v:=⟨_,rfl⟩
  have R:=VW v
  have E: ∀q j,q<ks.length->vf alt W H t (prt ks q)=some j->j<(d.pend.set (zQ alt W t) 0,d.lost).1.length:=fun q j B g=>by
   obtain ⟨k,k1,k2,rfl⟩:=h.tgt (show t<n by omega) B g;have:=h.pos k2;simp only [List.length_set];rw [D,h.hl];exact this
  have S:=zKf (sh:=yI ks (yB ks ks.length) (yD v)) E;have A:=zCy (sh:=yI ks (yB ks ks.length) (yD v)) E;have U:=VP (e:=yD v) rfl h.k1 h.k2 h.hk;rw [zOO rfl h.k1] at S;simp only at S A;rw [JK _ _ _ c,hv] at S;rw [Qg _ _ _ c,hv] at A
  have J: ∀i,i<=t->(xM (fun q=>vf alt W H t (prt ks q)) (yI ks (yB ks ks.length) (yD v)) (d.pend.set (zQ alt W t) 0,d.lost) ks.length).1.getD (zQ alt W i) 0=0:=fun i hi=>by
   rw [zAl (fun q B g=>by
    obtain ⟨k,k1,k2,k3⟩:=h.tgt (show t<n by omega) B g
    exact h.ne (show i<n by omega) k2 om k3)]
   by_cases e:i=t
   subst e;simp only;rw [kw _ _ _ _ c,if_pos rfl];simp only;rw [getD_set_ne _ _ (h.ne om om om)];exact b3 i om
  simp only [zBL,hv,ye];refine ⟨?_,fun i hi f=>?_,fun i hi=>J i om,fun j=>?_,?_,?_⟩;simp at A;omega;rw [getD_set_ne _ _ (h.ne om f om),getD_set_ne _ _ (h.ne om f om)];exact b2 i om f;by_cases e:zQ alt W t=j
  subst e;rw [kw _ _ _ _ (by rw [G,h.hl];exact y),if_pos rfl];have:=Uc d.pend (zQ alt W t);rw [hv] at this;omega;rw [getD_set_ne _ _ e];have:=I j;omega;rw [JK _ _ _ (by rw [F,h.hl];exact y),(b2 t nI om).1];unfold yD at S⊢;omega;have N:=zNC v;unfold yY at u⊢;rw [Yp] at u⊢;intro x l;rcases List.mem_or_eq_of_mem_set l with l | rfl
  exact u x l;simpa using N
theorem zCP (h:xz alt ks W H ink n) (t:Nat) (f:t<=n) (j:Nat):-300000<=(yC alt ks W H ink t).pend.getD j 0/\(yC alt ks W H ink t).pend.getD j 0<=300000/\-300000<=(yC alt ks W H ink t).errs.getD j 0/\(yC alt ks W H ink t).errs.getD j 0<=300000/\-300000<=(yC alt ks W H ink t).lost/\(yC alt ks W H ink t).lost<=300000:=by
 obtain ⟨b1,_,_,g,_⟩:=Kg h t f;have a:=Uc (yC alt ks W H ink t).pend j;have c:=g j;have z:=Uc (yC alt ks W H ink t).pend n;have:=h.nb;omega
theorem zHt (h : xz alt ks W H ink n) (t : Nat) (u : t < n) (k : Nat) (hk : k ≤ ks.length) (j : Nat) :
    -300000 ≤ (ye alt ks W H t (yD ((yC alt ks W H ink t).pend.getD (zQ alt W t) 0)) ((yC alt ks W H ink t).pend.set (zQ alt W t) 0, (yC alt ks W H ink t).lost) k).1.getD j 0 ∧
     (ye alt ks W H t (yD ((yC alt ks W H ink t).pend.getD (zQ alt W t) 0)) ((yC alt ks W H ink t).pend.set (zQ alt W t) 0, (yC alt ks W H ink t).lost) k).1.getD j 0 ≤ 300000 ∧
    -300000 ≤ (ye alt ks W H t (yD ((yC alt ks W H ink t).pend.getD (zQ alt W t) 0)) ((yC alt ks W H ink t).pend.set (zQ alt W t) 0, (yC alt ks W H ink t).lost) k).2 ∧
     (ye alt ks W H t (yD ((yC alt ks W H ink t).pend.getD (zQ alt W t) 0)) ((yC alt ks W H ink t).pend.set (zQ alt W t) 0, (yC alt ks W H ink t).lost) k).2 ≤ 300000 := by
  obtain ⟨b1, _⟩ := Kg h t om
  obtain ⟨D, g, G⟩ := ZE (alt := alt) (ks := ks) (W := W) (H := H) (ink := ink) t
  obtain ⟨d, hd⟩ : ∃ d, yC alt ks W H ink t = d := ⟨_, rfl⟩
  rw [hd] at b1 g ⊢
  have f : zQ alt W t < d.pend.length := by rw [g, h.hl]; exact h.pos u
  obtain ⟨v, hv⟩ : ∃ v, d.pend.getD (zQ alt W t) 0 = v := ⟨_, rfl⟩
  rw [hv]
  have E := VW v
  have A := zCy (k := k) (T := fun q => vf alt W H t (prt ks q)) (sh := yI ks (yB ks ks.length) (yD v)) (st := (d.pend.set (zQ alt W t) 0, d.lost)) (fun q j C l => by
      obtain ⟨m, J, B, rfl⟩ := h.tgt u (show q < ks.length by omega) l
      have := h.pos B
      simp only [List.length_set]
      rw [g, h.hl]; exact this)
  have I := VP (e := yD v) rfl h.k1 h.k2 h.hk
  have mono : ∀ (sh : List Int) (a b : Nat), a ≤ b → vN sh a ≤ vN sh b := by
    intro sh a b z
    induction b with
    | zero =>
      obtain rfl : a = 0 := om
      exact Int.le_refl _
    | succ b y =>
      by_cases c : a = b + 1
      · subst c; exact Int.le_refl _
      · have := y om; simp only [vN]; omega
  have F := mono (yI ks (yB ks ks.length) (yD v)) k ks.length hk
  simp only at A
  rw [Qg _ _ _ f, hv] at A
  have a := Uc (xM (fun q => vf alt W H t (prt ks q)) (yI ks (yB ks ks.length) (yD v)) (d.pend.set (zQ alt W t) 0, d.lost) k).1 j
  have := h.nb
  unfold ye
  simp at A
  omega
end
end
end Go.Proofs.YtlenfgdjdianiaaGreatDoor
