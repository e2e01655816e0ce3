/- Facts on which this claim rests, 20. -/
import Derived.Test.YtlenfgdjdianiaaGreatDoorG19
set_option linter.all false
set_option maxHeartbeats 6400000
namespace Go.Proofs.YtlenfgdjdianiaaGreatDoor
section
open Go.RowKit Tq Go.Proofs.Tryz
section
set_option maxRecDepth 100000
theorem lV (q:Nat) (m:PV) (D:Dsk) (B g:Nat) (w:World) (j:jJ w B g D) (hm:Blk w q 32 ↑m) (l:OwnA w B m.a m.n m.c m.ink) (ha: ∀b,zO m.a=some b->b≠g/\ ¬D.blocks b) (hn:m.n<=1048576):
 Calls prog 180 (#[.agg #[D.M.W,D.M.H, .slice D.M.a D.M.n D.M.c]]++#[.pointer ↑q]) w (Fa w B g D m.pic):=by
 show Calls prog 180 #[.agg #[D.M.W,D.M.H, .slice D.M.a D.M.n D.M.c], .pointer ↑q] w _;have e:=Jh (zM (zM (Below.refl w w) (.cells #[D.M.W,D.M.H, .slice D.M.a D.M.n D.M.c] 32)) (.cells ↑Zp 32));obtain ⟨f,z,C,t,i⟩:=JI (Blk.zD (g:=w.heap.size+1) (w:=w.alloc (.cells #[D.M.W,D.M.H, .slice D.M.a D.M.n D.M.c] 32)) 32 ↑Zp sI) (hm.zA e.Z) (l.zA e.Z) ha l;clear hm l j ha;obtain ⟨I,c0,c1,c2⟩:=z.Z.c3;obtain ⟨J,A,d1,d2⟩:=f.Z.c3;obtain ⟨E,F,G⟩:=f.Z.f3;go_in;go_wp2_with fail
 refine bodyPost_ret (v:= .agg ↑m) (by simp [results,results180,go_sem,A,d1,d2]) rfl
  ⟨m,rfl,rfl,?_,t.Z,hn,?_⟩
 exact (i.Z.alloc _).alloc _;exact zM (zM bR _) _
theorem lW (nb:Nat) (na:Option Addr) (nc:Nat) (x y:Int) (D:Dsk) (B g:Nat) (w:World) (F:jJ w B g D) (hb:w.cell? nb=some (.slice na 2 nc)) (hl:nb<w.heap.size) (hr:Rd w na [x,y]):
 Calls prog 139 (#[.agg #[D.M.W,D.M.H, .slice D.M.a D.M.n D.M.c]]++#[.pointer ↑nb]) w (Fa w B g D (⟨(jF D.M.W D.M.H D.M.ink x y).W,(jF D.M.W D.M.H D.M.ink x y).H,(jF D.M.W D.M.H D.M.ink x y).ranks⟩:Pic)):=by
 show Calls prog 139 #[.agg #[D.M.W,D.M.H, .slice D.M.a D.M.n D.M.c], .pointer ↑nb] w _;have f:=Jh F;obtain ⟨w2,j⟩:=zN ((w.alloc (.cells #[D.M.W,D.M.H, .slice D.M.a D.M.n D.M.c] 32)).alloc (.cells ↑Zp 32));have l:Hd (Below w w w2):=Jh (by rw [j];exact zM (zM bR _) _);have KA:Hd (Blk w2 w 32 #[D.M.W,D.M.H, .slice D.M.a D.M.n D.M.c]):=Jh (by rw [j];exact (Blk.new w _ _).alloc _);have KR:Hd (Blk w2 (w.heap.size+1) 32 ↑Zp):=Jh (by rw [j];exact Blk.zD _ _ sI);have HZ:Hd (w2.heap.size=w.heap.size+2):=Jh (by rw [j];simp);have e0:=(l.Z.cell hl).trans hb;obtain ⟨b,off,N,E,z⟩:=(hr.below l.Z).at sI;subst N;have Y:=z 0 sI;have q1:=z 1 sI;have g0: [x,y].getD 0 0=x:=rfl;have g1: [x,y].getD 1 0=y:=rfl;rw [g0,Yy] at Y;rw [g1] at q1;have T:nb<w2.heap.size:=by have:=l.Z.size;omega
 obtain ⟨I,c0,c1,c2⟩:=KA.Z.c3;have L:Hd (∀v,BelowL w2 v->(JB v w D.M.W D.M.H (.slice D.M.a D.M.n D.M.c) (Jc v nb (.slice (some ↑(b,off)) 2 nc)/\Jc v (b,off) x/\Jc v (b,off+1) y/\BelowL w2 v):Prop)):=Jh (fun v h=>⟨(h.Z.cell I).trans c0,(h.Z.cell I).trans c1,(h.Z.cell I).trans c2,(h.Z.cell T).trans e0,(h.Z.cell E).trans Y,(h.Z.cell E).trans q1,h⟩);have CS:Hd (∀v,BelowL w2 v->Calls prog 140 #[.agg #[D.M.W,D.M.H, .slice D.M.a D.M.n D.M.c],x,y] v (VE v (jF D.M.W D.M.H D.M.ink x y))):=Jh (fun v hv=>Ed D.M.W D.M.H D.M.a D.M.n D.M.c D.M.ink x y v f.Z.own.m.len ((f.Z.own.m.rd.below l.Z).below hv.Z) (og f.Z.small.m));clear F hb hr e0 z Y q1 g0 g1 I c0 c1 c2;go_in;go_upto_region 1 with fail;rw [<-j];clear j;refine yA 8 L zK (L.Z _ lS) ?_;intro q;have C:=qG q;refine zP 0 ?_;refine zP 1 ?_;refine zP 2 ?_;refine zP 3 ?_;refine zP 4 ?_;refine zP 5 ?_;refine zP 6 ?_;refine zf 7 (fun K hK=>?_);go_simp
 go_at_call 140
 ((with_reducible refine (CS.Z _ C).mono ?_);rintro e v1 ⟨a1,n1,k1,rfl,ho,U,X⟩);have t:=BelowL.call C X;go_wp2_with fail;refine hK.out _ _ (fun _=>Jd (L.Z _ t)) (fun hH2=>?_);clear hK K q hH2;have A:=KR.Z.zA t.Z;have J:=Jh (zL l.Z t.Z);obtain ⟨I,c0,c1,c2⟩:=A.c3;obtain ⟨f0,f1,f2⟩:=A.f3;refine zf 8 (fun K hK=>?_);go_simp;refine hK.out _ _ (fun h=>absurd h dC) (fun hH2=>?_);clear hK K hH2;refine yG zK ?_ _;(try go_simp);go_wp2_with fail;obtain ⟨R,hR⟩: ∃R,jF D.M.W D.M.H D.M.ink x y=R:=⟨_,rfl⟩
 rw [hR] at ho⊢;have hz:=HZ.Z;have b1:=f.Z.size;have b0:=f.Z.box.lt;have V:=ho.bd
 refine bodyPost_ret (v:= .agg #[R.W,R.H, .slice a1 n1 k1]) (by simp [results,results139,go_sem,c0,c1,c2]) rfl
  ⟨⟨R.W,R.H,a1,n1,k1,R.ranks⟩,rfl,rfl,OwnA.mono (((ho.other sO _).other sO _).other sO _) sO,fun b O=>?_,U,((J.Z.setCell sI _).setCell sI _).setCell sI _⟩
 have h1:=V b O;simp at h1;exact ⟨om,fun hd=>by have:=(f.Z.own.bd b hd).2;omega⟩
end
end
section
variable {k s : Nat} {u v x : Int}
open Tq Go.Proofs.Tryz
structure Sp where
 r:List Int
 x:Int
 y:Int
 dx:Int
 dy:Int
def Uu (s:Nat):Sp:=⟨List.replicate (s*s) (-1),0,0,1,0⟩
def wu (s:Nat) (r:List Int) (u v:Int):Bool:=!(decide (0<=u/\u<=(s:Int) - 1)) || (!(decide (0<=v/\v<=(s:Int) - 1)) || decide (0<=r.getD (v*s+u).toNat 0))
def qB (s:Nat) (n:Nat) (t:Sp):Sp:=
 match wu s (t.r.set (t.y*s+t.x).toNat (n:Int)) (t.x+t.dx) (t.y+t.dy) with
 | true=>⟨t.r.set (t.y*s+t.x).toNat (n:Int),t.x - t.dy,t.y+t.dx,-t.dy,t.dx⟩
 | false=>⟨t.r.set (t.y*s+t.x).toNat (n:Int),t.x+t.dx,t.y+t.dy,t.dx,t.dy⟩
def kW (s:Nat):Nat->Sp
 | 0=>Uu s
 | k+1=>qB s k (kW s k)
def RN (s:Nat) (t:Sp):Bool:=decide (0<=t.x/\t.x<(s:Int)/\0<=t.y/\t.y<(s:Int)/\-1<=t.dx/\t.dx<=1/\-1<=t.dy/\t.dy<=1/\t.dy*(s:Int)+t.dx≠0)
def DF (s:Nat):Nat->Nat->Sp->Bool
 | 0,_,t=>yD s s t.r
 | f+1,k,t=>RN s t && DF s f (k+1) (qB s k t)
def zBd:Bool:=[1,2,3,4,5,6,7,8,9,10,11,12,13,14,15,16].all (fun s=>DF s (s*s) 0 (Uu s))
theorem zAm:zBd=true:=by decide+kernel
theorem dJ (s:Nat): ∀(f k:Nat),DF s f k (kW s k)=true->(∀j,j<f->RN s (kW s (k+j))=true)/\yD s s (kW s (k+f)).r=true:=by
 intro f
 induction f with
 | zero=>intro k h;exact ⟨fun j c=>absurd c om,h⟩
 | succ f g=>
  intro k h;unfold DF at h;rw [Bool.and_eq_true] at h;have e:qB s k (kW s k)=kW s (k+1):=rfl;rw [e] at h;obtain ⟨h1,h2⟩:=g (k+1) h.2;refine ⟨fun j c=>?_,?_⟩
  match j with
  | 0=>exact h.1
  | j+1=>have:=h1 j om;rwa [Nat.add_right_comm] at this
  rwa [Nat.add_right_comm] at h2
theorem FT (s:Nat) (h1:1<=s) (h2:s<=16):(∀j,j<s*s->RN s (kW s j)=true)/\yD s s (kW s (s*s)).r=true:=by
 have h:=zAm;unfold zBd at h;rw [Yp] at h;have h3:=h s sO;have h4:=dJ s (s*s) 0 h3;simpa using h4
theorem zDL (s k:Nat):(kW s k).r.length=s*s:=by
 induction k with
 | zero=>simp [kW,Uu]
 | succ k c=>
  simp only [kW,qB];split <;>simp [c]
def kC (side:Int):Mat × Bool:=if 1<=side/\side<=16 then (⟨side,side,(kW side.toNat (side.toNat*side.toNat)).r⟩,true) else (qh,false)
theorem Qo {s:Int} (h: ¬(1<=s/\s<=16)):kC s=(qh,false):=by unfold kC;rw [if_neg h]
theorem UY (h1:1<=s) (h2:s<=16):kC (s:Int)=(⟨s,s,(kW s (s*s)).r⟩,true):=by unfold kC;rw [if_pos ⟨om,om⟩];rfl
theorem aC {t:Sp} (h:RN s t=true):0<=t.x/\t.x<(s:Int)/\0<=t.y/\t.y<(s:Int)/\-1<=t.dx/\t.dx<=1/\-1<=t.dy/\t.dy<=1/\t.dy*(s:Int)+t.dx≠0:=by
 unfold RN at h;exact of_decide_eq_true h
theorem Zo {t:Sp} (h:wu s (t.r.set (t.y*s+t.x).toNat (k:Int)) (t.x+t.dx) (t.y+t.dy)=true):qB s k t=⟨t.r.set (t.y*s+t.x).toNat (k:Int),t.x - t.dy,t.y+t.dx,-t.dy,t.dx⟩:=by
 unfold qB;rw [h]
theorem NJ {t:Sp} (h:wu s (t.r.set (t.y*s+t.x).toNat (k:Int)) (t.x+t.dx) (t.y+t.dy)=false):qB s k t=⟨t.r.set (t.y*s+t.x).toNat (k:Int),t.x+t.dx,t.y+t.dy,t.dx,t.dy⟩:=by
 unfold qB;rw [h]
theorem FP {r:List Int} (h: ¬(0<=u/\u<=(s:Int) - 1)):wu s r u v=true:=by
 unfold wu;rw [decide_eq_false h];rfl
theorem FQ {r:List Int} (h: ¬(0<=v/\v<=(s:Int) - 1)):wu s r u v=true:=by
 unfold wu;rw [decide_eq_false h];simp
theorem zAo {r:List Int} (h1:0<=u/\u<=(s:Int) - 1) (h2:0<=v/\v<=(s:Int) - 1) (h:r.getD (v*s+u).toNat 0=x):wu s r u v=decide (0<=x):=by
 unfold wu;rw [decide_eq_true h1,decide_eq_true h2,h];simp
end
section
open Go.ChangeMaps Go.MapKept Tq Go.Proofs.Tryz
open Go.Maps (Keyed)
variable {H : Type} {P : Program} {Q : Exit → Act → World → Prop} {a : Act} {b n : Nat} {o : Oper} {ops : Array Oper} {v : Value} {w w' : World} {x x' y y' : Int}
theorem gL:laidOutB prog=true:=zK
theorem OJ:(176:TypeId)<prog.types.size:=of_decide_eq_true zK
theorem gN:(match prog.underlying 176 with | some (.array _ _) | some (.struct _)=>true | _=>false)=true:=by rw [underlying176]
set_option maxRecDepth 100000 in
theorem QC:Keyed prog 176:=Keyed.of_law (deep_law_laid gL (m:=2) om OJ zK gN)
theorem Fp:prog.cellsOf 176=2:=zK
theorem rM:prog.keyType 176=true:=zK
def Cq (x y:Int):Value:= .agg #[x,y]
def QA (x y:Int):Lit:= .string (keyBytes [.int .i64 x, .int .i64 y])
def Xh (x:Int):Prop:=(Lit.int .i64 x).wf=true
theorem Cx (h1:-9223372036854775808<=x) (h2:x<=9223372036854775807):Xh x:=by
 have c:IntKind.i64.min=-9223372036854775808:=dC;have e:IntKind.i64.max=9223372036854775807:=dC;show (decide (IntKind.i64.min<=x) && decide (x<=IntKind.i64.max))=true;rw [c,e,Bool.and_eq_true];exact ⟨decide_eq_true h1,decide_eq_true h2⟩
theorem rJ:prog.cellsOf 3=1:=zK
theorem OI (e:Xh x) (d:Nat):Tryz.prog.keyLits (d+1) 3 [.int .i64 x]=some [.int .i64 x]:=by
 unfold Program.keyLits;rw [Tryz.underlying3];have c:(Lit.int .i64 x).wf=true:=e;simp [c]
theorem Xj (e:Xh x) (f:Xh y):keyOf Tryz.prog 176 (Cq x y)=some (QA x y):=by
 have h1:(Value.agg #[.int .i64 x, .int .i64 y]).formed Tryz.prog 176=true:=by simp [Value.formed,Tryz.underlying176,Fp]
 have h2: ∀d,Tryz.prog.keyLits (d+2) 176 [.int .i64 x, .int .i64 y]=some [.int .i64 x, .int .i64 y]:=by
  intro d;unfold Program.keyLits;rw [Tryz.underlying176];simp [Fp,rJ,OI e,OI f]
 have c: ∃n,Tryz.prog.types.size+1=n+2:=⟨Tryz.prog.types.size - 1,by have h:(176:Nat)<Tryz.prog.types.size:=OJ;omega⟩
 obtain ⟨n,hn⟩:=c;unfold keyOf Cq QA;rw [Tryz.underlying176,hn];simp [rM,h1,Value.cells,h2]
theorem gK (f:Xh x) (g:Xh y) (c:Xh x') (e:Xh y') (h:QA x y=QA x' y'):x=x'/\y=y':=by
 have h1:=Xj f g;rw [h] at h1;have h2:=QC.inj h1 (Xj c e);unfold Cq at h2;simpa using h2
theorem gT (w:World):(zeroValue 4).run prog w= .ok (.bool false) w:=zK
theorem Bc {e:TypeId} (he:P.underlying e=some .bool) {b:Bool} {ps:List MemPlace} (h:plainElem (H:=H) P e v=some (.lit (.bool b),ps)):v= .bool b:=by
 unfold plainElem at h;rw [he] at h;cases v <;>simp at h;rw [h.1]
def VM (w:World) (b n:Nat) (S:Int->Int->Bool):Prop:=
 ∃D:DataW Unit,Maps.IsMap D/\w.ownsMap prog 176 (plainElem prog 4) b n D/\ ∀x y,Xh x->Xh y->D.atKey (QA x y) (.lit (.bool false))= .lit (.bool (S x y))
theorem zCd (w:World):VM (w.alloc (.map #[] 0)) w 0 (fun _ _=>false):=
 ⟨.map [],Maps.isMap_empty,World.ownsMap_made w _ _ _,fun x y _ _=>rfl⟩
theorem VM.kept {w w':World} {b n:Nat} {S:Int->Int->Bool} {row:Option Nat} (h:VM w b n S) (hg:w.grownBy w' row) (c:some b≠row):VM w' b n S:=by
 obtain ⟨D,h1,h2,h3⟩:=h;exact ⟨D,h1,h2.kept hg c,h3⟩
theorem VM.alloc {w:World} {b n:Nat} {S:Int->Int->Bool} (h:VM w b n S) (o:Obj):VM (w.alloc o) b n S:=h.kept (World.grownBy_alloc w o none) sI
theorem VM.drew {w:World} {b n:Nat} {S:Int->Int->Bool} (h:VM w b n S):VM w.drew b n S:=h
theorem VM.lt {w:World} {b n:Nat} {S:Int->Int->Bool} (h:VM w b n S):b<w.heap.size:=by
 obtain ⟨D,h1,h2,h3⟩:=h;exact h2.lt
theorem VM.look {S:Int->Int->Bool} (h:VM w b n S) (e:Xh x) (f:Xh y):
 (Instr.lookup 174 (.map (some b)) (Cq x y) false).run prog w= .ok (.bool (S x y)) w:=by
 obtain ⟨D,h1,h2,h3⟩:=h;obtain ⟨v,ps,c,hv⟩:=h2.lookup QC underlying174 (gT w) (plainElem_bool underlying4 false) (Xj e f);rw [h3 x y e f] at hv;rw [Bc underlying4 hv] at c;exact c
def putS (S:Int->Int->Bool) (x y:Int):Int->Int->Bool:=fun u v=>(decide (u=x) && decide (v=y)) || S u v
theorem zBG (w:World) {rest:List Oper}
 (hg:o.guard=none) (m x v:Operand) (j:o.op=Op.mapUpdate 174 m x v)
 (b n:Nat) (S:Int->Int->Bool) (X Y:Int) (hm:a.eval m= .map (some b)) (c:VM w b n S) (hn:n<maxLen) (A:a.eval x=Cq X Y) (hv:a.eval v= .bool true) (f:Xh X) (g:Xh Y)
 (hK: ∀w',VM w' b (n+1) (putS S X Y)->w.grownBy w' (some b)->wpList prog ops Q rest (a.put o.dst undef) w'):
 wpList prog ops Q (o::rest) a w:=by
 obtain ⟨D,h1,h2,h3⟩:=c;refine wpList_mapUpdate_own w hg m x v _ j _ _ QC underlying174 _ b n D hm h2 hn _ _ _ A hv (Xj f g) _ _ (plainElem_bool underlying4 true) (fun w' B C=>hK w' ⟨_,h1.put _ _,B,?_⟩ C);intro u v q hv;by_cases e:u=X/\v=Y
 obtain ⟨rfl,rfl⟩:=e;rw [Maps.atKey_put_same h1 (QC.key (Xj f g))];simp [putS];have i:QA u v≠QA X Y:=fun z=>e (gK q hv f g z);rw [Maps.atKey_put_other i,h3 u v q hv]
 have:(decide (u=X) && decide (v=Y))=false:=by
  simp only [Bool.and_eq_false_iff,decide_eq_false_iff_not];by_cases l:u=X
  exact Or.inr (fun t=>e ⟨l,t⟩);exact Or.inl l
 simp [putS,this]
theorem eP (w:World) {rest:List Oper} {t:TypeId}
 (hg:o.guard=none) (e:o.op=Op.makeMap t none)
 (hK:wpList prog ops Q rest (a.put o.dst (.map (some w.heap.size))) (w.alloc (.map #[] 0))):wpList prog ops Q (o::rest) a w:=by
 refine wpList_plain hg fun K c=>?_;have hr:(Instr.makeMap t none).run prog w= .ok (.map (some w.heap.size)) (w.alloc (.map #[] 0)):=rfl;unfold Oper.wp;simp [execOp,e,hr,Result.andThen];exact c _ _ hK
theorem VM.same {S:Int->Int->Bool} (h:VM w b n S) (hb:w'.heap[b]? =w.heap[b]?):VM w' b n S:=by
 obtain ⟨D,h1,⟨es,c,h2,h3⟩,h4⟩:=h;exact ⟨D,h1,⟨es,c,hb.trans h2,h3⟩,h4⟩
end
section
open Go.RowKit Tq Go.Proofs.Tryz
variable {H W u v x y : Int} {b : Bool} {k s : Nat} {xs : List Int}
theorem Xm (a b c d:Int) (w:World) (h1:IntKind.i64.wrap (a+c)=a+c) (h2:IntKind.i64.wrap (b+d)=b+d):
 Calls prog 181 #[.agg #[a,b], .agg #[c,d]] w (zR (.agg #[.int .i64 (a+c), .int .i64 (b+d)]) w):=by
 go_in
 go_wp2
 refine bodyPost_ret (v:= .agg #[.int .i64 (a+c), .int .i64 (b+d)]) (Jr results181) rfl ⟨rfl,nV.trans (nJ.mono sO)⟩
theorem UL (a b:Int) (w:World) (h1:IntKind.i64.wrap (-b)=-b):
 Calls prog 183 #[.agg #[a,b]] w (zR (.agg #[.int .i64 (-b),a]) w):=by
 go_in
 go_wp2
 refine bodyPost_ret (v:= .agg #[.int .i64 (-b),a]) (Jr results183) rfl ⟨rfl,nV⟩
theorem rH (i:0<=x) (j:x<(s:Int)) (f:0<=u) (g:u<(s:Int)) (h:v*(s:Int)+u=y*(s:Int)+x):u=x/\v=y:=by
 have e:(0:Int)<=(s:Int):=om
 have c:v=y:=by
  rcases Int.lt_trichotomy v y with h1 | h1 | h1
  have:=Yo (show v+1<=y by omega) e;rw [Int.add_mul,Int.one_mul] at this;omega;exact h1;have:=Yo (show y+1<=v by omega) e;rw [Int.add_mul,Int.one_mul] at this;omega
 subst c;exact ⟨om,rfl⟩
theorem zCO {r:List Int} {S:Int->Int->Bool} (hl:r.length=s*s) (j:0<=x) (l:x<(s:Int)) (q:0<=y) (t:y<(s:Int))
 (h: ∀u v,0<=u/\u<=(s:Int) - 1->0<=v/\v<=(s:Int) - 1->S u v=decide (0<=r.getD (v*s+u).toNat 0)):
 ∀u v,0<=u/\u<=(s:Int) - 1->0<=v/\v<=(s:Int) - 1->putS S x y u v=decide (0<=(r.set (y*s+x).toNat (k:Int)).getD (v*s+u).toNat 0):=by
 intro u v g hv;obtain ⟨i0,A⟩:=wF j l q t;obtain ⟨B,C⟩:=wF (x:=u) (y:=v) (W:=(s:Int)) (H:=(s:Int)) g.1 om hv.1 om
 have c:(y*(s:Int)+x).toNat<r.length:=by
  rw [hl];have e:((s*s:Nat):Int)=(s:Int)*(s:Int):=sI;omega
 rw [vS _ _ _ _ c];unfold putS;by_cases e:u=x/\v=y
 obtain ⟨rfl,rfl⟩:=e;rw [if_pos rfl];simp;have f:(y*(s:Int)+x).toNat≠(v*(s:Int)+u).toNat:=fun z=>e (rH j l g.1 om om);rw [if_neg f,h u v g hv]
 have:(decide (u=x) && decide (v=y))=false:=by
  simp only [Bool.and_eq_false_iff,decide_eq_false_iff_not];by_cases i:u=x
  exact Or.inr (fun m=>e ⟨i,m⟩);exact Or.inl i
 rw [this];simp
theorem zAn {r:List Int} (h:0<=u/\u<=(s:Int) - 1->0<=v/\v<=(s:Int) - 1->b=decide (0<=r.getD (v*s+u).toNat 0)) (hb:b=true):wu s r u v=true:=by
 by_cases c:0<=u/\u<=(s:Int) - 1
 by_cases hv:0<=v/\v<=(s:Int) - 1
 unfold wu;rw [<-h c hv,hb];simp;exact FQ hv;exact FP c
theorem ni {r:List Int} (h:0<=u/\u<=(s:Int) - 1->0<=v/\v<=(s:Int) - 1->b=decide (0<=r.getD (v*s+u).toNat 0)) (hb:b=false) (c:0<=u/\u<=(s:Int) - 1) (hv:0<=v/\v<=(s:Int) - 1):wu s r u v=false:=by
 unfold wu;rw [<-h c hv,hb,decide_eq_true c,decide_eq_true hv];rfl
def cl (r:List Int):List Int:=r.map (fun v=>if v<0 then 0 else v)
theorem rO (n:Nat):cl (List.replicate n (-1))=List.replicate n 0:=by unfold cl;rw [List.map_replicate];rfl
theorem Fq (r:List Int) (i k:Nat):cl (r.set i (k:Int))=(cl r).set i (k:Int):=by
 unfold cl;rw [List.map_set,if_neg om]
theorem zCs {r:List Int} (h: ∀v ∈ r,0<=v):cl r=r:=by
 unfold cl
 conv=>rhs;rw [<-List.map_id r]
 exact List.map_congr_left (fun v hv=>by have:=h v hv;rw [if_neg om];rfl)
theorem zAp (f:0<=u/\u<=(s:Int) - 1) (hv:0<=v/\v<=(s:Int) - 1):false=decide (0<=(kW s 0).r.getD (v*s+u).toNat 0):=by
 obtain ⟨g,i⟩:=wF (x:=u) (y:=v) (W:=(s:Int)) (H:=(s:Int)) f.1 om hv.1 om;have e:((s*s:Nat):Int)=(s:Int)*(s:Int):=sI;have c:(v*(s:Int)+u).toNat<s*s:=om
 have h:(kW s 0).r.getD (v*s+u).toNat 0=-1:=by
  simp only [kW,Uu,List.getD];rw [List.getElem?_replicate,if_pos c];rfl
 rw [h];rfl
theorem zCK (h:yD W H xs=true): ∀v ∈ xs,0<=v:=by
 obtain ⟨_,_,h3,_⟩:=jh rfl h;unfold inR at h3;rw [Yp] at h3;intro v hv;have:=h3 v hv;simp at this;omega
theorem DR (I:Int) (w:World):Calls prog 62 #[I] w (jq w (kC I)):=by
 by_cases hs:1<=I/\I<=16
 case neg=>
  rw [Qo hs];go_in;go_wp2_with fail;refine (kD _ _ _ _ hs).mono ?_;rintro e w2 ⟨rfl,rfl⟩
  go_wp2
  exact bodyPost_ret (v:= .tuple #[.agg ↑Zp, .bool false]) (Jr results62) rfl ⟨none,0,0,rfl,oN,om,nJ⟩
 obtain ⟨s,rfl⟩: ∃s:Nat,I=(s:Int):=⟨I.toNat,om⟩
 have s1:1<=s:=om;have s2:s<=16:=om;rw [UY s1 s2];obtain ⟨n,hn⟩:=zN (s*s:Nat);have HN:=Jh hn;have D:Hd ((n:Int)=(s:Int)*(s:Int)):=Jh (by rw [hn];simp);have d4:n<=256:=by rw [hn];exact Nat.mul_le_mul s2 s2
 have d3:1<=n:=by rw [hn];exact Nat.mul_le_mul s1 s1
 have HF:=Jh (FT s s1 s2);have b7:1<=(s:Int)*(s:Int)/\(s:Int)*(s:Int)<=256:=by have:=D.Z;omega
 obtain ⟨d1,d2⟩:=b7;rw [<-HN.Z];clear hn;go_in;go_wp2_with fail;refine (yJ _ _ _ _ hs.1 hs.2).mono ?_;rintro e w2 ⟨rfl,rfl⟩;clear hs
 go_wp2
 go_loopw [5] (fun i wr=> ∃(k:Nat) (m:Option Addr) (c:Nat),k<=n/\i=↑k/\OwnA wr (w.heap.size+1+1) m k c (gen k ((fun _=>(-1:Int))))/\Blk wr (w.heap.size+1) 32 #[((s:Int)),((s:Int)), .slice m k c]/\Below (w.heap.size+1) (w.alloc (.cells ↑Zp 32)) wr) (fun i _=>n - (intOf i).toNat)
 exact ⟨0,none,0,nZ,rfl,oN,by first | exact Blk.new _ _ _ | exact Blk.zD _ _ sI,by first | exact nJ | exact bR.alloc sI _⟩;obtain ⟨k,m,c,hk,rfl,X,U,b1⟩:=hrel;obtain ⟨M,O,HW⟩:=JF X U b1;obtain ⟨l0,o0,o1,o2⟩:=O.Z.c3;clear X U b1;by_cases c0:k<n
 . have V:(k:Int)<(s:Int)*(s:Int):=by have:=D.Z;omega
   go_wp2_with (at_builtin;refine qQ _ rfl (.tmp 29) (.tmp 30) rfl (w.heap.size+1+1) k c m _ rfl (M.Z.alloc _) wr.heap.size ((-1:Int)) rfl (by go_simp) om (oS O.Z.lt) ?_;intro R B w5 Y F;have z:=Jh (uD M.Z F O.Z om);obtain ⟨l5,p0,p1,p2⟩:=z.Z.c3;obtain ⟨f0,f1,f2⟩:=z.Z.f3);have b5:=Jh (qw M.Z F HW.Z om (og O.Z.lt));have C:=Jh Y;clear Y F;go_roundw
   . exact ⟨k+1,R,B,om,by go_num,(by rw [<-vv];exact C.Z.other sI _),by first | exact z.Z.set 2 _ | (have h:=z.Z.set 2 (.slice R (k+1) B);simpa using h),b5.Z.setCell sI _⟩
   exact Jm
 have V: ¬(k:Int)<(s:Int)*(s:Int):=by have:=D.Z;omega
 obtain rfl:n=k:=om
 obtain ⟨g,b8,A,b4⟩: ∃g,m=some ⟨g,0,none⟩/\Hd (w.heap.size+1+1<=g)/\Hd (Own wr g n c (kW s 0).r):=by
  rcases M.Z with ⟨_,h,_⟩ | ⟨g,h1,h2,h3⟩
  omega;refine ⟨g,h1,h2,?_⟩
  have e:(kW s 0).r=gen n (fun _=>(-1:Int)):=by
   simp only [kW,Uu];rw [<-HN.Z];refine jP n _ _ sI (fun i hi=>?_);simp [List.getD,hi]
  rw [e];exact h3
 subst b8;clear M;obtain ⟨w5,rfl⟩:=zN (wr:World);have N1:g≠w.heap.size+1:=by have:=A.Z;omega
 go_wp2
 go_loopw [6,7,8,9,36] (fun x y dx dy i wr=> ∃(k:Nat) (t:Sp),k<=n/\i=↑k/\x=↑t.x/\y=↑t.y/\dx=↑t.dx/\dy=↑t.dy/\Hd (t=kW s k)/\Own wr g n c t.r/\w5.grownBy wr (some g)) (fun _ _ _ _ i _=>n - (intOf i).toNat)
 exact ⟨0,kW s 0,nZ,rfl,rfl,rfl,rfl,rfl,rfl,b4.Z,yU _ _⟩;obtain ⟨k,t,hk,rfl,rfl,rfl,rfl,rfl,G,X,hg⟩:=hrel;obtain ⟨b6,f,l⟩:=JF (O.Z.grown hg (by intro e;have:=Yd e;have:=A.Z;omega)) X hg;clear o0 o1 o2 l0 X hg;obtain ⟨l0,o0,o1,o2⟩:=b6.Z.c3;by_cases c0:k<n
 . obtain ⟨x0,x1,y0,y1,c4,c5,c8,d0,T⟩:=aC (s:=s) (t:=t) (by rw [G.Z];exact HF.Z.1 k (oh HN))
   obtain ⟨i0,i1⟩:=wF x0 x1 y0 y1;have i2:(t.y*(s:Int)+t.x).toNat<n:=by have:=D.Z;omega
   have i3:t.y*(s:Int)+t.x<(n:Int):=by have:=D.Z;omega
   have g2:=f.Z.cell i2;have g3:=f.Z.frozen (t.y*(s:Int)+t.x).toNat;have b3:=Jh T;clear T i1;by_cases q:0<=t.x+t.dx/\t.x+t.dx<=(s:Int) - 1
   . by_cases hv:0<=t.y+t.dy/\t.y+t.dy<=(s:Int) - 1
     . obtain ⟨j0,j1⟩:=wF (x:=t.x+t.dx) (y:=t.y+t.dy) (W:=(s:Int)) (H:=(s:Int)) q.1 om hv.1 om
       have j2:((t.y+t.dy)*(s:Int)+(t.x+t.dx)).toNat<n:=by have:=D.Z;omega
       have j3:(t.y+t.dy)*(s:Int)+(t.x+t.dx)<(n:Int):=by have:=D.Z;omega
       have g4:=f.Z.cell j2
       have c1:(t.y*(s:Int)+t.x).toNat≠((t.y+t.dy)*(s:Int)+(t.x+t.dx)).toNat:=by
        have e:(t.y+t.dy)*(s:Int)=t.y*(s:Int)+t.dy*(s:Int):=Int.add_mul _ _ _;have:=b3.Z;omega
       have b0:(t.r.set (t.y*(s:Int)+t.x).toNat (k:Int)).getD ((t.y+t.dy)*(s:Int)+(t.x+t.dx)).toNat 0=t.r.getD ((t.y+t.dy)*(s:Int)+(t.x+t.dx)).toNat 0:=by
        rw [vS _ _ _ _ (by rw [f.Z.len];exact i2),if_neg c1]
       have N:=Jh (zAo q hv b0);clear b0 j1;by_cases hr:0<=t.r.getD ((t.y+t.dy)*(s:Int)+(t.x+t.dx)).toNat 0
       . have j:=Jh (N.Z.trans (decide_eq_true hr))
         simp only [List.getD] at hr;go_wp2_with fail;refine (yJ _ _ _ _ q.1 q.2).mono ?_;rintro e J ⟨rfl,rfl⟩;go_wp2_with fail;refine (yJ _ _ _ _ hv.1 hv.2).mono ?_;rintro e J ⟨rfl,rfl⟩
         go_wp2
         go_roundw
         . have E:=Zo j.Z
           refine ⟨k+1,qB s k t,om,by go_num,?_,?_,?_,?_,?_,?_,yX l.Z _⟩
           . rw [E];go_num
           rw [E];rw [E];rw [E];rw [G.Z];rfl;rw [E];exact f.Z.set _ _
         exact Jm
       have j:=Jh (N.Z.trans (decide_eq_false hr));simp only [List.getD] at hr;go_wp2_with fail;refine (yJ _ _ _ _ q.1 q.2).mono ?_;rintro e J ⟨rfl,rfl⟩;go_wp2_with fail;refine (yJ _ _ _ _ hv.1 hv.2).mono ?_;rintro e J ⟨rfl,rfl⟩
       go_wp2
       go_roundw
       . have E:=NJ j.Z
         refine ⟨k+1,qB s k t,om,by go_num,?_,?_,?_,?_,?_,?_,yX l.Z _⟩;rw [E];rw [E];rw [E];rw [E];rw [G.Z];rfl;rw [E];exact f.Z.set _ _
       exact Jm
     have j:=Jh (FQ (r:=t.r.set (t.y*(s:Int)+t.x).toNat (k:Int)) (u:=t.x+t.dx) hv);go_wp2_with fail;refine (yJ _ _ _ _ q.1 q.2).mono ?_;rintro e J ⟨rfl,rfl⟩;go_wp2_with fail;refine (kD _ _ _ _ hv).mono ?_;rintro e J ⟨rfl,rfl⟩
     go_wp2
     go_roundw
     . have E:=Zo j.Z
       refine ⟨k+1,qB s k t,om,by go_num,?_,?_,?_,?_,?_,?_,yX l.Z _⟩
       . rw [E];go_num
       rw [E];rw [E];rw [E];rw [G.Z];rfl;rw [E];exact f.Z.set _ _
     exact Jm
   have j:=Jh (FP (r:=t.r.set (t.y*(s:Int)+t.x).toNat (k:Int)) (v:=t.y+t.dy) q);go_wp2_with fail;refine (kD _ _ _ _ q).mono ?_;rintro e J ⟨rfl,rfl⟩
   go_wp2
   go_roundw
   . have E:=Zo j.Z
     refine ⟨k+1,qB s k t,om,by go_num,?_,?_,?_,?_,?_,?_,yX l.Z _⟩
     . rw [E];go_num
     rw [E];rw [E];rw [E];rw [G.Z];rfl;rw [E];exact f.Z.set _ _
   exact Jm
 obtain rfl:n=k:=om;have L:=Jh ((Joins.below_alloc1 w (.cells ↑Zp 32)).trans (HW.Z.mono sI));have b2:=Jh (L.Z.grown l.Z L.Z.size (fun b hb=>by cases hb;have:=A.Z;omega));have KR:=Jh (((Blk.new w 32 ↑Zp).below HW.Z sI).grown l.Z (by intro e;have:=Yd e;have:=A.Z;omega));have C:Hd (Own wr g n c (kW s n).r):=Jh (by rw [<-G.Z];exact f.Z);obtain ⟨r0,r1,r2,r3⟩:=KR.Z.c3;obtain ⟨q0,q1,q2⟩:=KR.Z.f3
 go_wp2
 exact bodyPost_ret (v:= .tuple #[.agg #[s,s, .slice (some ⟨g,0,none⟩) n c], .bool true]) (by simp [results,results62,go_sem,r1,r2,r3]) rfl
  ⟨_,_,_,rfl,OwnA.mk (((C.Z.other (oS A.Z) _).other (oS A.Z) _).other (oS A.Z) _) (oh A),om,
   ((b2.Z.setCell sI _).setCell sI _).setCell sI _⟩
end
end Go.Proofs.YtlenfgdjdianiaaGreatDoor
