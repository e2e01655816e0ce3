/- Facts on which this claim rests, 33. -/
import Derived.Test.YtlenfgdjdianiaaGreatDoorG32
set_option linter.all false
set_option maxHeartbeats 6400000
namespace Go.Proofs.YtlenfgdjdianiaaGreatDoor
section
open Go.RowKit Tq Go.Proofs.Tryz
open Go.ChangeMaps Go.MapKept Go.WideMaps
variable {Q : Exit → Act → World → Prop} {a : Act} {o : Oper} {ops : Array Oper}
open Go.MapKept Go.WideMaps in
theorem YH (w:World) {rest:List Oper}
 (hg:o.guard=none) (m x v:Operand) (hop:o.op=Op.insert 102 m x v)
 (b n:Nat) (S:List UInt8->Option Value) (s:ByteArray) (val:Value) (hm:a.eval m= .map (some b)) (hown:VS w b n S) (hn:n<maxLen) (hx:a.eval x= .string s) (hv:a.eval v=val) (hs:s.size<=maxLen)
 (hK: ∀w',VS w' b (n+1) (ZW S s.data.toList val)->w.grownBy w' (some b)->wpList prog ops Q rest (a.put o.dst undef) w'):
 wpList prog ops Q (o::rest) a w:=by
 obtain ⟨D,h1,h2,h3⟩:=hown;refine wpList_plain hg fun K' hK'=>?_;obtain ⟨w',hrun,r1,r2⟩:=h2.update La underlying102 hn (keyOf_string_mk underlying9 hs) (val:=val) (d:= .held val) (ps:=[]) rfl;unfold Oper.wp;simp [execOp,hop,hm,hx,hv,hrun,Result.andThen];refine hK' _ _ (hK w' ⟨_,h1.put _ _,r1,?_⟩ r2);intro l zd;unfold ZW;by_cases e:l=s.data.toList
 subst e;rw [Maps.atKey_put_same h1 (La.key (keyOf_string_mk underlying9 hs)),if_pos rfl];rw [Maps.atKey_put_other (fun hh=>e (by injection hh)),h3 l zd,if_neg e]
set_option maxRecDepth 100000 in
theorem BJ (w:World):
 Calls prog 74 #[] w fun e w'=> ∃k1 a1 g1 k2 a2 g2 k3 a3 g3 k4 a4 g4 b1 b2 b3:Nat,e= .returned (.map (some w.heap.size))/\VS w' w 15 (Bd k1 a1 k2 a2 k3 a3 k4 a4 b1 b2 b3)/\
  kV k1 a1 g1 4 xQ false w'/\kV k2 a2 g2 4 xQ true w'/\kV k3 a3 g3 1 xP false w'/\kV k4 a4 g4 1 xP true w'/\
  vT b1 122 w'/\vT b2 123 w'/\vT b3 124 w'/\Below w w w':=by
 have s:=Jh (zCe w);have q:=Jh (zM (Below.refl w w) (.map #[] 0));have n:Hd (EK w.heap.size [] (w.alloc (.map #[] 0))):=Jh (fun p hp=>by cases hp);have g:Hd (w.heap.size<(w.alloc (.map #[] 0)).heap.size):=Jh sI;obtain ⟨Y,X⟩:=zN w.heap.size;go_in
 go_wp2_with (first
  | (refine WE _ rfl rfl ?_)
  | (refine YH _ rfl _ _ _ rfl _ _ _ _ _ rfl s.Z (by unfold maxLen;omega) rfl rfl (by unfold maxLen;decide) ?_;intro v m f;(try simp [Act.eval,go_sem] at m);have s:=Jh m;have q:=Jh (q.Z.grown f (Nat.le_of_lt g.Z) (fun b hb=>by cases hb;exact nI));have n:=Jh (n.Z.step f);have g:=Jh (Yb g.Z f.size);clear m f))
 refine (VT _).mono ?_;rintro e x ⟨g1,rfl,hg,hk,t⟩;obtain ⟨s,q,n⟩:=JF (s.Z.below t) (zL q.Z t) (n.Z.step (xS t));have N:Hd (g1≠w.heap.size):=Jh (oh g);have g:=Jh (Yb g.Z t.size);have I:=Jh hk;clear hg hk t;go_wp2_with fail;refine (qy _ _ _ _ _).mono ?_;rintro e u ⟨rfl,rfl⟩;obtain ⟨s,q,n⟩:=JF ((s.Z.alloc (.cells #[.slice ↑g1 4 4] 82)).alloc (.cells #[.bool false] 4)) (zM (zM q.Z (.cells #[.slice ↑g1 4 4] 82)) (.cells #[.bool false] 4)) ((n.Z.step (xS (zM (zM bR (.cells #[.slice ↑g1 4 4] 82)) (.cells #[.bool false] 4)))).cons (p:=kV x (x.heap.size+1) g1 4 xQ false) ⟨(Blk.new x _ _).alloc _,Blk.zD _ _ sI,(I.Z.alloc _).alloc _⟩ (kV.kept (oh g) (oh g) N.Z));have g:Hd (w.heap.size<((x.alloc (.cells #[.slice ↑g1 4 4] 82)).alloc (.cells #[.bool false] 4)).heap.size):=Jh (oS g.Z)
 go_wp2_with (first
  | (refine YH _ rfl _ _ _ rfl _ _ _ _ _ rfl s.Z (by unfold maxLen;omega) rfl rfl (by unfold maxLen;decide) ?_;intro v m f;(try simp [Act.eval,go_sem] at m);have s:=Jh m;have q:=Jh (q.Z.grown f (Nat.le_of_lt g.Z) (fun b hb=>by cases hb;exact nI));have n:=Jh (n.Z.step f);have g:=Jh (Yb g.Z f.size);clear m f))
 refine (VT _).mono ?_;rintro e y ⟨g2,rfl,hg,hk,t⟩;obtain ⟨s,q,n⟩:=JF (s.Z.below t) (zL q.Z t) (n.Z.step (xS t));have O:Hd (g2≠w.heap.size):=Jh (oh g);have g:=Jh (Yb g.Z t.size);have J:=Jh hk;clear hg hk t;go_wp2_with fail;refine (qy _ _ _ _ _).mono ?_;rintro e u ⟨rfl,rfl⟩;obtain ⟨s,q,n⟩:=JF ((s.Z.alloc (.cells #[.slice ↑g2 4 4] 82)).alloc (.cells #[.bool true] 4)) (zM (zM q.Z (.cells #[.slice ↑g2 4 4] 82)) (.cells #[.bool true] 4)) ((n.Z.step (xS (zM (zM bR (.cells #[.slice ↑g2 4 4] 82)) (.cells #[.bool true] 4)))).cons (p:=kV y (y.heap.size+1) g2 4 xQ true) ⟨(Blk.new y _ _).alloc _,Blk.zD _ _ sI,(J.Z.alloc _).alloc _⟩ (kV.kept (oh g) (oh g) O.Z));have g:Hd (w.heap.size<((y.alloc (.cells #[.slice ↑g2 4 4] 82)).alloc (.cells #[.bool true] 4)).heap.size):=Jh (oS g.Z)
 go_wp2_with (first
  | (refine YH _ rfl _ _ _ rfl _ _ _ _ _ rfl s.Z (by unfold maxLen;omega) rfl rfl (by unfold maxLen;decide) ?_;intro v m f;(try simp [Act.eval,go_sem] at m);have s:=Jh m;have q:=Jh (q.Z.grown f (Nat.le_of_lt g.Z) (fun b hb=>by cases hb;exact nI));have n:=Jh (n.Z.step f);have g:=Jh (Yb g.Z f.size);clear m f))
 refine (VP _).mono ?_;rintro e z ⟨g3,rfl,hg,hk,t⟩;obtain ⟨s,q,n⟩:=JF (s.Z.below t) (zL q.Z t) (n.Z.step (xS t));have P:Hd (g3≠w.heap.size):=Jh (oh g);have g:=Jh (Yb g.Z t.size);have L:=Jh hk;clear hg hk t;go_wp2_with fail;refine (qy _ _ _ _ _).mono ?_;rintro e u ⟨rfl,rfl⟩;obtain ⟨s,q,n⟩:=JF ((s.Z.alloc (.cells #[.slice ↑g3 1 1] 82)).alloc (.cells #[.bool false] 4)) (zM (zM q.Z (.cells #[.slice ↑g3 1 1] 82)) (.cells #[.bool false] 4)) ((n.Z.step (xS (zM (zM bR (.cells #[.slice ↑g3 1 1] 82)) (.cells #[.bool false] 4)))).cons (p:=kV z (z.heap.size+1) g3 1 xP false) ⟨(Blk.new z _ _).alloc _,Blk.zD _ _ sI,(L.Z.alloc _).alloc _⟩ (kV.kept (oh g) (oh g) P.Z));have g:Hd (w.heap.size<((z.alloc (.cells #[.slice ↑g3 1 1] 82)).alloc (.cells #[.bool false] 4)).heap.size):=Jh (oS g.Z)
 go_wp2_with (first
  | (refine YH _ rfl _ _ _ rfl _ _ _ _ _ rfl s.Z (by unfold maxLen;omega) rfl rfl (by unfold maxLen;decide) ?_;intro v m f;(try simp [Act.eval,go_sem] at m);have s:=Jh m;have q:=Jh (q.Z.grown f (Nat.le_of_lt g.Z) (fun b hb=>by cases hb;exact nI));have n:=Jh (n.Z.step f);have g:=Jh (Yb g.Z f.size);clear m f))
 refine (VP _).mono ?_;rintro e A ⟨g4,rfl,hg,hk,t⟩;obtain ⟨s,q,n⟩:=JF (s.Z.below t) (zL q.Z t) (n.Z.step (xS t));have R:Hd (g4≠w.heap.size):=Jh (oh g);have g:=Jh (Yb g.Z t.size);have M:=Jh hk;clear hg hk t;go_wp2_with fail;refine (qy _ _ _ _ _).mono ?_;rintro e u ⟨rfl,rfl⟩;obtain ⟨s,q,n⟩:=JF ((s.Z.alloc (.cells #[.slice ↑g4 1 1] 82)).alloc (.cells #[.bool true] 4)) (zM (zM q.Z (.cells #[.slice ↑g4 1 1] 82)) (.cells #[.bool true] 4)) ((n.Z.step (xS (zM (zM bR (.cells #[.slice ↑g4 1 1] 82)) (.cells #[.bool true] 4)))).cons (p:=kV A (A.heap.size+1) g4 1 xP true) ⟨(Blk.new A _ _).alloc _,Blk.zD _ _ sI,(M.Z.alloc _).alloc _⟩ (kV.kept (oh g) (oh g) R.Z));have g:Hd (w.heap.size<((A.alloc (.cells #[.slice ↑g4 1 1] 82)).alloc (.cells #[.bool true] 4)).heap.size):=Jh (oS g.Z)
 go_wp2_with (first
  | (refine YH _ rfl _ _ _ rfl _ _ _ _ _ rfl s.Z (by unfold maxLen;omega) rfl rfl (by unfold maxLen;decide) ?_;intro v m f;(try simp [Act.eval,go_sem] at m);have s:=Jh m;have q:=Jh (q.Z.grown f (Nat.le_of_lt g.Z) (fun b hb=>by cases hb;exact nI));have n:=Jh (n.Z.step f);have g:=Jh (Yb g.Z f.size);clear m f))
 obtain ⟨B,E⟩:=zN v;rw [<-E] at s q n g⊢;clear E;refine (XO _ _).mono ?_;rintro e u ⟨rfl,rfl⟩;obtain ⟨s,q,n⟩:=JF (s.Z.alloc (.cells #[.func (.func 122) #[] #[]] 74)) (zM q.Z (.cells #[.func (.func 122) #[] #[]] 74)) ((n.Z.step (xS (zM bR (.cells #[.func (.func 122) #[] #[]] 74)))).cons (p:=vT B 122) (Blk.new B _ _) (vT.kept (oh g)));have g:Hd (w.heap.size<(B.alloc (.cells #[.func (.func 122) #[] #[]] 74)).heap.size):=Jh (oS g.Z)
 go_wp2_with (first
  | (refine YH _ rfl _ _ _ rfl _ _ _ _ _ rfl s.Z (by unfold maxLen;omega) rfl rfl (by unfold maxLen;decide) ?_;intro v m f;(try simp [Act.eval,go_sem] at m);have s:=Jh m;have q:=Jh (q.Z.grown f (Nat.le_of_lt g.Z) (fun b hb=>by cases hb;exact nI));have n:=Jh (n.Z.step f);have g:=Jh (Yb g.Z f.size);clear m f))
 obtain ⟨C,F⟩:=zN v;rw [<-F] at s q n g⊢;clear F;refine (XO _ _).mono ?_;rintro e u ⟨rfl,rfl⟩;obtain ⟨s,q,n⟩:=JF (s.Z.alloc (.cells #[.func (.func 123) #[] #[]] 74)) (zM q.Z (.cells #[.func (.func 123) #[] #[]] 74)) ((n.Z.step (xS (zM bR (.cells #[.func (.func 123) #[] #[]] 74)))).cons (p:=vT C 123) (Blk.new C _ _) (vT.kept (oh g)));have g:Hd (w.heap.size<(C.alloc (.cells #[.func (.func 123) #[] #[]] 74)).heap.size):=Jh (oS g.Z)
 go_wp2_with (first
  | (refine YH _ rfl _ _ _ rfl _ _ _ _ _ rfl s.Z (by unfold maxLen;omega) rfl rfl (by unfold maxLen;decide) ?_;intro v m f;(try simp [Act.eval,go_sem] at m);have s:=Jh m;have q:=Jh (q.Z.grown f (Nat.le_of_lt g.Z) (fun b hb=>by cases hb;exact nI));have n:=Jh (n.Z.step f);have g:=Jh (Yb g.Z f.size);clear m f))
 obtain ⟨D,G⟩:=zN v;rw [<-G] at s q n g⊢;clear G;refine (XO _ _).mono ?_;rintro e u ⟨rfl,rfl⟩;obtain ⟨s,q,n⟩:=JF (s.Z.alloc (.cells #[.func (.func 124) #[] #[]] 74)) (zM q.Z (.cells #[.func (.func 124) #[] #[]] 74)) ((n.Z.step (xS (zM bR (.cells #[.func (.func 124) #[] #[]] 74)))).cons (p:=vT D 124) (Blk.new D _ _) (vT.kept (oh g)));have g:Hd (w.heap.size<(D.alloc (.cells #[.func (.func 124) #[] #[]] 74)).heap.size):=Jh (oS g.Z)
 go_wp2_with (first
  | (refine YH _ rfl _ _ _ rfl _ _ _ _ _ rfl s.Z (by unfold maxLen;omega) rfl rfl (by unfold maxLen;decide) ?_;intro v m f;(try simp [Act.eval,go_sem] at m);have s:=Jh m;have q:=Jh (q.Z.grown f (Nat.le_of_lt g.Z) (fun b hb=>by cases hb;exact nI));have n:=Jh (n.Z.step f);have g:=Jh (Yb g.Z f.size);clear m f))
 go_ret;have hL:=n.Z;have hL:=n.Z;have d1:kV x (x.heap.size+1) g1 4 xQ false v:=(hL _ (.tail _ (.tail _ (.tail _ (.tail _ (.tail _ (.tail _ (.head _)))))))).1;have d2:kV y (y.heap.size+1) g2 4 xQ true v:=(hL _ (.tail _ (.tail _ (.tail _ (.tail _ (.tail _ (.head _))))))).1;have d3:kV z (z.heap.size+1) g3 1 xP false v:=(hL _ (.tail _ (.tail _ (.tail _ (.tail _ (.head _)))))).1;have d4:kV A (A.heap.size+1) g4 1 xP true v:=(hL _ (.tail _ (.tail _ (.tail _ (.head _))))).1;have T:vT B 122 v:=(hL _ (.tail _ (.tail _ (.head _)))).1;have U:vT C 123 v:=(hL _ (.tail _ (.head _))).1;have V:vT D 124 v:=(hL _ (.head _)).1;have hv:VS v w 15 (Bd x (x.heap.size+1) y.heap.size (y.heap.size+1) z.heap.size (z.heap.size+1) A.heap.size (A.heap.size+1) B.heap.size C D):=s.Z;have hb:=q.Z;clear hL n s q;exact ⟨x.heap.size,x.heap.size+1,g1,y.heap.size,y.heap.size+1,g2,z.heap.size,z.heap.size+1,g3,A.heap.size,A.heap.size+1,g4,B.heap.size,C.heap.size,D.heap.size,rfl,hv,d1,d2,d3,d4,T,U,V,hb⟩
end
section
open Go.RowKit Tq Go.Proofs.Tryz
variable {e : Ending} {l : List UInt8} {w w' : World} {xs : List Int}
structure Ji where
 k1:Nat
 a1:Nat
 g1:Nat
 k2:Nat
 a2:Nat
 g2:Nat
 k3:Nat
 a3:Nat
 g3:Nat
 k4:Nat
 a4:Nat
 g4:Nat
 b1:Nat
 b2:Nat
 b3:Nat
def Ji.S (x:Ji):List UInt8->Option Value:=Bd x.k1 x.a1 x.k2 x.a2 x.k3 x.a3 x.k4 x.a4 x.b1 x.b2 x.b3
structure IW (x:Ji) (w:World):Prop where
 d1:kV x.k1 x.a1 x.g1 4 xQ false w
 d2:kV x.k2 x.a2 x.g2 4 xQ true w
 d3:kV x.k3 x.a3 x.g3 1 xP false w
 d4:kV x.k4 x.a4 x.g4 1 xP true w
 c1:vT x.b1 122 w
 c2:vT x.b2 123 w
 c3:vT x.b3 124 w
theorem Gb (w:World):Calls prog 74 #[] w fun e w'=> ∃x:Ji,e= .returned (.map (some w.heap.size))/\VS w' w 15 x.S/\IW x w'/\Below w w w':=by
 refine (BJ w).mono ?_;rintro e w' ⟨k1,a1,g1,k2,a2,g2,k3,a3,g3,k4,a4,g4,b1,b2,b3,h1,h2,h3,h4,f,g,m,n,q,b⟩;exact ⟨⟨k1,a1,g1,k2,a2,g2,k3,a3,g3,k4,a4,g4,b1,b2,b3⟩,h1,h2,⟨h3,h4,f,g,m,n,q⟩,b⟩
def uU (s:ByteArray):List ByteArray:=Lib.splitB ⟨#[32]⟩ 0 (min 4 (s.size+1) - 1) s
theorem eF (s:ByteArray):1<=(uU s).length/\(uU s).length<=min 4 (s.size+1):=by
 unfold uU;have h1:=Lib.splitB_length_le ⟨#[32]⟩ 0 (min 4 (s.size+1) - 1) s;constructor;cases min 4 (s.size+1) - 1 with
 | zero=>simp [Lib.splitB]
 | succ k=>unfold Lib.splitB;split <;>simp
 omega
theorem uo.shape (h:uo w l xs e w'): ∃v f,e= .returned (.tuple #[v, .bool f]):=by
 cases h with
 | flat h=>obtain ⟨a,n,c,he,_⟩:=h;exact ⟨_,_,he⟩
 | ramp h=>obtain ⟨a,n,c,he,_⟩:=h;exact ⟨_,_,he⟩
 | bayer h=>obtain ⟨b,a,n,c,he,_⟩:=h;exact ⟨_,_,he⟩
 | spiral h=>obtain ⟨b,a,n,c,he,_⟩:=h;exact ⟨_,_,he⟩
 | spot h=>obtain ⟨b,a,n,c,he,_⟩:=h;exact ⟨_,_,he⟩
 | rank h=>obtain ⟨b,a,n,c,he,_⟩:=h;exact ⟨_,_,he⟩
 | shift h=>exact ⟨_,_,rfl⟩
 | level=>exact ⟨_,_,rfl⟩
 | none h=>exact ⟨_,_,rfl⟩
theorem GN (s:ByteArray) (a b:Nat):(s.extract a b).size<=s.size:=by
 rw [ByteArray.size_extract];omega
theorem Dy (b:ByteArray): ∀(k:Nat) (s:ByteArray) (t:ByteArray),t ∈ Lib.splitB b 0 k s->t.size<=s.size
 | 0,s,t,h=>by simp [Lib.splitB] at h;rw [h];exact nI
 | k+1,s,t,h=>by
  unfold Lib.splitB at h;split at h;simp at h;rw [h];exact nI;rcases List.mem_cons.1 h with rfl | h
  exact GN _ _ _;exact Yx (Dy b k _ t h) (GN _ _ _)
theorem zCQ (w:World) (b:List ByteArray) (N T:Nat):RdS (w.alloc (.cells (Lib.cellsOf b N) T)) ↑w b:=by
 intro k hk;refine ⟨w.heap.size,0,rfl,sI,?_⟩;have h:=(Blk.new w T (Lib.cellsOf b N)).cell k;rw [Nat.zero_add,h];simp only [Lib.cellsOf,Yi];rw [List.getElem?_append_left (by simpa using hk)];simp [hk]
theorem RdS.tail {w:World} {b:Nat} {g:List ByteArray} (h:RdS w ↑b g):RdS w (some ↑(b,1)) g.tail:=by
 intro k hk;have f:k+1<g.length:=by simp at hk;omega
 obtain ⟨m,off,he,hl,hc⟩:=h (k+1) f;obtain ⟨rfl,rfl⟩:b=m/\0=off:=by simpa using he
 refine ⟨b,1,rfl,hl,?_⟩;rw [show 1+k=0+(k+1) by omega,hc];simp
def zCj (s:ByteArray) (w:World) (e:Ending) (w':World):Prop:=
 Below w w w'/\ ∃x:Ji,((∃v,x.S s.data.toList=some v/\e= .returned (.tuple #[v, .bool true])/\IW x w')\/
  (x.S s.data.toList=none/\((uS (yC (uU s).tail)=none/\ ∃v,e= .returned (.tuple #[v, .bool false]))\/
   ∃xs w1,uS (yC (uU s).tail)=some xs/\(∀x,x ∈ xs->yg x)/\Below w w w1/\uo w1 ((uU s).getD 0 ByteArray.empty).toList xs e w')))
set_option maxRecDepth 100000 in
theorem Ir (s:ByteArray) (w:World) (hs:s.size<=1048576) (hL:qZ w):Calls prog 29 #[.string s] w (zCj s w):=by
 have P:=Jh hL;clear hL;go_in;go_wp2_with fail;refine (Gb _).mono ?_;rintro e w1 ⟨x,rfl,hv,hx,hb⟩;obtain ⟨J,HX,HV⟩:=JF hb hx hv;clear hb hx hv;have D:=HV.Z.look s (by unfold maxLen;omega);cases hS:x.S s.data.toList with
 | some v=>
  rw [hS] at D;simp only [Yz,Option.isSome_some] at D
  go_wp2
  go_ret2;exact ⟨J.Z,x, .inl ⟨v,hS,rfl,HX.Z⟩⟩
 | none=>
  rw [hS] at D;simp only [Option.getD_none,Option.isSome_none] at D;go_wp2_with fail;obtain ⟨m,hm⟩:=(P.Z.below J.Z).max;have U:=eF s;refine (Tryz.strings_SplitN s ⟨#[32]⟩ 4 m w1 om hm dC om om).mono ?_;rintro e w2 ⟨rfl,F⟩;obtain ⟨N,hN⟩:=zN (min 4 (s.size+1));obtain ⟨G,g⟩:=zN (uU s);have b1:(Lib.splitB ⟨#[32]⟩ 0 (min 4 (s.size+1) - 1) s)=G:=g.symm;rw [b1] at F⊢;rw [<-g,<-hN] at U;rw [<-hN] at F⊢;have HR:Hd (RdS w2 ↑w1 G):=Jh (by rw [F];exact zCQ _ _ _ _);have b0:Hd (∀t,t ∈ G->t.size<=1048576):=Jh (fun t X=>Yx (Dy _ _ _ _ (by rw [g] at X;exact X)) hs);have I:Hd (Below w w w2):=Jh (by rw [F];exact zM J.Z _);have A:=Jh g;have b6:N<=4:=om;obtain ⟨L,hL⟩:=zN G.length;rw [<-hL] at U⊢;obtain ⟨b7,b8⟩:=U;have u:=Jh hL;clear F D hm hN b1 g hL;by_cases b3:N=1
  case pos=>
   have b2:L=1:=om;subst b3 b2;have HT:Hd (RdS w2 ↑w1 G.tail):=Jh (fun k hk=>by simp at hk;have:=u.Z;omega);go_wp2_with fail;refine (Uo _ _ _ G.tail _ (by simp;have:=u.Z;omega) (HT.Z) om (fun t X=>b0.Z t (List.mem_of_mem_tail X)) (P.Z.below I.Z)).mono ?_;rintro e V ⟨y,E⟩;have q:=Jh (zL I.Z y);have R:=Jh (HR.Z.below y);clear y;rcases E with ⟨T,v,rfl⟩ | ⟨xs,na,nn,nc,n,rfl,ho,hi⟩
   . go_wp2
     go_ret2;exact ⟨q.Z,x, .inr ⟨hS, .inl ⟨by rw [<-A.Z];exact T,_,rfl⟩⟩⟩
   obtain ⟨wd,z⟩:=zN (G.getD 0 ByteArray.empty)
   have b4:V.cell? w1=some (.string wd):=by
    obtain ⟨b',off,he,hl,hc⟩:=R.Z 0 (oh u);obtain ⟨rfl,rfl⟩:w1.heap.size=b'/\0=off:=by simpa using he
    rw [z,hc];simp [Yh,(show 0<G.length by have:=u.Z;omega)]
   obtain ⟨Y,HI,HY,B⟩:=JG ho hi n z;clear ho hi n z;go_wp2_with fail;refine (Wp wd na nn nc xs V Y.Z.len (Y.Z.rd)).mono ?_;intro e w4 b;have O:=Jh b;have C:=b.below;have M:=Jh (zL q.Z C);have f:=b.shape;obtain ⟨v,bo,rfl⟩:=f;clear b C
   go_wp2
   go_ret2;exact ⟨M.Z,x, .inr ⟨hS, .inr ⟨xs,V,by rw [<-A.Z];exact HY.Z,HI.Z,q.Z,by rw [<-A.Z,<-B.Z];exact O.Z⟩⟩⟩
  have b5:2<=N:=om;go_wp2_with fail;refine (Uo _ _ _ G.tail _ (by simp;have:=u.Z;omega) (HR.Z.tail) om (fun t X=>b0.Z t (List.mem_of_mem_tail X)) (P.Z.below I.Z)).mono ?_;rintro e V ⟨y,E⟩;have q:=Jh (zL I.Z y);have R:=Jh (HR.Z.below y);clear y;rcases E with ⟨T,v,rfl⟩ | ⟨xs,na,nn,nc,n,rfl,ho,hi⟩
  . go_wp2
    go_ret2;exact ⟨q.Z,x, .inr ⟨hS, .inl ⟨by rw [<-A.Z];exact T,_,rfl⟩⟩⟩
  obtain ⟨wd,z⟩:=zN (G.getD 0 ByteArray.empty)
  have b4:V.cell? w1=some (.string wd):=by
   obtain ⟨b',off,he,hl,hc⟩:=R.Z 0 (oh u);obtain ⟨rfl,rfl⟩:w1.heap.size=b'/\0=off:=by simpa using he
   rw [z,hc];simp [Yh,(show 0<G.length by have:=u.Z;omega)]
  obtain ⟨Y,HI,HY,B⟩:=JG ho hi n z;clear ho hi n z;go_wp2_with fail;refine (Wp wd na nn nc xs V Y.Z.len (Y.Z.rd)).mono ?_;intro e w4 b;have O:=Jh b;have C:=b.below;have M:=Jh (zL q.Z C);have f:=b.shape;obtain ⟨v,bo,rfl⟩:=f;clear b C
  go_wp2
  go_ret2;exact ⟨M.Z,x, .inr ⟨hS, .inr ⟨xs,V,by rw [<-A.Z];exact HY.Z,HI.Z,q.Z,by rw [<-A.Z,<-B.Z];exact O.Z⟩⟩⟩
def xY (s:ByteArray):Nat->List ByteArray × Nat
 | 0=>([],0)
 | k+1=>if (s.get! k).toNat=32 then ((xY s k).1++ [s.extract (xY s k).2 k],k+1) else xY s k
theorem Vl (s:ByteArray) (k:Nat):xY s (k+1)=if (s.get! k).toNat=32 then ((xY s k).1++ [s.extract (xY s k).2 k],k+1) else xY s k:=rfl
theorem Je (s:ByteArray): ∀k,(xY s k).2<=k
 | 0=>nI
 | k+1=>by
  unfold xY;split;exact nI;exact Nat.le_succ_of_le (Je s k)
theorem Ub (s:ByteArray): ∀k,(xY s k).1.length<=k
 | 0=>nI
 | k+1=>by
  have:=Ub s k;unfold xY;split;simp only [Yn,List.length_singleton];omega;omega
theorem Vk (s:ByteArray): ∀k l,l ∈ (xY s k).1->l.size<=s.size
 | 0,l,h=>by simp [xY] at h
 | k+1,l,h=>by
  unfold xY at h;split at h;rcases List.mem_append.1 h with h | h
  exact Vk s k l h;rw [List.mem_singleton.1 h,ByteArray.size_extract];omega;exact Vk s k l h
def yS (s:ByteArray):List ByteArray:=(xY s s.size).1++ [s.extract (xY s s.size).2 s.size]
theorem WA (s l:ByteArray) (h:l ∈ yS s):l.size<=s.size:=by
 rcases List.mem_append.1 h with h | h
 exact Vk s _ l h;rw [List.mem_singleton.1 h,ByteArray.size_extract];omega
theorem Xy (s:ByteArray):1<=(yS s).length/\(yS s).length<=s.size+1:=by
 have:=Ub s s.size;unfold yS;rw [Yn,List.length_singleton];omega
def jN:List UInt8->List (List UInt8)
 | []=> [[]]
 | c::r=>if c.toNat=32 then []::jN r else match jN r with
  | []=> [[c]]
  | h::t=>(c::h)::t
theorem Cr: ∀l,jN l≠ []
 | []=>by simp [jN]
 | c::r=>by
  unfold jN;split;simp;split <;>simp
theorem XY: ∀ {l:List UInt8},(∀c,c ∈ l->c.toNat≠32)->jN l=[l]
 | [],_=>rfl
 | c::r,h=>by
  unfold jN;rw [if_neg (h c sI),XY (fun d hd=>h d (by simp [hd]))]
theorem Ib: ∀ {a r:List UInt8} {c:UInt8},(∀d,d ∈ a->d.toNat≠32)->c.toNat=32->jN (a++c::r)=a::jN r
 | [],r,c,_,hc=>by show jN (c::r)=_;rw [jN,if_pos hc]
 | d::a,r,c,h,hc=>by
  rw [List.cons_append,jN,if_neg (h d sI),Ib (fun e he=>h e (by simp [he])) hc]
theorem VN (s:ByteArray) (k:Nat) (h:k<s.size):s.data.toList[k]? =some (s.get! k):=by
 rcases s with ⟨b⟩
 have h2:k<b.size:=h;show b.toList[k]? =some (b[k]!);rw [Array.getElem?_toList,Array.getElem?_eq_getElem h2,getElem!_pos b k h2]
theorem VI (s:ByteArray) (a b:Nat):(s.extract a b).data.toList=(s.data.toList.take b).drop a:=by
 rw [Lib.extract_data,List.drop_take]
theorem EI (s:ByteArray): ∀k,k<=s.size->jN s.data.toList=yC (xY s k).1++jN (s.data.toList.drop (xY s k).2)/\ ∀i,(xY s k).2<=i->i<k->(s.get! i).toNat≠32
 | 0,_=>⟨by simp [xY,yC],fun i _ h=>om⟩
 | k+1,hk=>by
  obtain ⟨f,no⟩:=EI s k om;have m:=Je s k;rw [Vl];by_cases hc:(s.get! k).toNat=32
  rw [if_pos hc];refine ⟨?_,fun i h1 h2=>by dsimp only at h1;omega⟩;dsimp only;rw [f]
  have e:s.data.toList.drop (xY s k).2=(s.data.toList.take k).drop (xY s k).2++s.get! k::s.data.toList.drop (k+1):=by
   have hl:s.data.toList.length=s.size:=sI
   have h1:s.data.toList=s.data.toList.take k++s.get! k::s.data.toList.drop (k+1):=by
    have b:k<s.data.toList.length:=om;have hg:=VN s k om;rw [Ya b] at hg;rw [<-Yd hg,List.getElem_cons_drop,List.take_append_drop]
   conv=>lhs;rw [h1]
   rw [List.drop_append_of_le_length (by rw [Yj];omega)]
  have g:yC ((xY s k).1++ [s.extract (xY s k).2 k])=yC (xY s k).1++ [(s.data.toList.take k).drop (xY s k).2]:=by
   rw [<-VI];simp [yC]
  rw [e,Ib _ hc,g,List.append_assoc];rfl;intro d hd;obtain ⟨i,hi,rfl⟩:=List.getElem_of_mem hd;have hl:s.data.toList.length=s.size:=sI;rw [List.length_drop,Yj] at hi;rw [List.getElem_drop,List.getElem_take];have hg:=VN s ((xY s k).2+i) om;rw [Ya om] at hg;rw [Yd hg];exact no _ om om;rw [if_neg hc];refine ⟨f,fun i h1 h2=>?_⟩;by_cases e:i=k
  rw [e];exact hc;exact no i h1 om
theorem Xx (s:ByteArray):yC (yS s)=jN s.data.toList:=by
 obtain ⟨h,no⟩:=EI s s.size nI;have hl:s.data.toList.length=s.size:=sI;rw [h]
 have b:yC (yS s)=yC (xY s s.size).1++ [s.data.toList.drop (xY s s.size).2]:=by
  have f:(s.extract (xY s s.size).2 s.size).data.toList=s.data.toList.drop (xY s s.size).2:=by
   rw [VI];congr 1;rw [<-hl,List.take_length]
  rw [<-f];simp [yC,yS]
 rw [b];congr 1;rw [XY];intro d hd;obtain ⟨i,hi,rfl⟩:=List.getElem_of_mem hd;rw [List.length_drop] at hi;rw [List.getElem_drop];have hg:=VN s ((xY s s.size).2+i) om;rw [Ya om] at hg;rw [Yd hg];exact no _ om om
theorem IL: ∀ {a b:List ByteArray},yC a=yC b->a=b
 | [],[],_=>rfl
 | [],y::b,h=>by simp [yC] at h
 | x::a,[],h=>by simp [yC] at h
 | x::a,y::b,h=>by
  simp only [yC,List.map_cons,List.cons.injEq] at h;rw [IL (a:=a) (b:=b) (by simpa [yC] using h.2)];congr 1;exact ByteArray.ext (Array.toList_inj.1 h.1)
theorem Qp: ∀(k:Nat) (s:ByteArray),(yC (Lib.splitB ⟨#[32]⟩ 0 k s)=jN s.data.toList/\(jN s.data.toList).length<=k+1)\/
 (k+1<(jN s.data.toList).length/\ ∃x,yC (Lib.splitB ⟨#[32]⟩ 0 k s)=(jN s.data.toList).take k++ [x]/\ ∃c,c ∈ x/\c.toNat=32)
 | 0,s=>by
  rw [Lib.splitB_zero];by_cases h: ∃c,c ∈ s.data.toList/\c.toNat=32
  obtain ⟨c,hc,g⟩:=h;refine .inr ⟨?_,s.data.toList,by simp [yC],c,hc,g⟩;obtain ⟨a,r,e⟩:=List.append_of_mem hc
  have hp: ∀(a:List UInt8),1<(jN (a++c::r)).length:=by
   intro a
   induction a with
   | nil=>
    show 1<(jN (c::r)).length;rw [jN,if_pos g,List.length_cons];have:=List.length_pos_iff.2 (Cr r);omega
   | cons d a b=>
    rw [List.cons_append,jN];split;rw [List.length_cons];omega;split;rename_i n;rw [n] at b;simp at b;rename_i n;rw [n] at b;simpa using b
  rw [e];have:=hp a;omega;refine .inl ⟨?_,?_⟩;rw [XY (fun c hc e=>h ⟨c,hc,e⟩)];simp [yC];rw [XY (fun c hc e=>h ⟨c,hc,e⟩)];simp
 | k+1,s=>by
  rcases Lib.indexB_cases s ⟨#[32]⟩ with h | ⟨i,h,hi⟩
  have h2:Lib.indexByte s.data.toList 32=-1:=by rw [<-Lib.index_one];exact h
  have no:=Lib.indexByte_none h2
  have f: ∀c,c ∈ s.data.toList->c.toNat≠32:=by
   intro c hc e;obtain ⟨j,t⟩:=List.mem_iff_getElem?.1 hc;refine no j ?_;rw [t];congr 1;exact UInt8.toNat_inj.1 e
  rw [Lib.splitB_miss _ _ _ _ h,XY f];exact .inl ⟨by simp [yC],sI⟩;have h2:Lib.indexByte s.data.toList 32=i:=by rw [<-Lib.index_one];exact h
  obtain ⟨m,no⟩:=Lib.indexByte_some h2;rw [Lib.splitB_hit _ _ _ _ i h];have hl:s.data.toList.length=s.size:=sI;have q:i<s.data.toList.length:=(List.getElem?_eq_some_iff.1 m).1
  have e:s.data.toList=s.data.toList.take i++(32:UInt8)::s.data.toList.drop (i+1):=by
   have hg:=m;rw [Ya q] at hg;rw [<-Yd hg,List.getElem_cons_drop,List.take_append_drop]
  have f: ∀d,d ∈ s.data.toList.take i->d.toNat≠32:=by
   intro d hd e;obtain ⟨j,t,rfl⟩:=List.getElem_of_mem hd;rw [Yj] at t;rw [List.getElem_take] at e;refine no j om ?_;rw [Ya om];congr 1;exact UInt8.toNat_inj.1 e
  have u:(s.extract 0 (i+0)).data.toList=s.data.toList.take i:=by rw [VI];simp
  have v:(s.extract (i+(⟨#[32]⟩:ByteArray).size) s.size).data.toList=s.data.toList.drop (i+1):=by
   rw [VI,<-hl,List.take_length];rfl
  have y:jN s.data.toList=s.data.toList.take i::jN (s.data.toList.drop (i+1)):=by
   conv=>lhs;rw [e]
   exact Ib f rfl
  have b:=Qp k (s.extract (i+(⟨#[32]⟩:ByteArray).size) s.size);rw [v] at b;rw [yC,List.map_cons,u,y];rcases b with ⟨h1,h3⟩ | ⟨h1,x,h3,h4⟩
  refine .inl ⟨?_,by rw [List.length_cons];omega⟩;rw [<-h1];rfl;refine .inr ⟨by rw [List.length_cons];omega,x,?_,h4⟩;rw [List.take_succ_cons,List.cons_append,<-h3];rfl
end
section
variable {H W : Int} {c : UInt8} {h i j k w : Nat} {l : List UInt8} {xs : List Int}
open Tq Go.Proofs.Tryz
def QI (v:Int):UInt8:=if v=1 then 35 else 46
def XC (w:Nat) (xs:List Int) (j:Nat):UInt8:=if j % (w+1)=w then 10 else QI (xs.getD (j/(w+1)*w+j % (w+1)) 0)
def vI (w h:Nat) (xs:List Int):List UInt8:=(List.range ((w+1)*h)).map (XC w xs)
theorem CZ (w h:Nat) (xs:List Int):(vI w h xs).length=(w+1)*h:=by simp [vI]
theorem Qt (b:j<(w+1)*h):(vI w h xs)[j]? =some (XC w xs j):=by
 simp [vI,b]
theorem Vw (hw:0<w):i=w*(i/w)+i % w/\i % w<w:=⟨(Nat.div_add_mod i w).symm,Nat.mod_lt _ hw⟩
theorem zAz (hw:0<w):XC w xs (i+i/w)=QI (xs.getD i 0):=by
 obtain ⟨h1,h2⟩:=Vw (i:=i) hw;have e:i+i/w=(w+1)*(i/w)+i % w:=by rw [Nat.add_mul];omega
 unfold XC;rw [e,Nat.mul_add_mod,Nat.mod_eq_of_lt (by omega:i % w<w+1),Nat.mul_add_div om,Nat.div_eq_of_lt (by omega:i % w<w+1),if_neg om,Yy,Nat.mul_comm,<-h1]
theorem zCa (hw:0<w) (hi:i % w=w - 1):XC w xs (i+i/w+1)=10:=by
 obtain ⟨h1,h2⟩:=Vw (i:=i) hw;have e:i+i/w+1=(w+1)*(i/w)+w:=by rw [Nat.add_mul];omega
 unfold XC;rw [e,Nat.mul_add_mod,Nat.mod_eq_of_lt (by omega:w<w+1),if_pos rfl]
theorem zAe (hw:0<w):(i % w=w - 1->(i+1)/w=i/w+1)/\(¬i % w=w - 1->(i+1)/w=i/w):=by
 obtain ⟨h1,h2⟩:=Vw (i:=i) hw;constructor;intro h;have e:i+1=w*(i/w+1):=by rw [Nat.mul_succ];omega
 rw [e,Nat.mul_div_cancel_left _ hw];intro h;have e:i+1=w*(i/w)+(i % w+1):=om;rw [e,Nat.mul_add_div hw,Nat.div_eq_of_lt (by omega:i % w+1<w),Yy]
theorem nK (hw:0<w) (hi:i<w*h):i/w<h/\i+i/w<(w+1)*h/\(i % w=w - 1->i+i/w+1<(w+1)*h):=by
 obtain ⟨h1,h2⟩:=Vw (i:=i) hw;have hd:i/w<h:=by rw [Nat.div_lt_iff_lt_mul hw,Nat.mul_comm];exact hi
 have hm:(w+1)*(i/w+1)<=(w+1)*h:=Nat.mul_le_mul_left _ hd;rw [Nat.mul_succ,Nat.add_mul w 1 (i/w)] at hm;exact ⟨hd,om,fun _=>om⟩
def XD (w h:Nat) (xs:List Int) (i:Nat):List UInt8:=(vI w h xs).take (i+i/w)
theorem Zc (h:l[k]? =some c):l.take (k+1)=l.take k++ [c]:=by
 have hk:=(List.getElem?_eq_some_iff.1 h).1;rw [Ym hk];rw [Ya hk] at h;rw [Yd h]
theorem Tm (hw:0<w) (hi:i<w*h):
 XD w h xs (i+1)=XD w h xs i++(if i % w=w - 1 then [QI (xs.getD i 0),10] else [QI (xs.getD i 0)]):=by
 obtain ⟨b1,b2,b3⟩:=nK hw hi;obtain ⟨n1,n2⟩:=zAe (i:=i) hw;have hd:=Qt (xs:=xs) b2;rw [zAz hw] at hd;unfold XD;by_cases e:i % w=w - 1
 have hn:=Qt (xs:=xs) (b3 e);rw [zCa hw e] at hn;rw [if_pos e,n1 e,show i+1+(i/w+1)=i+i/w+1+1 by omega,Zc hn,Zc hd];simp;rw [if_neg e,n2 e,show i+1+i/w=i+i/w+1 by omega,Zc hd]
theorem Tn (w h:Nat) (xs:List Int):XD w h xs 0=[]:=by simp [XD]
theorem dw (hw:0<w):XD w h xs (w*h)=vI w h xs:=by
 unfold XD;rw [Nat.mul_div_cancel_left _ hw,Yk];rw [CZ,Nat.add_mul];omega
theorem Hg (h:zT W H xs 1=true): ∃w h:Nat,W=(w:Int)/\H=(h:Int)/\1<=w/\w<=64/\1<=h/\h<=64/\w*h<=1024/\xs.length=w*h/\yV W H=true/\ ∀k,k<xs.length->xs.getD k 0=0\/xs.getD k 0=1:=by
 obtain ⟨h1,h2,h3⟩:=yu rfl h;obtain ⟨b1,b2,b3,b,f,g⟩:=yP h1;refine ⟨W.toNat,H.toNat,om,om,om,om,om,om,?_,?_,h1,fun k hk=>?_⟩;have e:((W.toNat*H.toNat:Nat):Int)=W*H:=by rw [Int.natCast_mul,Int.toNat_of_nonneg om,Int.toNat_of_nonneg om]
 omega;have e:((W.toNat*H.toNat:Nat):Int)=W*H:=by rw [Int.natCast_mul,Int.toNat_of_nonneg om,Int.toNat_of_nonneg om]
 omega;have:=jY h3 k hk;simp only [Yh];omega
end
section
open Go.RowKit Tq Go.Proofs.Tryz
def uN (W H:Int) (xs:List Int):List UInt8:=if zT W H xs 1=true then vI W.toNat H.toNat xs else []
theorem CX (l:List UInt8) (b:UInt8):(⟨l.toArray⟩:ByteArray)++(⟨#[b]⟩:ByteArray)=⟨(l++ [b]).toArray⟩:=by
 apply ByteArray.ext;simp
set_option maxRecDepth 100000 in
theorem RO (W H:Int) (t:Option Addr) (n g:Nat) (xs:List Int) (w:World) (hn:xs.length=n) (ha:Rd w t xs) (hl:n<=↑Zn):
 Calls prog 93 #[.agg #[W,H, .slice t n g]] w (zR (.string ⟨(uN W H xs).toArray⟩) w):=by
 have E:=Jh hn;have HA:=Jh ha;by_cases hp:zT W H xs 1=true
 case neg=>
  have N:uN W H xs=[]:=by unfold uN;rw [if_neg hp]
  rw [N];have L:zT W H xs 1=false:=by simpa using hp
  have U:=Jh L;clear hp L N hn ha;go_in;go_wp2_with fail;refine (jl W H t n g xs _ E.Z (by exact HA.Z.alloc _) hl).mono ?_;rw [U.Z];rintro e w1 ⟨rfl,hb⟩;have O:=Jh (zL (Joins.below_alloc1 w (.cells #[W,H, .slice t n g] 31)) hb);clear hb
  go_wp2
  go_ret;exact ⟨rfl,O.Z⟩
 obtain ⟨w0,m,N,e2,b1,b2,b3,b4,b5,z,hs,M⟩:=Hg hp;subst N e2;have J:n=w0*m:=by rw [<-hn];exact z
 have c4:n<=1024:=om;have C:=Jh J;clear J;have e3:uN (w0:Int) (m:Int) xs=vI w0 m xs:=by unfold uN;rw [if_pos hp];rfl
 rw [e3];obtain ⟨HP,HX,F,A⟩:=JG hp M (Blk.new w 31 #[w0,m, .slice t n g]) (ha.alloc (.cells #[w0,m, .slice t n g] 31));clear hp M e3 ha hs z;go_in;go_wp2_with fail;refine (jl w0 m t n g xs _ E.Z (by exact A.Z) hl).mono ?_;rw [HP.Z];rintro e w1 ⟨rfl,hb⟩;obtain ⟨KP,D,O⟩:=JF (F.Z.zA hb) (A.Z.below hb) (zL (Joins.below_alloc1 w (.cells #[w0,m, .slice t n g] 31)) hb);clear hb F A;obtain ⟨lp,p0,p1,p2⟩:=KP.Z.c3;go_wp2_with fail;have X:Hd (∀k,k<n->xs.getD k 0=0\/xs.getD k 0=1):=Jh (fun k hk=>HX.Z k (oh E))
 obtain ⟨bA,oA,b0,b6⟩: ∃b off,t=some ⟨b,off,none⟩/\b<w1.heap.size:=by
  obtain ⟨b,off,h1,h2,_⟩:=D.Z 0 (zC E.Z C.Z (Nat.mul_pos b1 b3));exact ⟨b,off,h1,h2⟩
 subst b0
 have B:Hd (∀k,k<n->w1.cell? ⟨bA,oA+k,none⟩=some (.int .i64 (xs.getD k 0))):=Jh (fun k hk=>by
  obtain ⟨b,off,h1,_,h3⟩:=D.Z k (oh E);have e:=Yd h1;simp only [Addr.mk.injEq] at e;obtain ⟨rfl,rfl,_⟩:=e
  exact h3)
 go_loopw [3,12] (fun s i wr=> ∃k:Nat,k<=n/\i= .int .i64 k/\s= .string ⟨(XD w0 m xs k).toArray⟩/\Hd (Below w1 w1 wr)) (fun _ i _=>n - (intOf i).toNat)
 exact ⟨0,nZ,rfl,by rw [Tn],Jh bR⟩;obtain ⟨k,hk,rfl,rfl,f⟩:=hrel;obtain ⟨T,hT⟩: ∃l,XD w0 m xs k=l:=⟨_,rfl⟩
 have V:=Jh hT;rw [hT];clear hT;have Y:=Jh (KP.Z.zA f.Z);have P:=Jh (zL O.Z f.Z);clear lp p0 p1 p2;obtain ⟨lp,p0,p1,p2⟩:=Y.Z.c3;by_cases I:k<n
 . have c0:wr.cell? ⟨bA,oA+k,none⟩=some (.int .i64 (xs.getD k 0)):=(f.Z.cell (by exact b6)).trans (B.Z k I)
   have y:=Tm (w:=w0) (h:=m) (xs:=xs) (i:=k) om (oh C);rw [V.Z] at y;have hd:=X.Z k I;obtain ⟨x,M⟩: ∃v,xs.getD k 0=v:=⟨_,rfl⟩
   rw [M] at c0 y hd;have q:=Jh y;clear M y
   have b8:T.length<=4096:=by
    rw [<-V.Z];unfold XD;rw [Yj];have:=Nat.div_le_self k w0;omega
   obtain ⟨R,hR⟩: ∃r:Int,(k:Int).tmod (w0:Int)=r:=⟨_,rfl⟩
   obtain ⟨Q,hQ⟩: ∃r:Int,(w0:Int) - 1=r:=⟨_,rfl⟩
   have c1:R=((k % w0:Nat):Int):=by rw [<-hR,Yl om];simp
   have wQ:IntKind.i64.wrap ((w0:Int) - 1)=Q:=by rw [hQ];exact Yc _ om
   have c5:IntKind.i64.wrap Q=Q:=Yc _ om;have R0:0<=R:=om
   have R1:R<=4096:=by
    have:=Nat.mod_lt k (show 0<w0 by omega);omega
   have wR:IntKind.i64.wrap R=R:=Yc _ om;have hz: ¬(w0:Int)=0:=om;by_cases u:k % w0=w0 - 1
   . have b7:(R==Q)=true:=sO
     rcases hd with rfl | rfl
     . go_wp2_with fail
       go_quiet (fail)
       go_wp2
       go_roundw
       . exact ⟨k+1,om,by go_num,by rw [q.Z];simp [CX,QI,u],by first | exact f | exact Jh ⟨f.Z.os,f.Z.tape,f.Z.output,f.Z.size,f.Z.block⟩⟩
       exact Jm
     go_wp2_with fail
     go_quiet (fail)
     go_wp2
     go_roundw
     . exact ⟨k+1,om,by go_num,by rw [q.Z];simp [CX,QI,u],by first | exact f | exact Jh ⟨f.Z.os,f.Z.tape,f.Z.output,f.Z.size,f.Z.block⟩⟩
     exact Jm
   have b7:(R==Q)=false:=sO;rcases hd with rfl | rfl
   . go_wp2_with fail
     go_quiet (fail)
     go_wp2
     go_roundw
     . exact ⟨k+1,om,by go_num,by rw [q.Z];simp [CX,QI,u],by first | exact f | exact Jh ⟨f.Z.os,f.Z.tape,f.Z.output,f.Z.size,f.Z.block⟩⟩
     exact Jm
   go_wp2_with fail
   go_quiet (fail)
   go_wp2
   go_roundw
   . exact ⟨k+1,om,by go_num,by rw [q.Z];simp [CX,QI,u],by first | exact f | exact Jh ⟨f.Z.os,f.Z.tape,f.Z.output,f.Z.size,f.Z.block⟩⟩
   exact Jm
 obtain rfl:k=n:=om;have G:T=vI w0 m xs:=by rw [<-V.Z,C.Z];exact dw om
 subst G
 go_wp2
 go_ret;exact ⟨rfl,P.Z⟩
end
end Go.Proofs.YtlenfgdjdianiaaGreatDoor
