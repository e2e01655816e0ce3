/- Facts on which this claim rests, 32. -/
import Derived.Test.YtlenfgdjdianiaaGreatDoorF31
set_option linter.all false
set_option maxHeartbeats 6400000
namespace Go.Proofs.YtlenfgdjdianiaaGreatDoor
section
open Go.RowKit Tq Go.Proofs.Tryz
open Go.ChangeMaps Go.MapKept Go.WideMaps
variable {Q : Exit → Act → World → Prop} {a : Act} {o : Oper} {ops : Array Oper}
open Go.MapKept Go.WideMaps in
theorem qA (w:World) {rest:List Oper}
 (hg:o.guard=none) (m x v:Operand) (hop:o.op=Op.insert 102 m x v)
 (b n:Nat) (S:List UInt8->Option Value) (s:ByteArray) (val:Value) (hm:a.eval m= .map (some b)) (hown:VS w b n S) (hn:n<maxLen) (hx:a.eval x= .string s) (hv:a.eval v=val) (hs:s.size<=maxLen)
 (hK: ∀w',VS w' b (n+1) (uU S s.data.toList val)->w.grownBy w' (some b)->wpList prog ops Q rest (a.put o.dst undef) w'):
 wpList prog ops Q (o::rest) a w:=by
 obtain ⟨D,h1,h2,h3⟩:=hown;refine wpList_plain hg fun K' hK'=>?_;obtain ⟨w',hrun,r1,r2⟩:=h2.update zCW underlying102 hn (keyOf_string_mk underlying9 hs) (val:=val) (d:= .held val) (ps:=[]) rfl;unfold Oper.wp;simp [execOp,hop,hm,hx,hv,hrun,Result.andThen];refine hK' _ _ (hK w' ⟨_,h1.put _ _,r1,?_⟩ r2);intro l zd;unfold uU;by_cases e:l=s.data.toList
 subst e;rw [Maps.atKey_put_same h1 (zCW.key (keyOf_string_mk underlying9 hs)),if_pos rfl];rw [Maps.atKey_put_other (fun hh=>e (by injection hh)),h3 l zd,if_neg e]
set_option maxRecDepth 100000 in
theorem Vk (w:World):
 Calls prog 74 #[] w fun e w'=> ∃k1 a1 g1 k2 a2 g2 k3 a3 g3 k4 a4 g4 b1 b2 b3:Nat,e= .returned (.map (some w))/\VS w' w 15 (Vx k1 a1 k2 a2 k3 a3 k4 a4 b1 b2 b3)/\
  xN k1 a1 g1 4 yk false w'/\xN k2 a2 g2 4 yk true w'/\xN k3 a3 g3 1 yj false w'/\xN k4 a4 g4 1 yj true w'/\
  ky b1 122 w'/\ky b2 123 w'/\ky b3 124 w'/\Below w w w':=by
 have t:=Jh (zQA w);have s:=Jh (zJ (Below.refl w w) (.map #[] 0));have q:Hd (Qd w.heap.size [] (w.alloc (.map #[] 0))):=Jh (fun p hp=>by cases hp);have g:Hd (w.heap.size<(w.alloc (.map #[] 0)).heap.size):=Jh sI;obtain ⟨mb,b0⟩:=zN w;go_in
 go_wp2_with (first
  | (refine zHZ _ rfl rfl ?_)
  | (refine qA _ rfl _ _ _ rfl _ _ _ _ _ rfl t.Z (by unfold maxLen;omega) rfl rfl (by unfold maxLen;decide) ?_;intro z m f;(try simp [Act.eval,go_sem] at m);have t:=Jh m;have s:=Jh (s.Z.grown f (Nat.le_of_lt g.Z) (fun b hb=>by cases hb;exact nI));have q:=Jh (q.Z.step f);have g:=Jh (Yb g.Z f.size);clear m f))
 refine (YT _).mono ?_;rintro e A ⟨g1,rfl,hg,hk,v⟩;have t:=Jh (t.Z.below v);have s:=Jh (zI s.Z v);have q:=Jh (q.Z.step (yl v));have R:Hd (g1≠w.heap.size):=Jh (oh g);have g:=Jh (Yb g.Z v.size);have M:=Jh hk;clear hg hk v;go_wp2_with fail;refine (vX _ _ _ _ _).mono ?_;rintro e u ⟨rfl,rfl⟩;have t:=Jh ((t.Z.alloc (.cells #[.slice ↑g1 4 4] 82)).alloc (.cells #[.bool false] 4));have s:=Jh (zJ (zJ s.Z (.cells #[.slice ↑g1 4 4] 82)) (.cells #[.bool false] 4));have q:=Jh ((q.Z.step (yl (zJ (zJ bR (.cells #[.slice ↑g1 4 4] 82)) (.cells #[.bool false] 4)))).cons (p:=xN A (A.heap.size+1) g1 4 yk false) ⟨(Blk.new A _ _).alloc _,Blk.zD _ _ sI,(M.Z.alloc _).alloc _⟩ (xN.kept (oh g) (oh g) R.Z));have g:Hd (w.heap.size<((A.alloc (.cells #[.slice ↑g1 4 4] 82)).alloc (.cells #[.bool false] 4)).heap.size):=Jh (oS g.Z)
 go_wp2_with (first
  | (refine qA _ rfl _ _ _ rfl _ _ _ _ _ rfl t.Z (by unfold maxLen;omega) rfl rfl (by unfold maxLen;decide) ?_;intro z m f;(try simp [Act.eval,go_sem] at m);have t:=Jh m;have s:=Jh (s.Z.grown f (Nat.le_of_lt g.Z) (fun b hb=>by cases hb;exact nI));have q:=Jh (q.Z.step f);have g:=Jh (Yb g.Z f.size);clear m f))
 refine (YT _).mono ?_;rintro e B ⟨g2,rfl,hg,hk,v⟩;have t:=Jh (t.Z.below v);have s:=Jh (zI s.Z v);have q:=Jh (q.Z.step (yl v));have T:Hd (g2≠w.heap.size):=Jh (oh g);have g:=Jh (Yb g.Z v.size);have N:=Jh hk;clear hg hk v;go_wp2_with fail;refine (vX _ _ _ _ _).mono ?_;rintro e u ⟨rfl,rfl⟩;have t:=Jh ((t.Z.alloc (.cells #[.slice ↑g2 4 4] 82)).alloc (.cells #[.bool true] 4));have s:=Jh (zJ (zJ s.Z (.cells #[.slice ↑g2 4 4] 82)) (.cells #[.bool true] 4));have q:=Jh ((q.Z.step (yl (zJ (zJ bR (.cells #[.slice ↑g2 4 4] 82)) (.cells #[.bool true] 4)))).cons (p:=xN B (B.heap.size+1) g2 4 yk true) ⟨(Blk.new B _ _).alloc _,Blk.zD _ _ sI,(N.Z.alloc _).alloc _⟩ (xN.kept (oh g) (oh g) T.Z));have g:Hd (w.heap.size<((B.alloc (.cells #[.slice ↑g2 4 4] 82)).alloc (.cells #[.bool true] 4)).heap.size):=Jh (oS g.Z)
 go_wp2_with (first
  | (refine qA _ rfl _ _ _ rfl _ _ _ _ _ rfl t.Z (by unfold maxLen;omega) rfl rfl (by unfold maxLen;decide) ?_;intro z m f;(try simp [Act.eval,go_sem] at m);have t:=Jh m;have s:=Jh (s.Z.grown f (Nat.le_of_lt g.Z) (fun b hb=>by cases hb;exact nI));have q:=Jh (q.Z.step f);have g:=Jh (Yb g.Z f.size);clear m f))
 refine (YR _).mono ?_;rintro e C ⟨g3,rfl,hg,hk,v⟩;have t:=Jh (t.Z.below v);have s:=Jh (zI s.Z v);have q:=Jh (q.Z.step (yl v));have U:Hd (g3≠w.heap.size):=Jh (oh g);have g:=Jh (Yb g.Z v.size);have O:=Jh hk;clear hg hk v;go_wp2_with fail;refine (vX _ _ _ _ _).mono ?_;rintro e u ⟨rfl,rfl⟩;have t:=Jh ((t.Z.alloc (.cells #[.slice ↑g3 1 1] 82)).alloc (.cells #[.bool false] 4));have s:=Jh (zJ (zJ s.Z (.cells #[.slice ↑g3 1 1] 82)) (.cells #[.bool false] 4));have q:=Jh ((q.Z.step (yl (zJ (zJ bR (.cells #[.slice ↑g3 1 1] 82)) (.cells #[.bool false] 4)))).cons (p:=xN C (C.heap.size+1) g3 1 yj false) ⟨(Blk.new C _ _).alloc _,Blk.zD _ _ sI,(O.Z.alloc _).alloc _⟩ (xN.kept (oh g) (oh g) U.Z));have g:Hd (w.heap.size<((C.alloc (.cells #[.slice ↑g3 1 1] 82)).alloc (.cells #[.bool false] 4)).heap.size):=Jh (oS g.Z)
 go_wp2_with (first
  | (refine qA _ rfl _ _ _ rfl _ _ _ _ _ rfl t.Z (by unfold maxLen;omega) rfl rfl (by unfold maxLen;decide) ?_;intro z m f;(try simp [Act.eval,go_sem] at m);have t:=Jh m;have s:=Jh (s.Z.grown f (Nat.le_of_lt g.Z) (fun b hb=>by cases hb;exact nI));have q:=Jh (q.Z.step f);have g:=Jh (Yb g.Z f.size);clear m f))
 refine (YR _).mono ?_;rintro e D ⟨g4,rfl,hg,hk,v⟩;have t:=Jh (t.Z.below v);have s:=Jh (zI s.Z v);have q:=Jh (q.Z.step (yl v));have V:Hd (g4≠w.heap.size):=Jh (oh g);have g:=Jh (Yb g.Z v.size);have P:=Jh hk;clear hg hk v;go_wp2_with fail;refine (vX _ _ _ _ _).mono ?_;rintro e u ⟨rfl,rfl⟩;have t:=Jh ((t.Z.alloc (.cells #[.slice ↑g4 1 1] 82)).alloc (.cells #[.bool true] 4));have s:=Jh (zJ (zJ s.Z (.cells #[.slice ↑g4 1 1] 82)) (.cells #[.bool true] 4));have q:=Jh ((q.Z.step (yl (zJ (zJ bR (.cells #[.slice ↑g4 1 1] 82)) (.cells #[.bool true] 4)))).cons (p:=xN D (D.heap.size+1) g4 1 yj true) ⟨(Blk.new D _ _).alloc _,Blk.zD _ _ sI,(P.Z.alloc _).alloc _⟩ (xN.kept (oh g) (oh g) V.Z));have g:Hd (w.heap.size<((D.alloc (.cells #[.slice ↑g4 1 1] 82)).alloc (.cells #[.bool true] 4)).heap.size):=Jh (oS g.Z)
 go_wp2_with (first
  | (refine qA _ rfl _ _ _ rfl _ _ _ _ _ rfl t.Z (by unfold maxLen;omega) rfl rfl (by unfold maxLen;decide) ?_;intro z m f;(try simp [Act.eval,go_sem] at m);have t:=Jh m;have s:=Jh (s.Z.grown f (Nat.le_of_lt g.Z) (fun b hb=>by cases hb;exact nI));have q:=Jh (q.Z.step f);have g:=Jh (Yb g.Z f.size);clear m f))
 obtain ⟨E,I⟩:=zN z;rw [<-I] at t s q g⊢;clear I;refine (qk _ _).mono ?_;rintro e u ⟨rfl,rfl⟩;have t:=Jh (t.Z.alloc (.cells #[.func (.func 122) #[] #[]] 74));have s:=Jh (zJ s.Z (.cells #[.func (.func 122) #[] #[]] 74));have q:=Jh ((q.Z.step (yl (zJ bR (.cells #[.func (.func 122) #[] #[]] 74)))).cons (p:=ky E 122) (Blk.new E _ _) (ky.kept (oh g)));have g:Hd (w.heap.size<(E.alloc (.cells #[.func (.func 122) #[] #[]] 74)).heap.size):=Jh (oS g.Z)
 go_wp2_with (first
  | (refine qA _ rfl _ _ _ rfl _ _ _ _ _ rfl t.Z (by unfold maxLen;omega) rfl rfl (by unfold maxLen;decide) ?_;intro z m f;(try simp [Act.eval,go_sem] at m);have t:=Jh m;have s:=Jh (s.Z.grown f (Nat.le_of_lt g.Z) (fun b hb=>by cases hb;exact nI));have q:=Jh (q.Z.step f);have g:=Jh (Yb g.Z f.size);clear m f))
 obtain ⟨F,J⟩:=zN z;rw [<-J] at t s q g⊢;clear J;refine (qk _ _).mono ?_;rintro e u ⟨rfl,rfl⟩;have t:=Jh (t.Z.alloc (.cells #[.func (.func 123) #[] #[]] 74));have s:=Jh (zJ s.Z (.cells #[.func (.func 123) #[] #[]] 74));have q:=Jh ((q.Z.step (yl (zJ bR (.cells #[.func (.func 123) #[] #[]] 74)))).cons (p:=ky F 123) (Blk.new F _ _) (ky.kept (oh g)));have g:Hd (w.heap.size<(F.alloc (.cells #[.func (.func 123) #[] #[]] 74)).heap.size):=Jh (oS g.Z)
 go_wp2_with (first
  | (refine qA _ rfl _ _ _ rfl _ _ _ _ _ rfl t.Z (by unfold maxLen;omega) rfl rfl (by unfold maxLen;decide) ?_;intro z m f;(try simp [Act.eval,go_sem] at m);have t:=Jh m;have s:=Jh (s.Z.grown f (Nat.le_of_lt g.Z) (fun b hb=>by cases hb;exact nI));have q:=Jh (q.Z.step f);have g:=Jh (Yb g.Z f.size);clear m f))
 obtain ⟨G,L⟩:=zN z;rw [<-L] at t s q g⊢;clear L;refine (qk _ _).mono ?_;rintro e u ⟨rfl,rfl⟩;have t:=Jh (t.Z.alloc (.cells #[.func (.func 124) #[] #[]] 74));have s:=Jh (zJ s.Z (.cells #[.func (.func 124) #[] #[]] 74));have q:=Jh ((q.Z.step (yl (zJ bR (.cells #[.func (.func 124) #[] #[]] 74)))).cons (p:=ky G 124) (Blk.new G _ _) (ky.kept (oh g)));have g:Hd (w.heap.size<(G.alloc (.cells #[.func (.func 124) #[] #[]] 74)).heap.size):=Jh (oS g.Z)
 go_wp2_with (first
  | (refine qA _ rfl _ _ _ rfl _ _ _ _ _ rfl t.Z (by unfold maxLen;omega) rfl rfl (by unfold maxLen;decide) ?_;intro z m f;(try simp [Act.eval,go_sem] at m);have t:=Jh m;have s:=Jh (s.Z.grown f (Nat.le_of_lt g.Z) (fun b hb=>by cases hb;exact nI));have q:=Jh (q.Z.step f);have g:=Jh (Yb g.Z f.size);clear m f))
 go_ret;have hL:=q.Z;have hL:=q.Z;have d1:xN A (A.heap.size+1) g1 4 yk false z:=(hL _ (.tail _ (.tail _ (.tail _ (.tail _ (.tail _ (.tail _ (.head _)))))))).1;have d2:xN B (B.heap.size+1) g2 4 yk true z:=(hL _ (.tail _ (.tail _ (.tail _ (.tail _ (.tail _ (.head _))))))).1;have d3:xN C (C.heap.size+1) g3 1 yj false z:=(hL _ (.tail _ (.tail _ (.tail _ (.tail _ (.head _)))))).1;have d4:xN D (D.heap.size+1) g4 1 yj true z:=(hL _ (.tail _ (.tail _ (.tail _ (.head _))))).1;have X:ky E 122 z:=(hL _ (.tail _ (.tail _ (.head _)))).1;have Y:ky F 123 z:=(hL _ (.tail _ (.head _))).1;have d7:ky G 124 z:=(hL _ (.head _)).1;have hv:VS z w 15 (Vx A (A.heap.size+1) B.heap.size (B.heap.size+1) C.heap.size (C.heap.size+1) D.heap.size (D.heap.size+1) E.heap.size F G):=t.Z;have hb:=s.Z;clear hL q t s;exact ⟨A.heap.size,A.heap.size+1,g1,B.heap.size,B.heap.size+1,g2,C.heap.size,C.heap.size+1,g3,D.heap.size,D.heap.size+1,g4,E.heap.size,F.heap.size,G.heap.size,rfl,hv,d1,d2,d3,d4,X,Y,d7,hb⟩
end
section
open Go.RowKit Tq Go.Proofs.Tryz
variable {e : Ending} {l : List UInt8} {w w' : World} {xs : List Int}
structure Zu where
 k1:Nat
 a1:Nat
 g1:Nat
 k2:Nat
 a2:Nat
 g2:Nat
 k3:Nat
 a3:Nat
 g3:Nat
 k4:Nat
 a4:Nat
 g4:Nat
 b1:Nat
 b2:Nat
 b3:Nat
def Zu.S (x:Zu):List UInt8->Option Value:=Vx x.k1 x.a1 x.k2 x.a2 x.k3 x.a3 x.k4 x.a4 x.b1 x.b2 x.b3
structure zBm (x:Zu) (w:World):Prop where
 d1:xN x.k1 x.a1 x.g1 4 yk false w
 d2:xN x.k2 x.a2 x.g2 4 yk true w
 d3:xN x.k3 x.a3 x.g3 1 yj false w
 d4:xN x.k4 x.a4 x.g4 1 yj true w
 c1:ky x.b1 122 w
 c2:ky x.b2 123 w
 c3:ky x.b3 124 w
theorem zAs (w:World):Calls prog 74 #[] w fun e w'=> ∃x:Zu,e= .returned (.map (some w))/\VS w' w 15 x.S/\zBm x w'/\Below w w w':=by
 refine (Vk w).mono ?_;rintro e w' ⟨k1,a1,g1,k2,a2,g2,k3,a3,g3,k4,a4,g4,b1,b2,b3,h1,h2,h3,h4,f,g,m,q,s,b⟩;exact ⟨⟨k1,a1,g1,k2,a2,g2,k3,a3,g3,k4,a4,g4,b1,b2,b3⟩,h1,h2,⟨h3,h4,f,g,m,q,s⟩,b⟩
def ja (s:ByteArray):List ByteArray:=Lib.splitB ⟨#[32]⟩ 0 (min 4 (s.size+1) - 1) s
theorem zJf (s:ByteArray):1<=(ja s).length/\(ja s).length<=min 4 (s.size+1):=by
 unfold ja;have h1:=Lib.splitB_length_le ⟨#[32]⟩ 0 (min 4 (s.size+1) - 1) s;constructor;cases min 4 (s.size+1) - 1 with
 | zero=>simp [Lib.splitB]
 | succ k=>unfold Lib.splitB;split <;>simp
 omega
theorem jk.shape (h:jk w l xs e w'): ∃v f,e= .returned (.tuple #[v, .bool f]):=by
 cases h with
 | flat h=>obtain ⟨a,n,c,he,_⟩:=h;exact ⟨_,_,he⟩
 | ramp h=>obtain ⟨a,n,c,he,_⟩:=h;exact ⟨_,_,he⟩
 | bayer h=>obtain ⟨b,a,n,c,he,_⟩:=h;exact ⟨_,_,he⟩
 | spiral h=>obtain ⟨b,a,n,c,he,_⟩:=h;exact ⟨_,_,he⟩
 | spot h=>obtain ⟨b,a,n,c,he,_⟩:=h;exact ⟨_,_,he⟩
 | rank h=>obtain ⟨b,a,n,c,he,_⟩:=h;exact ⟨_,_,he⟩
 | shift h=>exact ⟨_,_,rfl⟩
 | level=>exact ⟨_,_,rfl⟩
 | none h=>exact ⟨_,_,rfl⟩
theorem zAk (s:ByteArray) (a b:Nat):(s.extract a b).size<=s.size:=by
 rw [ByteArray.size_extract];omega
theorem QZ (b:ByteArray): ∀(k:Nat) (s:ByteArray) (t:ByteArray),t ∈ Lib.splitB b 0 k s->t.size<=s.size
 | 0,s,t,h=>by simp [Lib.splitB] at h;rw [h];exact nI
 | k+1,s,t,h=>by
  unfold Lib.splitB at h;split at h;simp at h;rw [h];exact nI;rcases List.mem_cons.1 h with rfl | h
  exact zAk _ _ _;exact Yx (QZ b k _ t h) (zAk _ _ _)
theorem zPn (w:World) (b:List ByteArray) (N T:Nat):RdS (w.alloc (.cells (Lib.cellsOf b N) T)) ↑w b:=by
 intro k hk;refine ⟨w.heap.size,0,rfl,sI,?_⟩;have h:=(Blk.new w T (Lib.cellsOf b N)).cell k;rw [Nat.zero_add,h];simp only [Lib.cellsOf,Yi];rw [List.getElem?_append_left (by simpa using hk)];simp [hk]
theorem RdS.tail {w:World} {b:Nat} {g:List ByteArray} (h:RdS w ↑b g):RdS w (some ↑(b,1)) g.tail:=by
 intro k hk;have f:k+1<g.length:=by simp at hk;omega
 obtain ⟨m,off,he,hl,hc⟩:=h (k+1) f;obtain ⟨rfl,rfl⟩:b=m/\0=off:=by simpa using he
 refine ⟨b,1,rfl,hl,?_⟩;rw [show 1+k=0+(k+1) by omega,hc];simp
def zQG (s:ByteArray) (w:World) (e:Ending) (w':World):Prop:=
 Below w w w'/\ ∃x:Zu,((∃v,x.S s.data.toList=some v/\e= .returned (.tuple #[v, .bool true])/\zBm x w')\/
  (x.S s.data.toList=none/\((jV (zk (ja s).tail)=none/\ ∃v,e= .returned (.tuple #[v, .bool false]))\/
   ∃xs w1,jV (zk (ja s).tail)=some xs/\(∀x,x ∈ xs->yK x)/\Below w w w1/\jk w1 ((ja s).getD 0 ByteArray.empty).toList xs e w')))
set_option maxRecDepth 100000 in
theorem zCE (s:ByteArray) (w:World) (hs:s.size<=1048576) (hL:jt w):Calls prog 29 #[.string s] w (zQG s w):=by
 have T:=Jh hL;clear hL;go_in;go_wp2_with fail;refine (zAs _).mono ?_;rintro e w1 ⟨x,rfl,hv,hx,hb⟩;have O:=Jh hb;have HX:=Jh hx;have HV:=Jh hv;clear hb hx hv;have F:=HV.Z.look s (by unfold maxLen;omega);cases hS:x.S s.data.toList with
 | some v=>
  rw [hS] at F;simp only [Yz,Option.isSome_some] at F;go_wp2_with fail;go_ret2;exact ⟨O.Z,x, .inl ⟨v,hS,rfl,HX.Z⟩⟩
 | none=>
  rw [hS] at F;simp only [Option.getD_none,Option.isSome_none] at F;go_wp2_with fail;obtain ⟨m,hm⟩:=(T.Z.below O.Z).max;have X:=zJf s;refine (Tryz.strings_SplitN s ⟨#[32]⟩ 4 m w1 om hm dC om om).mono ?_;rintro e w2 ⟨rfl,I⟩;obtain ⟨N,hN⟩:=zN (min 4 (s.size+1));obtain ⟨J,g⟩:=zN (ja s);have b1:(Lib.splitB ⟨#[32]⟩ 0 (min 4 (s.size+1) - 1) s)=J:=g.symm;rw [b1] at I⊢;rw [<-g,<-hN] at X;rw [<-hN] at I⊢;have HR:Hd (RdS w2 ↑w1 J):=Jh (by rw [I];exact zPn _ _ _ _);have b0:Hd (∀t,t ∈ J->t.size<=1048576):=Jh (fun t ht=>Yx (QZ _ _ _ _ (by rw [g] at ht;exact ht)) hs);have M:Hd (Below w w w2):=Jh (by rw [I];exact zJ O.Z _);have C:=Jh g;have b6:N<=4:=om;obtain ⟨L,hL⟩:=zN J.length;rw [<-hL] at X⊢;obtain ⟨b7,b8⟩:=X;have z:=Jh hL;clear I F hm hN b1 g hL;by_cases b3:N=1
  case pos=>
   have b2:L=1:=om;subst b3 b2;have HT:Hd (RdS w2 ↑w1 J.tail):=Jh (fun k hk=>by simp at hk;have:=z.Z;omega);go_wp2_with fail;refine (Kc _ _ _ J.tail _ (by simp;have:=z.Z;omega) (HT.Z) om (fun t ht=>b0.Z t (List.mem_of_mem_tail ht)) (T.Z.below M.Z)).mono ?_;rintro e Y ⟨A,G⟩;have u:=Jh (zI M.Z A);have U:=Jh (HR.Z.below A);clear A;rcases G with ⟨V,v,rfl⟩ | ⟨xs,na,nn,nc,q,rfl,ho,hi⟩
   . go_wp2_with fail
     go_ret2;exact ⟨u.Z,x, .inr ⟨hS, .inl ⟨by rw [<-C.Z];exact V,_,rfl⟩⟩⟩
   obtain ⟨wd,B⟩:=zN (J.getD 0 ByteArray.empty)
   have b4:Y.cell? w1=some (.string wd):=by
    obtain ⟨b',off,he,hl,hc⟩:=U.Z 0 (oh z);obtain ⟨rfl,rfl⟩:w1.heap.size=b'/\0=off:=by simpa using he
    rw [B,hc];simp [Yh,(show 0<J.length by have:=z.Z;omega)]
   have HO:=Jh ho;have HI:=Jh hi;have HY:=Jh q;have D:=Jh B;clear ho hi q B;go_wp2_with fail;refine (zHv wd na nn nc xs Y HO.Z.len (HO.Z.rd)).mono ?_;intro e w4 b;have R:=Jh b;have E:=b.below;have P:=Jh (zI u.Z E);have f:=b.shape;obtain ⟨v,bo,rfl⟩:=f;clear b E;go_wp2_with fail;go_ret2;exact ⟨P.Z,x, .inr ⟨hS, .inr ⟨xs,Y,by rw [<-C.Z];exact HY.Z,HI.Z,u.Z,by rw [<-C.Z,<-D.Z];exact R.Z⟩⟩⟩
  have b5:2<=N:=om;go_wp2_with fail;refine (Kc _ _ _ J.tail _ (by simp;have:=z.Z;omega) (HR.Z.tail) om (fun t ht=>b0.Z t (List.mem_of_mem_tail ht)) (T.Z.below M.Z)).mono ?_;rintro e Y ⟨A,G⟩;have u:=Jh (zI M.Z A);have U:=Jh (HR.Z.below A);clear A;rcases G with ⟨V,v,rfl⟩ | ⟨xs,na,nn,nc,q,rfl,ho,hi⟩
  . go_wp2_with fail
    go_ret2;exact ⟨u.Z,x, .inr ⟨hS, .inl ⟨by rw [<-C.Z];exact V,_,rfl⟩⟩⟩
  obtain ⟨wd,B⟩:=zN (J.getD 0 ByteArray.empty)
  have b4:Y.cell? w1=some (.string wd):=by
   obtain ⟨b',off,he,hl,hc⟩:=U.Z 0 (oh z);obtain ⟨rfl,rfl⟩:w1.heap.size=b'/\0=off:=by simpa using he
   rw [B,hc];simp [Yh,(show 0<J.length by have:=z.Z;omega)]
  have HO:=Jh ho;have HI:=Jh hi;have HY:=Jh q;have D:=Jh B;clear ho hi q B;go_wp2_with fail;refine (zHv wd na nn nc xs Y HO.Z.len (HO.Z.rd)).mono ?_;intro e w4 b;have R:=Jh b;have E:=b.below;have P:=Jh (zI u.Z E);have f:=b.shape;obtain ⟨v,bo,rfl⟩:=f;clear b E;go_wp2_with fail;go_ret2;exact ⟨P.Z,x, .inr ⟨hS, .inr ⟨xs,Y,by rw [<-C.Z];exact HY.Z,HI.Z,u.Z,by rw [<-C.Z,<-D.Z];exact R.Z⟩⟩⟩
end
section
variable {H W : Int} {c : UInt8} {h i j k w : Nat} {l : List UInt8} {xs : List Int}
open Tq Go.Proofs.Tryz
def Kx (v:Int):UInt8:=if v=1 then 35 else 46
def qV (w:Nat) (xs:List Int) (j:Nat):UInt8:=if j % (w+1)=w then 10 else Kx (xs.getD (j/(w+1)*w+j % (w+1)) 0)
def kf (w h:Nat) (xs:List Int):List UInt8:=(List.range ((w+1)*h)).map (qV w xs)
theorem UU (w h:Nat) (xs:List Int):(kf w h xs).length=(w+1)*h:=by simp [kf]
theorem Jk (b:j<(w+1)*h):(kf w h xs)[j]? =some (qV w xs j):=by
 simp [kf,b]
theorem XW (hw:0<w):i=w*(i/w)+i % w/\i % w<w:=⟨(Nat.div_add_mod i w).symm,Nat.mod_lt _ hw⟩
theorem zOf (hw:0<w):qV w xs (i+i/w)=Kx (xs.getD i 0):=by
 obtain ⟨h1,h2⟩:=XW (i:=i) hw;have e:i+i/w=(w+1)*(i/w)+i % w:=by rw [Nat.add_mul];omega
 unfold qV;rw [e,Nat.mul_add_mod,Nat.mod_eq_of_lt (by omega:i % w<w+1),Nat.mul_add_div om,Nat.div_eq_of_lt (by omega:i % w<w+1),if_neg om,Yy,Nat.mul_comm,<-h1]
theorem zPx (hw:0<w) (hi:i % w=w - 1):qV w xs (i+i/w+1)=10:=by
 obtain ⟨h1,h2⟩:=XW (i:=i) hw;have e:i+i/w+1=(w+1)*(i/w)+w:=by rw [Nat.add_mul];omega
 unfold qV;rw [e,Nat.mul_add_mod,Nat.mod_eq_of_lt (by omega:w<w+1),if_pos rfl]
theorem zOK (hw:0<w):(i % w=w - 1->(i+1)/w=i/w+1)/\(¬i % w=w - 1->(i+1)/w=i/w):=by
 obtain ⟨h1,h2⟩:=XW (i:=i) hw;constructor;intro h;have e:i+1=w*(i/w+1):=by rw [Nat.mul_succ];omega
 rw [e,Nat.mul_div_cancel_left _ hw];intro h;have e:i+1=w*(i/w)+(i % w+1):=om;rw [e,Nat.mul_add_div hw,Nat.div_eq_of_lt (by omega:i % w+1<w),Yy]
theorem zLr (hw:0<w) (hi:i<w*h):i/w<h/\i+i/w<(w+1)*h/\(i % w=w - 1->i+i/w+1<(w+1)*h):=by
 obtain ⟨h1,h2⟩:=XW (i:=i) hw;have hd:i/w<h:=by rw [Nat.div_lt_iff_lt_mul hw,Nat.mul_comm];exact hi
 have hm:(w+1)*(i/w+1)<=(w+1)*h:=Nat.mul_le_mul_left _ hd;rw [Nat.mul_succ,Nat.add_mul w 1 (i/w)] at hm;exact ⟨hd,om,fun _=>om⟩
def qX (w h:Nat) (xs:List Int) (i:Nat):List UInt8:=(kf w h xs).take (i+i/w)
theorem uY (h:l[k]? =some c):l.take (k+1)=l.take k++ [c]:=by
 have hk:=(List.getElem?_eq_some_iff.1 h).1;rw [Ym hk];rw [Ya hk] at h;rw [Yd h]
theorem zHO (hw:0<w) (hi:i<w*h):
 qX w h xs (i+1)=qX w h xs i++(if i % w=w - 1 then [Kx (xs.getD i 0),10] else [Kx (xs.getD i 0)]):=by
 obtain ⟨b1,b2,b3⟩:=zLr hw hi;obtain ⟨n1,n2⟩:=zOK (i:=i) hw;have hd:=Jk (xs:=xs) b2;rw [zOf hw] at hd;unfold qX;by_cases e:i % w=w - 1
 have hn:=Jk (xs:=xs) (b3 e);rw [zPx hw e] at hn;rw [if_pos e,n1 e,show i+1+(i/w+1)=i+i/w+1+1 by omega,uY hn,uY hd];simp;rw [if_neg e,n2 e,show i+1+i/w=i+i/w+1 by omega,uY hd]
theorem zHP (w h:Nat) (xs:List Int):qX w h xs 0=[]:=by simp [qX]
theorem zJc (hw:0<w):qX w h xs (w*h)=kf w h xs:=by
 unfold qX;rw [Nat.mul_div_cancel_left _ hw,Yk];rw [UU,Nat.add_mul];omega
theorem zBS (h:zP W H xs 1=true): ∃w h:Nat,W=(w:Int)/\H=(h:Int)/\1<=w/\w<=64/\1<=h/\h<=64/\w*h<=1024/\xs.length=w*h/\yM W H=true/\ ∀k,k<xs.length->xs.getD k 0=0\/xs.getD k 0=1:=by
 obtain ⟨h1,h2,h3⟩:=yH rfl h;obtain ⟨b1,b2,b3,b,f,g⟩:=yF h1;refine ⟨W.toNat,H.toNat,om,om,om,om,om,om,?_,?_,h1,fun k hk=>?_⟩;have e:((W.toNat*H.toNat:Nat):Int)=W*H:=by rw [Int.natCast_mul,Int.toNat_of_nonneg om,Int.toNat_of_nonneg om]
 omega;have e:((W.toNat*H.toNat:Nat):Int)=W*H:=by rw [Int.natCast_mul,Int.toNat_of_nonneg om,Int.toNat_of_nonneg om]
 omega;have:=xx h3 k hk;simp only [Yh];omega
end
section
open Go.RowKit Tq Go.Proofs.Tryz
def kD (W H:Int) (xs:List Int):List UInt8:=if zP W H xs 1=true then kf W.toNat H.toNat xs else []
theorem UT (l:List UInt8) (b:UInt8):(⟨l.toArray⟩:ByteArray)++(⟨#[b]⟩:ByteArray)=⟨(l++ [b]).toArray⟩:=by
 apply ByteArray.ext;simp
set_option maxRecDepth 100000 in
theorem zFj (W H:Int) (t:Option Addr) (n g:Nat) (xs:List Int) (w:World) (hn:xs.length=n) (ha:Rd w t xs) (hl:n<=9223372036854775807):
 Calls prog 93 #[.agg #[W,H, .slice t n g]] w (zR (.string ⟨(kD W H xs).toArray⟩) w):=by
 have F:=Jh hn;have HA:=Jh ha;by_cases hp:zP W H xs 1=true
 case neg=>
  have O:kD W H xs=[]:=by unfold kD;rw [if_neg hp]
  rw [O];have M:zP W H xs 1=false:=by simpa using hp
  have V:=Jh M;clear hp M O hn ha;go_in;go_wp2_with fail;refine (kK W H t n g xs _ F.Z (by exact HA.Z.alloc _) hl).mono ?_;rw [V.Z];rintro e w1 ⟨rfl,hb⟩;have P:=Jh (zI (Joins.below_alloc1 w (.cells #[W,H, .slice t n g] 31)) hb);clear hb;go_wp2_with fail;go_ret;exact ⟨rfl,P.Z⟩
 obtain ⟨w0,m,O,e2,b1,b2,b3,b4,b5,A,hs,N⟩:=zBS hp;subst O e2;have L:n=w0*m:=by rw [<-hn];exact A
 have c5:n<=1024:=om;have D:=Jh L;clear L;have e3:kD (w0:Int) (m:Int) xs=kf w0 m xs:=by unfold kD;rw [if_pos hp];rfl
 rw [e3];have HP:=Jh hp;have HX:=Jh N;have G:=Jh (Blk.new w 31 #[w0,m, .slice t n g]);have B:=Jh (ha.alloc (.cells #[w0,m, .slice t n g] 31));clear hp N e3 ha hs A;go_in;go_wp2_with fail;refine (kK w0 m t n g xs _ F.Z (by exact B.Z) hl).mono ?_;rw [HP.Z];rintro e w1 ⟨rfl,hb⟩;have KP:=Jh (G.Z.zA hb);have E:=Jh (B.Z.below hb);have P:=Jh (zI (Joins.below_alloc1 w (.cells #[w0,m, .slice t n g] 31)) hb);clear hb G B;obtain ⟨lp,p0,p1,p2⟩:=KP.Z.c3;go_wp2_with fail;have Y:Hd (∀k,k<n->xs.getD k 0=0\/xs.getD k 0=1):=Jh (fun k hk=>HX.Z k (oh F))
 obtain ⟨bA,oA,b6,b7⟩: ∃b off,t=some ⟨b,off,none⟩/\b<w1.heap.size:=by
  obtain ⟨b,off,h1,h2,_⟩:=E.Z 0 (zC F.Z D.Z (Nat.mul_pos b1 b3));exact ⟨b,off,h1,h2⟩
 subst b6
 have C:Hd (∀k,k<n->w1.cell? ⟨bA,oA+k,none⟩=some (.int .i64 (xs.getD k 0))):=Jh (fun k hk=>by
  obtain ⟨b,off,h1,_,h3⟩:=E.Z k (oh F);have e:=Yd h1;simp only [Addr.mk.injEq] at e;obtain ⟨rfl,rfl,_⟩:=e
  exact h3)
 go_loopw [3,12] (fun s i wr=> ∃k:Nat,k<=n/\i= .int .i64 k/\s= .string ⟨(qX w0 m xs k).toArray⟩/\Hd (Below w1 w1 wr)) (fun _ i _=>n - (intOf i).toNat)
 case atStart=>exact ⟨0,nZ,rfl,by rw [zHP],Jh bR⟩
 obtain ⟨k,hk,rfl,rfl,f⟩:=hrel;obtain ⟨T,hT⟩: ∃l,qX w0 m xs k=l:=⟨_,rfl⟩
 have X:=Jh hT;rw [hT];clear hT;have b0:=Jh (KP.Z.zA f.Z);have U:=Jh (zI P.Z f.Z);clear lp p0 p1 p2;obtain ⟨lp,p0,p1,p2⟩:=b0.Z.c3;by_cases J:k<n
 . have c0:wr.cell? ⟨bA,oA+k,none⟩=some (.int .i64 (xs.getD k 0)):=(f.Z.cell (by exact b7)).trans (C.Z k J)
   have z:=zHO (w:=w0) (h:=m) (xs:=xs) (i:=k) om (oh D);rw [X.Z] at z;have hd:=Y.Z k J;obtain ⟨x,N⟩: ∃v,xs.getD k 0=v:=⟨_,rfl⟩
   rw [N] at c0 z hd;have q:=Jh z;clear N z
   have c1:T.length<=4096:=by
    rw [<-X.Z];unfold qX;rw [Yj];have:=Nat.div_le_self k w0;omega
   obtain ⟨R,hR⟩: ∃r:Int,(k:Int).tmod (w0:Int)=r:=⟨_,rfl⟩
   obtain ⟨Q,hQ⟩: ∃r:Int,(w0:Int) - 1=r:=⟨_,rfl⟩
   have c4:R=((k % w0:Nat):Int):=by rw [<-hR,Yl om];simp
   have wQ:IntKind.i64.wrap ((w0:Int) - 1)=Q:=by rw [hQ];exact Yc _ om
   have c8:IntKind.i64.wrap Q=Q:=Yc _ om;have R0:0<=R:=om
   have R1:R<=4096:=by
    have:=Nat.mod_lt k (show 0<w0 by omega);omega
   have wR:IntKind.i64.wrap R=R:=Yc _ om;have hz: ¬(w0:Int)=0:=om;by_cases u:k % w0=w0 - 1
   . have b8:(R==Q)=true:=sO
     rcases hd with rfl | rfl
     . go_wp2_with fail
       go_quiet (fail)
       go_wp2_with fail;go_roundw
       case rel=>exact ⟨k+1,om,by go_num,by rw [q.Z];simp [UT,Kx,u],by first | exact f | exact Jh ⟨f.Z.os,f.Z.tape,f.Z.output,f.Z.size,f.Z.block⟩⟩
       exact Jm
     go_wp2_with fail
     go_quiet (fail)
     go_wp2_with fail;go_roundw
     case rel=>exact ⟨k+1,om,by go_num,by rw [q.Z];simp [UT,Kx,u],by first | exact f | exact Jh ⟨f.Z.os,f.Z.tape,f.Z.output,f.Z.size,f.Z.block⟩⟩
     exact Jm
   have b8:(R==Q)=false:=sO;rcases hd with rfl | rfl
   . go_wp2_with fail
     go_quiet (fail)
     go_wp2_with fail;go_roundw
     case rel=>exact ⟨k+1,om,by go_num,by rw [q.Z];simp [UT,Kx,u],by first | exact f | exact Jh ⟨f.Z.os,f.Z.tape,f.Z.output,f.Z.size,f.Z.block⟩⟩
     exact Jm
   go_wp2_with fail
   go_quiet (fail)
   go_wp2_with fail;go_roundw
   case rel=>exact ⟨k+1,om,by go_num,by rw [q.Z];simp [UT,Kx,u],by first | exact f | exact Jh ⟨f.Z.os,f.Z.tape,f.Z.output,f.Z.size,f.Z.block⟩⟩
   exact Jm
 obtain rfl:k=n:=om;have I:T=kf w0 m xs:=by rw [<-X.Z,D.Z];exact zJc om
 subst I;go_wp2_with fail;go_ret;exact ⟨rfl,U.Z⟩
end
section
variable {h n w x y : Nat} {xs : List Int}
open Tq Go.Proofs.Tryz
def UD (w i:Nat):Nat:=w*(i/w)+(i % w+1) % w
def zAy (w i:Nat):Nat:=w*(i/w)+(i % w+(w - 1)) % w
def zAj (w h i:Nat):Nat:=w*((i/w+1) % h)+i % w
def upI (w h i:Nat):Nat:=w*((i/w+(h - 1)) % h)+i % w
theorem Uh (b:x<w) (f:y<h):w*y+x<w*h:=by
 have:w*(y+1)<=w*h:=Nat.mul_le_mul_left w om;rw [Nat.mul_succ] at this;omega
theorem zNP (b:x<w):(w*y+x)/w=y:=by
 rw [Nat.mul_add_div om,Nat.div_eq_of_lt b,Yy]
theorem zNQ (b:x<w):(w*y+x) % w=x:=by
 rw [Nat.mul_add_mod,Nat.mod_eq_of_lt b]
section
variable {w h n i : Nat}
theorem KV (hw:0<w) (hn:n=w*h) (hi:i<n):i % w<w/\i/w<h/\w*(i/w)+i % w=i:=
 ⟨Nat.mod_lt _ hw,by rw [Nat.div_lt_iff_lt_mul hw,Nat.mul_comm h w];omega,Nat.div_add_mod i w⟩
theorem zOF (hw:0<w) (hn:n=w*h) (hi:i<n):UD w i<n:=by
 obtain ⟨a,b,c⟩:=KV hw hn hi;rw [hn];exact Uh (Nat.mod_lt _ hw) b
theorem zPe (hw:0<w) (hn:n=w*h) (hi:i<n):zAy w i<n:=by
 obtain ⟨a,b,c⟩:=KV hw hn hi;rw [hn];exact Uh (Nat.mod_lt _ hw) b
theorem zPW (hw:0<w) (hn:n=w*h) (hi:i<n):zAj w h i<n:=by
 obtain ⟨a,b,c⟩:=KV hw hn hi;rw [hn];exact Uh a (Nat.mod_lt _ (Nat.lt_of_le_of_lt nZ b))
theorem zRY (hw:0<w) (hn:n=w*h) (hi:i<n):upI w h i<n:=by
 obtain ⟨a,b,c⟩:=KV hw hn hi;rw [hn];exact Uh a (Nat.mod_lt _ (Nat.lt_of_le_of_lt nZ b))
end
def vx (w h:Nat) (xs:List Int) (i:Nat):Int:=xs.getD i 0+xs.getD (UD w i) 0+xs.getD (zAy w i) 0+xs.getD (zAj w h i) 0+xs.getD (upI w h i) 0
def jQ (w h:Nat) (xs:List Int) (n:Nat) (m:Int):List Int:=gen n (fun i=>if m<=vx w h xs i then 1 else 0)
def zIK (n:Nat) (xs:List Int):Prop:= ∀k,k<n->xs.getD k 0=0\/xs.getD k 0=1
theorem zEd (hn:xs.length=n) (h:yY xs 1=true):zIK n xs:=fun k hk=>by
 have:=xx h k om;simp only [Yh];omega
theorem zFH (w h n:Nat) (xs:List Int) (m:Int):yY (jQ w h xs n m) 1=true:=by
 unfold yY jQ gen;rw [Yp];intro v hv;obtain ⟨i,_,rfl⟩:=List.mem_map.1 hv;split <;>simp
section
variable {w h n : Nat} {xs : List Int}
end
end
end Go.Proofs.YtlenfgdjdianiaaGreatDoor
