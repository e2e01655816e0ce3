/- Facts on which this claim rests, 25. -/
import Derived.Test.YtlenfgdjdianiaaGreatDoorF24
set_option linter.all false
set_option maxHeartbeats 6400000
namespace Go.Proofs.YtlenfgdjdianiaaGreatDoor
section
open Go.RowKit Tq Go.Proofs.Tryz
variable {A B a b g q : Int} {F : Nat → Int} {N cap i j n t : Nat} {W : World} {xs : List Int}
theorem zKs (x:Int) (w:World):
 Calls prog 228 #[x] w fun e w'=>e= .returned (.bool false)/\w=w':=by
 have h:(x !=x)=false:=sI;go_in;go_wp2_with fail;go_ret;exact ⟨rfl,rfl⟩
theorem zQT (x y:Int) (w:World):
 Calls prog 189 #[x,y] w fun e w'=> ∃c:Int,e= .returned ↑c/\(c<0↔x<y)/\w=w':=by
 go_in;go_wp2_with fail;refine (zKs _ _).mono ?_;rintro e w1 ⟨rfl,rfl⟩;go_wp2_with fail;refine (zKs _ _).mono ?_;rintro e w1 ⟨rfl,rfl⟩;by_cases h1:x<y
 . go_wp2_with fail
   go_ret;exact ⟨-1,rfl,by constructor <;>intro <;>omega,rfl⟩
 by_cases h2:y<x
 . go_wp2_with fail
   go_ret;exact ⟨1,rfl,by constructor <;>intro <;>omega,rfl⟩
 go_wp2_with fail;go_ret;exact ⟨0,rfl,by constructor <;>intro <;>omega,rfl⟩
set_option maxRecDepth 100000 in
theorem zPj {n d p:Int} (L:Lat A B n g d a b p q) (x y u v:Int) (l:Nat) (w:World) (hb:l<w.heap.size) (c0:w.cell? l=some ↑A) (c1:w.cell? (l,1)=some ↑B):
 Calls prog 261 #[.agg #[x,y], .agg #[u,v], .pointer ↑l] w fun e w'=> ∃c:Int,e= .returned ↑c/\(c<0↔ke A B x y<ke A B u v)/\Below w w w':=by
 obtain ⟨R1,m⟩: ∃R,ke A B x y=R:=⟨_,rfl⟩
 obtain ⟨R2,o⟩: ∃R,ke A B u v=R:=⟨_,rfl⟩
 have M:=Jh L;have U:=Jh m;have V:=Jh o;rw [m,o];clear L m o;go_in;go_wp2_with fail;have P:=Jh ((Blk.new w 176 #[x,y]).alloc (.cells #[u,v] 176));have O:=Jh (Blk.zD (g:=w.heap.size+1) (w:=w.alloc (.cells #[x,y] 176)) 176 #[u,v] sI);have f:=Jh (Joins.below_alloc2 w (.cells #[x,y] 176) (.cells #[u,v] 176));obtain ⟨G,E⟩:=zN ((w.alloc (.cells #[x,y] 176)).alloc (.cells #[u,v] 176):World);rw [<-E] at P O f⊢;have Y:G.cell? l=some ↑A:=(f.Z.cell (p:=↑l) hb).trans c0;have l1:G.cell? (l,1)=some ↑B:=(f.Z.cell (p:=↑(l,1)) hb).trans c1;have Q:l<G.heap.size:=Yb hb f.Z.size;clear E c0 c1 hb;obtain ⟨T,x0,x1⟩:=P.Z.c2;obtain ⟨z2,u0,u1⟩:=O.Z.c2;have z:Hd (∀t,BelowL G t->Jc t l A/\Jc t (l,1) B/\Jc t w x/\Jc t (w,1) y/\Jc t ↑(w.heap.size+1) u/\Jc t (w.heap.size+1,1) v/\BelowL G t):=Jh (fun t h=>⟨(h.Z.cell Q).trans Y,(h.Z.cell Q).trans l1,(h.Z.cell T).trans x0,(h.Z.cell T).trans x1,(h.Z.cell z2).trans u0,(h.Z.cell z2).trans u1,h⟩)
 go_region_held3 z
  (first | exact z.Z _ s | exact z.Z _ D | exact z.Z _ C | exact z.Z _ lS)
  (first
   | (go_at_call_of 262 (Value.int IntKind.i64 x);((with_reducible refine (XQ M.Z x y _ U.Z _).mono ?_);rintro e v1 ⟨rfl,I⟩;have C:=BelowL.call (jx aS) I))
   | (go_at_call_of 262 (Value.int IntKind.i64 u);((with_reducible refine (XQ M.Z u v _ V.Z _).mono ?_);rintro e v2 ⟨rfl,J⟩;have D:=BelowL.call (jx aS) J))
   | (go_at_call 189;((with_reducible refine (zQT _ _ _).mono ?_);rintro e v3 ⟨c,rfl,hc,rfl⟩;have s:=jx aS)))
 have X:=Jh hc;have H:=Jh (zI f.Z s.Z);clear hc C D s z;go_wp2_with fail;go_ret;exact ⟨c,rfl,X.Z,H.Z⟩
theorem kQ (f:Nat) (l:Func) (c:Code) (hf:prog.funcs[f]? =some l) (e:(l.name== "runtime.NumGoroutine")=false) (hb:l.body=some c): ∀args w,(callFunc f args).run prog w= .ok (.enter f args) w:=enters_of hf e hb
set_option maxRecDepth 100000 in
theorem zON (h:Nat) (M:Array Value) (J L u n i k:Nat) (xs H:Nat->Int) (K:Prop) (w:World) (eh: ∀args w,(callFunc h args).run prog w= .ok (.enter h args) w)
 (co:w.cell? J=some (.func (.func h) #[] M)) (ck:w.cell? L=some (.slice ↑u n n)) (Q:(∀k,k<n->w.cell? ⟨u,k*2,none⟩=some (.int .i64 (xs k))/\w.cell? ⟨u,k*2+1,none⟩=some (.int .i64 (H k)))) (zo:J<w.heap.size) (zs:L<w.heap.size) (O:u<w.heap.size) (hi:i<n) (hk:k<n)
 (f: ∀v,Below w.heap.size w v->Calls prog h (#[.agg #[(xs i),(H i)], .agg #[.int .i64 (xs k), .int .i64 (H k)]]++M) v fun e T=> ∃c:Int,e= .returned ↑c/\(c<0↔K)/\Below v.heap.size v T):
 Calls prog 288 #[i, .int .i64 k, .pointer ↑J, .pointer ↑L] w fun e w'=> ∃c:Int,e= .returned ↑c/\(c<0↔K)/\Below w.heap.size w w':=by
 obtain ⟨V,X⟩:=Q i hi;obtain ⟨Y,x3⟩:=Q k hk;obtain ⟨z,l⟩:=zN (xs i);obtain ⟨D,o⟩:=zN (H i);obtain ⟨C,m⟩:=zN (xs k);obtain ⟨E,s⟩:=zN (H k);rw [<-l] at V;rw [<-o] at X;rw [<-m] at Y;rw [<-s] at x3
 try rw [<-l] at f
 try rw [<-o] at f
 try rw [<-m] at f
 try rw [<-s] at f
 have I:Hd (∀v,BelowL w v->Jc v J (.func (.func h) #[] M)/\Jc v L (.slice ↑u n n)/\Jc v (u,i*2) z/\Jc v (u,i*2+1) D/\v.cell? ⟨u,k*2,none⟩=some ↑C/\v.cell? ⟨u,k*2+1,none⟩=some ↑E/\BelowL w v):=Jh (fun v y=>⟨(y.Z.cell zo).trans co,(y.Z.cell zs).trans ck,(y.Z.cell O).trans V,(y.Z.cell O).trans X,(y.Z.cell O).trans Y,(y.Z.cell O).trans x3,y⟩);have U:Hd (∀v,BelowL w v->Calls prog h (#[.agg #[z,D], .agg #[C,E]]++M) v fun e T=> ∃c:Int,e= .returned ↑c/\(c<0↔K)/\Below v.heap.size v T):=Jh (fun v hv=>f v hv.Z);have pi:(i:Int)<(n:Int):=om;have pk:(k:Int)<(n:Int):=om;clear f Q l o m s;go_in;go_wp2_with fail
 go_region_held3 I
  (first | exact I.Z _ x | exact I.Z _ lS)
  (first
   | (go_at_fn h;((with_reducible refine (U.Z _ (jx aS)).mono ?_);rintro e v1 ⟨cc,rfl,G,R⟩;have x:=BelowL.call (jx aS) R)))
 have HC:=Jh G;have P:=Jh x;clear G x I U;go_wp2_with fail;go_ret;exact ⟨cc,rfl,HC.Z,P.Z.Z⟩
set_option maxRecDepth 100000 in
theorem zPr (h:Nat) (D:Array Value) (m n:Nat) (xs I:Nat->Int) (key:Int->Int) (w:World) (eh: ∀args w,(callFunc h args).run prog w= .ok (.enter h args) w) (hn:n<=100000) (X:0<n) (ci:(∀k,k<n->w.cell? ⟨m,k*2,none⟩=some (.int .i64 (xs k))/\w.cell? ⟨m,k*2+1,none⟩=some (.int .i64 (I k)))) (zi:m<w.heap.size)
 (u: ∀v,Below w.heap.size w v-> ∀i k,i<n->k<n->Calls prog h (#[.agg #[.int .i64 (xs i), .int .i64 (I i)], .agg #[.int .i64 (xs k), .int .i64 (I k)]]++D) v fun e v'=> ∃c:Int,e= .returned ↑c/\(c<0↔key i<key k)/\Below v.heap.size v v'):
 Calls prog 263 #[.slice ↑m n n, .func (.func h) #[] D] w fun e w'=> ∃(f:Nat->Int) (blk:Nat),e= .returned (.slice ↑blk n n)/\w.heap.size<=blk/\Own w' blk n n (gen n f)/\kv key f 0 n/\Below w.heap.size w w':=by
 have CI:Aside _:=ci;have OR:Aside _:=u;clear ci u;go_in;go_wp2_with (at_make;refine jU _ rfl _ _ rfl .i64 .i64 n n n rfl rfl rfl rfl om ?_;intro M U);have z:=Jh (zJ (zJ (Below.refl w.heap.size w) (.cells #[.slice ↑m n n] 238)) (.cells #[.func (.func h) #[] D] 242));obtain ⟨o,l⟩:=zN ((w.alloc (.cells #[.slice ↑m n n] 238)).alloc (.cells #[.func (.func h) #[] D] 242):World);have KS:Hd (Blk o w.heap.size 238 #[.slice ↑m n n]):=Jh (by rw [l];exact (Blk.new w _ _).alloc _);have KO:Hd (Blk o (w.heap.size+1) 242 #[.func (.func h) #[] D]):=Jh (by rw [l];exact Blk.zD _ _ sI);have J:o.heap.size=w.heap.size+1+1:=by rw [l];simp
 try rw [<-l] at U
 rw [<-l] at z⊢;clear l;have HM:Hd (Own (o.alloc (.cells M 3)) (w.heap.size+1+1) n n (List.replicate n 0)):=Jh (by have h:=U.own o;rw [J] at h;exact h);have E:=Jh (zJ (Below.refl o o) (.cells M 3));clear U;have G:=Jh J;clear J;go_wp2_with fail
 go_loopw [12] (fun i wr=> ∃k:Nat,k<=n/\i= .int .i64 k/\Hd (Own wr (w.heap.size+1+1) n n (zn (gen n (fun k=>(k:Int))) (List.replicate n 0) k))/\Hd (Below o o wr)) (fun i _=>n - (intOf i).toNat)
 case atStart=>exact ⟨0,nZ,rfl,Jh (by rw [yh];exact HM.Z),E⟩
 clear HM E;obtain ⟨k,hk,rfl,s,hg⟩:=hrel;by_cases C:k<n
 . have h2:wr.cell? ⟨w.heap.size+1+1,k,none⟩=some (.int .i64 ((zn (gen n (fun k=>(k:Int))) (List.replicate n 0) k).getD k 0)):=s.Z.cell C
   have h3:wr.frozen? ⟨w.heap.size+1+1,k,none⟩=false:=s.Z.frozen k;have Y:=s.Z.set k (k:Int);rw [yd (gen n (fun k=>(k:Int))) _ k _ (by rw [zZ];exact C) sO (yN _ _ _ C)] at Y;have HS:=Jh Y;clear Y s;go_wp2_with fail;go_roundw
   case rel=>exact ⟨k+1,om,by go_num,HS,Jh (hg.Z.setCell (by have:=G.Z;show o.heap.size<=w.heap.size+1+1;omega) _)⟩
   exact Jm
 obtain rfl:k=n:=om;have O:Hd (Own wr (w.heap.size+1+1) k k (gen k (fun k=>(k:Int)))):=Jh (by have h:=s.Z;have e:=Zx (gen k (fun k=>(k:Int))) (List.replicate k 0) (by simp [zZ]);rw [zZ] at e;rwa [e] at h);have HW:=Jh (z.Z.trans (hg.Z.mono z.Z.size));have T:=Jh (KS.Z.below hg.Z KS.Z.lt);have R:=Jh (KO.Z.below hg.Z KO.Z.lt);clear s hg
 have CM:Hd (xS 288 #[.pointer (some ⟨w.heap.size+1,0,none⟩), .pointer (some ⟨w.heap.size,0,none⟩)] key (w.heap.size+1+1) k wr):=Jh (by
  intro W V x y x0 x1 y0 y1;obtain ⟨i,rfl⟩: ∃i:Nat,x=i:=⟨x.toNat,om⟩
  obtain ⟨j,rfl⟩: ∃j:Nat,y=j:=⟨y.toNat,om⟩
  have J:=G.Z;have zr:=O.Z.lt;have o1:=R.Z.grown V (by intro e;have:=Yd e;omega);have s1:=T.Z.grown V (by intro e;have:=Yd e;omega);have H:Below w.heap.size w W:=HW.Z.grown V om (by intro k hk;cases hk;omega);have hh:=zON h D (w.heap.size+1) w.heap.size m k i j xs I (key i<key j) W eh (by rw [o1.cell];rfl) (by rw [s1.cell];rfl) (fun t ht=>⟨(H.cell (p:=↑(m,t*2)) zi).trans (CI.out t ht).1,(H.cell (p:=↑(m,t*2+1)) zi).trans (CI.out t ht).2⟩) o1.lt s1.lt (Yb zi H.size) om om (fun v hv=>OR.out v (H.trans (hv.mono H.size)) i j om om)
  exact hh)
 have EG:Hd (∀args w,(callFunc 288 args).run prog w= .ok (.enter 288 args) w):=Jh (kQ _ _ _ func288 zK rfl);go_wp2_with fail;refine (Xp 288 _ key (w.heap.size+1+1) k _ EG.Z CM.Z O.Z hn X).mono ?_;rintro ex w2 ⟨f,rfl,s,hg,hi⟩;have P:=Jh s;have L:=Jh hi;have Q:=Jh (HW.Z.grown hg (zB O.Z.lt G.Z) (by intro k hk;cases hk;have:=G.Z;omega));clear s hg hi;go_wp2_with fail;go_ret;exact ⟨f,_,rfl,by have:=G.Z;omega,P.Z,L.Z,Q.Z⟩
set_option maxRecDepth 100000 in
theorem zPs (h:Nat) (E:Array Value) (y z o n i k:Nat) (xs:Nat->Int) (K:Prop) (w:World) (eh: ∀args w,(callFunc h args).run prog w= .ok (.enter h args) w)
 (V:w.cell? y=some (.func (.func h) #[] E)) (U:w.cell? z=some (.slice ↑o n n)) (I:(∀k,k<n->w.cell? ⟨o,k,none⟩=some (.int .i64 (xs k)))) (X:y<w.heap.size) (Y:z<w.heap.size) (Q:o<w.heap.size) (hi:i<n) (hk:k<n)
 (f: ∀v,Below w.heap.size w v->Calls prog h (#[.int .i64 (xs i), .int .i64 (xs k)]++E) v fun e L=> ∃c:Int,e= .returned ↑c/\(c<0↔K)/\Below v.heap.size v L):
 Calls prog 227 #[i, .int .i64 k, .pointer ↑y, .pointer ↑z] w fun e w'=> ∃c:Int,e= .returned ↑c/\(c<0↔K)/\Below w.heap.size w w':=by
 have O:=I i hi;have P:=I k hk;obtain ⟨s,l⟩:=zN (xs i);obtain ⟨u,m⟩:=zN (xs k);rw [<-l] at O;rw [<-m] at P
 try rw [<-l] at f
 try rw [<-m] at f
 have H:Hd (∀v,BelowL w v->Jc v y (.func (.func h) #[] E)/\Jc v z (.slice ↑o n n)/\Jc v (JE o i) s/\v.cell? ⟨o,k,none⟩=some ↑u/\BelowL w v):=Jh (fun v D=>⟨(D.Z.cell X).trans V,(D.Z.cell Y).trans U,(D.Z.cell Q).trans O,(D.Z.cell Q).trans P,D⟩);have M:Hd (∀v,BelowL w v->Calls prog h (#[.int .i64 s, .int .i64 u]++E) v fun e L=> ∃c:Int,e= .returned ↑c/\(c<0↔K)/\Below v.heap.size v L):=Jh (fun v hv=>f v hv.Z);have pi:(i:Int)<(n:Int):=om;have pk:(k:Int)<(n:Int):=om;clear f I l m;go_in;go_wp2_with fail
 go_region_held3 (fun v=>Jc v y (.func (.func h) #[] E)/\Jc v z (.slice ↑o n n)/\Jc v (JE o i) s/\v.cell? ⟨o,k,none⟩=some ↑u/\BelowL w v)
  (first | exact H.Z _ x | exact H.Z _ lS)
  (first
   | (go_at_fn h;((with_reducible refine (M.Z _ (ZM aS)).mono ?_);rintro e v1 ⟨T,rfl,C,J⟩;have x:=BelowL.call (ZM aS) J)))
 have R:=Jh C;have G:=Jh x;clear C x H M;go_wp2_with fail;go_ret;exact ⟨T,rfl,R.Z,G.Z.Z⟩
set_option maxRecDepth 100000 in
theorem zQi (h:Nat) (D:Array Value) (s n:Nat) (xs:Nat->Int) (key:Int->Int) (w:World) (eh: ∀args w,(callFunc h args).run prog w= .ok (.enter h args) w) (hn:n<=100000) (V:0<n) (ci:(∀k,k<n->w.cell? ⟨s,k,none⟩=some (.int .i64 (xs k)))) (zi:s<w.heap.size)
 (u: ∀v,Below w.heap.size w v-> ∀i k,i<n->k<n->Calls prog h (#[.int .i64 (xs i), .int .i64 (xs k)]++D) v fun e v'=> ∃c:Int,e= .returned ↑c/\(c<0↔key i<key k)/\Below v.heap.size v v'):
 Calls prog 188 #[.slice ↑s n n, .func (.func h) #[] D] w fun e w'=> ∃(f:Nat->Int) (blk:Nat),e= .returned (.slice ↑blk n n)/\w.heap.size<=blk/\Own w' blk n n (gen n f)/\kv key f 0 n/\Below w.heap.size w w':=by
 have CI:Aside _:=ci;have OR:Aside _:=u;clear ci u;go_in;go_wp2_with (at_make;refine jU _ rfl _ _ rfl .i64 .i64 n n n rfl rfl rfl rfl om ?_;intro M T);have z:=Jh (zJ (zJ (Below.refl w.heap.size w) (.cells #[.slice ↑s n n] 22)) (.cells #[.func (.func h) #[] D] 115));obtain ⟨m,l⟩:=zN ((w.alloc (.cells #[.slice ↑s n n] 22)).alloc (.cells #[.func (.func h) #[] D] 115):World);have KS:Hd (Blk m w.heap.size 22 #[.slice ↑s n n]):=Jh (by rw [l];exact (Blk.new w _ _).alloc _);have KO:Hd (Blk m (w.heap.size+1) 115 #[.func (.func h) #[] D]):=Jh (by rw [l];exact Blk.zD _ _ sI);have I:m.heap.size=w.heap.size+1+1:=by rw [l];simp
 try rw [<-l] at T
 rw [<-l] at z⊢;clear l;have Y:Hd (Own (m.alloc (.cells M 3)) (w.heap.size+1+1) n n (List.replicate n 0)):=Jh (by have h:=T.own m;rw [I] at h;exact h);have E:=Jh (zJ (Below.refl m m) (.cells M 3));clear T;have G:=Jh I;clear I;go_wp2_with fail
 go_loopw [12] (fun i wr=> ∃k:Nat,k<=n/\i= .int .i64 k/\Hd (Own wr (w.heap.size+1+1) n n (zn (gen n (fun k=>(k:Int))) (List.replicate n 0) k))/\Hd (Below m m wr)) (fun i _=>n - (intOf i).toNat)
 case atStart=>exact ⟨0,nZ,rfl,Jh (by rw [yh];exact Y.Z),E⟩
 clear Y E;obtain ⟨k,hk,rfl,o,hg⟩:=hrel;by_cases C:k<n
 . have h2:wr.cell? ⟨w.heap.size+1+1,k,none⟩=some (.int .i64 ((zn (gen n (fun k=>(k:Int))) (List.replicate n 0) k).getD k 0)):=o.Z.cell C
   have h3:wr.frozen? ⟨w.heap.size+1+1,k,none⟩=false:=o.Z.frozen k;have X:=o.Z.set k (k:Int);rw [yd (gen n (fun k=>(k:Int))) _ k _ (by rw [zZ];exact C) sO (yN _ _ _ C)] at X;have HS:=Jh X;clear X o;go_wp2_with fail;go_roundw
   case rel=>exact ⟨k+1,om,by go_num,HS,Jh (hg.Z.setCell (by have:=G.Z;show m.heap.size<=w.heap.size+1+1;omega) _)⟩
   exact Jm
 obtain rfl:k=n:=om;have L:Hd (Own wr (w.heap.size+1+1) k k (gen k (fun k=>(k:Int)))):=Jh (by have h:=o.Z;have e:=Zx (gen k (fun k=>(k:Int))) (List.replicate k 0) (by simp [zZ]);rw [zZ] at e;rwa [e] at h);have HW:=Jh (z.Z.trans (hg.Z.mono z.Z.size));have R:=Jh (KS.Z.below hg.Z KS.Z.lt);have Q:=Jh (KO.Z.below hg.Z KO.Z.lt);clear o hg
 have CM:Hd (xS 227 #[.pointer (some ⟨w.heap.size+1,0,none⟩), .pointer (some ⟨w.heap.size,0,none⟩)] key (w.heap.size+1+1) k wr):=Jh (by
  intro W U x y x0 x1 y0 y1;obtain ⟨i,rfl⟩: ∃i:Nat,x=i:=⟨x.toNat,om⟩
  obtain ⟨j,rfl⟩: ∃j:Nat,y=j:=⟨y.toNat,om⟩
  have I:=G.Z;have zr:=L.Z.lt;have o1:=Q.Z.grown U (by intro e;have:=Yd e;omega);have s1:=R.Z.grown U (by intro e;have:=Yd e;omega);have H:Below w.heap.size w W:=HW.Z.grown U om (by intro k hk;cases hk;omega);have hh:=zPs h D (w.heap.size+1) w.heap.size s k i j xs (key i<key j) W eh (by rw [o1.cell];rfl) (by rw [s1.cell];rfl) (fun t ht=>(H.cell (p:=↑(JE s t)) zi).trans (CI.out t ht)) o1.lt s1.lt (Yb zi H.size) om om (fun v hv=>OR.out v (H.trans (hv.mono H.size)) i j om om)
  exact hh)
 have EG:Hd (∀args w,(callFunc 227 args).run prog w= .ok (.enter 227 args) w):=Jh (kQ _ _ _ func227 zK rfl);go_wp2_with fail;refine (Xp 227 _ key (w.heap.size+1+1) k _ EG.Z CM.Z L.Z hn V).mono ?_;rintro ex w2 ⟨f,rfl,o,hg,hi⟩;have O:=Jh o;have J:=Jh hi;have P:=Jh (HW.Z.grown hg (zB L.Z.lt G.Z) (by intro k hk;cases hk;have:=G.Z;omega));clear o hg hi;go_wp2_with fail;go_ret;exact ⟨f,_,rfl,by have:=G.Z;omega,O.Z,J.Z,P.Z⟩
def Zi (key:Int->Int) (n:Nat):List Int:=gen n (fun i=>(yz key (i:Int) n:Int))
theorem zPm {blk:Nat} (h:Own W blk n cap (gen n F)) (c:t<n) (v:Int):Own (W.setCell (blk,t) ↑v) blk n cap (gen n (fun i=>if i=t then v else F i)):=by
 have h1:=h.set t v;rwa [KU n F (fun i=>if i=t then v else F i) t v c sI (fun i _ hi=>by simp [hi])] at h1
theorem zPF {blk:Nat} (h:Own W blk n cap (List.replicate n 0)):Own W blk n cap (gen n (fun _=>0)):=by
 have e:List.replicate n (0:Int)=gen n (fun _=>0):=xk n _ _ sI (fun k hk=>by simp [List.getD,hk]);rwa [e] at h
set_option maxRecDepth 100000 in
theorem zDU (key:Int->Int) (f:Nat->Int) (blk n:Nat) (w:World) (D:Own w blk n n (gen n f)) (hg:kv key f 0 n) (hn:n<=100000):
 Calls prog 187 #[.slice ↑blk n n] w fun e w'=> ∃nb:Nat,e= .returned (.slice ↑nb n n)/\w.heap.size<=nb/\Own w' nb n n (Zi key n)/\Below w w w':=by
 have z:=Jh D;have l:=Jh hg;clear D hg;go_in;go_wp2_with (at_make;refine jU _ rfl _ _ rfl .i64 .i64 n n n rfl rfl rfl rfl om ?_;intro M C);have y:=Jh (zPF (C.own w));clear C;go_wp2_with fail
 go_loopw [11] (fun i wr=> ∃(k:Nat) (F:Nat->Int),k<=n/\i=↑k/\Hd (Own wr w n n (gen n F))/\Hd (∀j,j<k->F (f j).toNat=(j:Int))/\Hd (Below w w wr)) (fun i _=>n - (intOf i).toNat)
 case atStart=>exact ⟨0,_,nZ,rfl,y,Jh (fun j J=>om),Jh (zJ bR _)⟩
 clear y;obtain ⟨k,F,hk,rfl,m,x,s⟩:=hrel;by_cases c:k<n
 . obtain ⟨t,o⟩: ∃t:Nat,f k=(t:Int):=⟨(f k).toNat,by have:=l.Z.2 k nZ c;omega⟩
   have E:t<n:=by have:=l.Z.2 k nZ c;omega
   have c0:=jE (z.Z.below s.Z z.Z.lt) c;rw [o] at c0;have c1:=jE m.Z E;have P:=m.Z.frozen t;have H:=Jh (zPm m.Z E (k:Int))
   have u:Hd (∀j,j<k+1->(fun i=>if i=t then (k:Int) else F i) (f j).toNat=(j:Int)):=Jh (by
    intro j J;by_cases e:j=k
    subst e;simp [o];have h1:=l.Z.2 j nZ om
    have v:(f j).toNat≠t:=by
     intro O;have I:f j=f k:=by rw [o];omega
     have:=l.Z.1 j k nZ om c;rw [I] at this;exact RL.irrefl this
    simp only [v,if_false]
    exact x.Z j om)
   have L:(t:Int)<(n:Int):=om;clear o;go_wp2_with fail;go_roundw
   case rel=>exact ⟨k+1,_,om,by go_num,H,u,Jh (s.Z.setCell nI _)⟩
   exact Jm
 obtain rfl:k=n:=om;have G:Hd (gen k F=Zi key k):=Jh (zCw (fun i hi=>zLi l.Z x.Z i hi));go_wp2_with fail;go_ret;exact ⟨w.heap.size,rfl,nI,by rw [<-G.Z];exact m.Z,s.Z⟩
theorem zKq:(prog.info? 176).map (fun i=>(i.zero,i.size,i.bytes))=some (some (Xf 2),2,16):=zK
def XS (A B d:Int) (i:Int):Int:=ke A B (i % d) (i/d)
theorem zCx (v:Int) (h:i<xs.length):(xs.set i v).getD i 0=v:=by simp [List.getD,h]
theorem Za (v:Int) (h:i≠j):(xs.set i v).getD j 0=xs.getD j 0:=by simp [List.getD,List.getElem?_set,h]
set_option maxRecDepth 100000 in
theorem Vg {d:Int} {p:Int} (L:Lat A B (N:Int) g d a b p q) (w:World):
 Calls prog 224 #[.agg #[A,B]] w fun e w'=> ∃nb:Nat,e= .returned (.slice ↑nb N N)/\w.heap.size<=nb/\Own w' nb N N (Zi (XS A B d) N)/\Below w.heap.size w w':=by
 have n1:=L.n1;have n2:=L.n2;have d1:=L.w1;have d2:=L.w2;have N1:0<N:=om;have N2:N<=288:=om;have H:=Jh L;clear L;go_in;go_wp2_with fail;refine (kT _ _ _).mono ?_;rw [qR H.Z];rintro e w1 ⟨rfl,hb⟩;have I:=Jh (zI nJ hb);have x:=Jh ((Blk.new w 96 #[A,B]).zA hb);obtain ⟨z,c0,c1⟩:=x.Z.c2;clear hb;go_wp2_with fail;refine (un H.Z _).mono ?_;rintro e w2 ⟨rfl,hb⟩;have J:=Jh (zI I.Z hb);have y:=Jh (x.Z.zA hb);clear hb z c0 c1;go_wp2_with (at_make;refine zOm _ rfl 238 176 2 16 underlying238 zKq dC dC _ _ rfl .i64 .i64 N N N rfl rfl rfl rfl om ?_;intro w3 hr hb);have m:=Jh (zI J.Z hb);have C:=Jh (y.Z.zA hb);have u:=Jh hr;have zb:w.heap.size<w2.heap.size:=y.Z.lt;have G:w.heap.size<=w2.heap.size:=om;clear hr hb;go_wp2_with fail
 go_loopw [14] (fun i wr=> ∃(k:Nat) (xs:List Int),k<=N/\i=↑k/\Hd (RowT wr 176 2 w2.heap.size N N xs)/\Hd (∀j,j<k->xs.getD (j*2) 0=(j:Int) % d/\xs.getD (j*2+1) 0=(j:Int)/d)/\Hd (Blk wr w.heap.size 96 #[A,B])/\Hd (Below w.heap.size w wr)) (fun i _=>N - (intOf i).toNat)
 case atStart=>exact ⟨0,_,nZ,rfl,u,Jh (fun j hj=>om),C,m⟩
 clear u C m;obtain ⟨k,xs,hk,rfl,s,HX,KB,HB⟩:=hrel;obtain ⟨z,c0,c1⟩:=KB.Z.c2;by_cases b4:k<N
 . obtain ⟨U,hU⟩: ∃U,(k:Int) % d=U:=⟨_,rfl⟩
   obtain ⟨V,hV⟩: ∃V,(k:Int)/d=V:=⟨_,rfl⟩
   have HU:=Jh hU;have HV:=Jh hV;clear hU hV;have kn:(k:Int)<(N:Int):=om;go_wp2_with fail;refine (Ql H.Z (k:Int) om om _).mono ?_;rw [HU.Z,HV.Z];rintro e w4 ⟨rfl,hb⟩;have M:=Jh (zI HB.Z hb);have b1:=Jh (KB.Z.zA hb);have l:=Jh (s.Z.below hb s.Z.lt);clear z c0 c1 hb;have g0:=l.Z.cell (j:=k*2) om;have g1:=l.Z.cell (j:=k*2+1) om;have f0:=l.Z.frozen (k*2);have f1:=l.Z.frozen (k*2+1);have Y:=Jh ((l.Z.set (k*2) U).set (k*2+1) V)
   have b0:Hd (∀j,j<k+1->((xs.set (k*2) U).set (k*2+1) V).getD (j*2) 0=(j:Int) % d/\((xs.set (k*2) U).set (k*2+1) V).getD (j*2+1) 0=(j:Int)/d):=Jh (by
    intro j hj;have hl:=l.Z.len;by_cases e:j=k
    subst e;rw [HU.Z,HV.Z];exact ⟨by rw [Za V om,zCx U om],by rw [zCx V sO]⟩;rw [Za V om,Za U om,Za V om,Za U om]
    exact HX.Z j om)
   have b2:=Jh ((b1.Z.other (a:=↑(w2,k*2)) sO (.int .i64 U)).other (a:=↑(w2,k*2+1)) sO (.int .i64 V));have O:=Jh ((M.Z.setCell (p:=↑(w2,k*2)) (by exact G) (.int .i64 U)).setCell (p:=↑(w2,k*2+1)) (by exact G) (.int .i64 V));go_wp2_with fail;go_roundw
   case rel=>exact ⟨k+1,_,om,by go_num,Y,b0,b2,O⟩
   exact Jm
 obtain rfl:k=N:=om;have EG:Hd (∀args w,(callFunc 261 args).run prog w= .ok (.enter 261 args) w):=Jh (kQ _ _ _ func261 zK rfl)
 have OR:Hd (∀v,Below wr wr v-> ∀i j:Nat,i<k->j<k->Calls prog 261 (#[.agg #[.int .i64 ((i:Int) % d), .int .i64 ((i:Int)/d)], .agg #[.int .i64 ((j:Int) % d), .int .i64 ((j:Int)/d)]]++#[.pointer (some ⟨w.heap.size,0,none⟩)]) v fun e v'=> ∃c:Int,e= .returned ↑c/\(c<0↔XS A B d (i:Int)<XS A B d (j:Int))/\Below v.heap.size v v'):=Jh (fun v hv i j hi hj=>by
  have kb:=KB.Z.zA hv;obtain ⟨z,c0,c1⟩:=kb.c2
  exact zPj H.Z _ _ _ _ w.heap.size v z c0 c1)
 have CI:Hd (∀t,t<k->wr.cell? ⟨w2.heap.size,t*2,none⟩=some (.int .i64 ((t:Int) % d))/\wr.cell? ⟨w2.heap.size,t*2+1,none⟩=some (.int .i64 ((t:Int)/d))):=Jh (fun t ht=>by
  have h1:=s.Z.cell (j:=t*2) om;have h2:=s.Z.cell (j:=t*2+1) om;rw [(HX.Z t ht).1] at h1;rw [(HX.Z t ht).2] at h2
  exact ⟨h1,h2⟩)
 have ZI:=Jh s.Z.lt;go_wp2_with fail;refine (zPr 261 #[.pointer (some ⟨w.heap.size,0,none⟩)] w2.heap.size k (fun t=>(t:Int) % d) (fun t=>(t:Int)/d) (XS A B d) _ EG.Z om N1 CI.Z ZI.Z OR.Z).mono ?_;rintro e w5 ⟨f,blk,rfl,b3,E,hg,hb⟩;have o:=Jh (zI HB.Z hb);have T:=Jh E;have Q:=Jh hg;clear b3 E hg hb;go_wp2_with fail;refine (zDU (XS A B d) f blk k _ T.Z Q.Z om).mono ?_;rintro e w6 ⟨nb,rfl,D,E,hb⟩;have P:=Jh (zI o.Z hb);have X:=Jh E;have R:=Jh (Yx o.Z.size D);clear D E hb;go_wp2_with fail;go_ret;exact ⟨nb,rfl,R.Z,X.Z,P.Z⟩
end
section
variable {A B a b g n q w : Int} {k : Nat}
open Tq Go.Proofs.Tryz
structure Eu where
  sx : Int
  sy : Int
  ox : Int
  oy : Int
deriving DecidableEq
def zEg (s:Eu):Eu:=⟨s.ox,s.oy,s.sx+s.ox*-(s.sy/s.oy),s.sy+s.oy*-(s.sy/s.oy)⟩
def JF (A B:Int):Nat->Eu
 | 0=>⟨A,B,-B,A⟩
 | k+1=>if (JF A B k).oy=0 then JF A B k else zEg (JF A B k)
def zNF (A B:Int) (k:Nat) (s:Eu):Bool:=
 decide (-1000<=s.sx) && decide (s.sx<=1000) && decide (0<=s.sy) && decide (s.sy<=1000) && decide (-1000<=s.ox) && decide (s.ox<=1000) && decide (0<=s.oy) && decide (s.oy<=1000) &&
 (decide (s.oy≠0) || (decide (s.sy=gI A B) && decide ((s.sx*A+s.sy*B) % vO A B=0) && decide ((s.sy*A - s.sx*B) % vO A B=0))) && (decide (s.oy=0) || (decide (k<9) && decide (0<=s.sy/s.oy) && decide (s.sy/s.oy<=1000) && decide (-1000<=s.ox*-(s.sy/s.oy)) && decide (s.ox*-(s.sy/s.oy)<=1000) && decide (-1000<=s.oy*-(s.sy/s.oy)) && decide (s.oy*-(s.sy/s.oy)<=1000)))
theorem zQX: ∀A:Fin 13,∀B:Fin 13,∀k:Fin 10,1<=A.val->zNF A.val B.val k.val (JF A.val B.val k.val)=true:=by decide+kernel
theorem zRN {p:Int} (L:Lat A B n g w a b p q) (hk:k<10):zNF A B k (JF A B k)=true:=by
 have a1:=L.a1;have a2:=L.a2;have b1:=L.b1;have b2:=L.b2;obtain ⟨x,rfl⟩: ∃x:Nat,A=x:=⟨A.toNat,om⟩
 obtain ⟨y,rfl⟩: ∃y:Nat,B=y:=⟨B.toNat,om⟩
 exact zQX ⟨x,om⟩ ⟨y,om⟩ ⟨k,hk⟩ (by simp only;omega)
theorem zRO {p:Int} (L:Lat A B n g w a b p q) (hk:k<10) {s:Eu} (y:JF A B k=s):
 -1000<=s.sx/\s.sx<=1000/\0<=s.sy/\s.sy<=1000/\-1000<=s.ox/\s.ox<=1000/\0<=s.oy/\s.oy<=1000/\(s.oy=0->s.sy=g/\kF A B s.sx g)/\
 (s.oy≠0->k<9/\0<=s.sy/s.oy/\s.sy/s.oy<=1000/\-1000<=s.ox*-(s.sy/s.oy)/\s.ox*-(s.sy/s.oy)<=1000/\-1000<=s.oy*-(s.sy/s.oy)/\s.oy*-(s.sy/s.oy)<=1000/\JF A B (k+1)=zEg s):=by
 have h:=zRN L hk;rw [y] at h;simp only [zNF,Bool.and_eq_true,Bool.or_eq_true,decide_eq_true_eq] at h;obtain ⟨⟨⟨⟨⟨⟨⟨⟨⟨h1,h2⟩,h3⟩,h4⟩,z⟩,C⟩,D⟩,E⟩,m⟩,c⟩:=h;refine ⟨h1,h2,h3,h4,z,C,D,E,fun e=>?_,fun e=>?_⟩;rcases m with m | ⟨⟨m,f⟩,l⟩
 exact absurd e m;rw [L.hg] at m;rw [m] at f l;exact ⟨m,Int.dvd_of_emod_eq_zero f,Int.dvd_of_emod_eq_zero l⟩;rcases c with c | ⟨⟨⟨⟨⟨⟨c,f⟩,l⟩,o⟩,u⟩,v⟩,x⟩
 exact absurd c e;refine ⟨c,f,l,o,u,v,x,?_⟩;rw [JF,y,if_neg e]
end
section
open Go.RowKit Tq Go.Proofs.Tryz
variable {A B a b g n q : Int}
theorem zId (x y u v:Int) (w:World) (h1:-10000000<=x) (h2:x<=10000000) (h3:-10000000<=y) (h4:y<=10000000) (c:-10000000<=u) (e:u<=10000000) (f:-10000000<=v) (l:v<=10000000):
 Calls prog 181 #[.agg #[x,y], .agg #[u,v]] w (zR (.agg #[.int .i64 (x+u), .int .i64 (y+v)]) w):=by
 go_in;go_wp2_with fail;exact bodyPost_ret (v:= .agg #[.int .i64 (x+u), .int .i64 (y+v)]) (Jr results181) rfl ⟨rfl,((bR.alloc nI _).alloc sI _).alloc sO _⟩
theorem zGg (x y u:Int) (w:World) (h1:-1000000<=x*u) (h2:x*u<=1000000) (h3:-1000000<=y*u) (h4:y*u<=1000000):
 Calls prog 289 #[.agg #[x,y],u] w (zR (.agg #[.int .i64 (x*u), .int .i64 (y*u)]) w):=by
 go_in;go_wp2_with fail;exact bodyPost_ret (v:= .agg #[.int .i64 (x*u), .int .i64 (y*u)]) (Jr results289) rfl ⟨rfl,(bR.alloc nI _).alloc sI _⟩
def zMn (w wx:World) (s:Eu) (v3 v4:Value):Prop:= ∃g1 g2:Nat,v3= .pointer ↑g1/\v4= .pointer ↑g2/\g1≠g2/\w.heap.size<=g1/\w.heap.size<=g2/\Blk wx g1 176 #[s.sx,s.sy]/\Blk wx g2 176 #[s.ox,s.oy]/\Below w w wx
theorem zRP (w:World) (s:Eu):zMn w (((w.alloc (.cells #[s.sx,s.sy] 176)).alloc (.cells #[s.ox,s.oy] 176)).drew) s (.pointer ↑w) (.pointer ↑(w.heap.size+1)):=
 ⟨w.heap.size,w.heap.size+1,rfl,rfl,om,nI,om,((Blk.new w _ _).alloc _).drew,(Blk.zD _ _ sI).drew,(zJ (zJ (Below.refl w w) _) _).drew⟩
theorem zQW (w:World) (s:Eu):zMn w (((w.alloc (.cells #[s.ox,s.oy] 176)).alloc (.cells #[s.sx,s.sy] 176)).drew) s (.pointer ↑(w.heap.size+1)) (.pointer ↑w):=
 ⟨w.heap.size+1,w.heap.size,rfl,rfl,om,om,nI,(Blk.zD _ _ sI).drew,((Blk.new w _ _).alloc _).drew,(zJ (zJ (Below.refl w w) _) _).drew⟩
set_option maxRecDepth 100000 in
theorem Zn {d p:Int} (L:Lat A B n g d a b p q) (w:World):
 Calls prog 265 #[.agg #[A,B]] w fun e w'=> ∃sx,e= .returned (.agg #[.int .i64 sx,g])/\kF A B sx g/\-1000<=sx/\sx<=1000/\Below w w w':=by
 have HL:=Jh L;have a1:=L.a1;have a2:=L.a2;have b1:=L.b1;have b2:=L.b2;clear L;go_in;go_upto_region 1 with fail;have KP:=Jh ((Blk.new w 96 #[A,B]).alloc (.cells #[Z0,Z0] 176));have KZ:=Jh (Blk.zD (g:=w.heap.size+1) (w:=w.alloc (.cells #[A,B] 96)) 176 #[Z0,Z0] sI);have P:=Jh (zJ (zJ (Below.refl w w) (.cells #[A,B] 96)) (.cells #[Z0,Z0] 176));obtain ⟨z,b5⟩:=zN ((w.alloc (.cells #[A,B] 96)).alloc (.cells #[Z0,Z0] 176):World);rw [<-b5] at KP KZ P⊢;clear b5
 go_cut [3,4] (fun s3 s4 wx=>zMn z wx ⟨A,B,-B,A⟩ s3 s4)
 case first=>
  obtain ⟨l0,o0,o1⟩:=KP.Z.c2;have t1:IntKind.i64.wrap (-B)=-B:=Yc _ om;have l:Hd (∀v,BelowL z v->Jc v w A/\Jc v (w,1) B/\BelowL z v):=Jh (fun v u=>⟨(u.Z.cell l0).trans o0,(u.Z.cell l0).trans o1,u⟩);refine wp_region_held_drew (S:=fun v=>Jc v w A/\Jc v (w,1) B/\BelowL z v) zK (l.Z _ lS) ?_;intro c;have f:=uo c;refine zO 0 ?_;refine zO 1 ?_;refine zO 2 ?_;refine zO 3 ?_;refine zO 4 ?_;refine zO 5 ?_;refine zO 6 ?_;refine zO 7 ?_;refine zO 8 ?_;refine zO 9 ?_;refine zO 10 ?_;refine wpAnyH_ready (rs:=[11,12]) zK sI ?_;refine AllReadyH.cons rfl (fun K hK=>?_) (AllReadyH.cons rfl (fun K hK=>?_) AllReadyH.nil)
  . go_simp
    refine hK.out _ _ (Jd (l.Z _ (BelowL.alloc f _))) (fun c=>?_);clear hK K;refine zy 12 (fun K hK=>?_);go_simp;refine hK.out _ _ (by (try dsimp only);exact l.Z _ (BelowL.alloc (BelowL.alloc f _) _)) (fun c=>?_);clear hK K;refine zy 13 (fun K hK=>?_);go_simp;refine hK.out _ _ (by (try dsimp only);exact l.Z _ (BelowL.alloc (BelowL.alloc f _) _)) (fun c=>?_);clear hK K;refine zy 14 (fun K hK=>?_);go_simp;refine hK.out _ _ (by (try dsimp only);exact l.Z _ (BelowL.alloc (BelowL.alloc f _) _)) (fun c=>?_);clear hK K;refine wpAnyH_done zK ?_ _;(try go_simp);go_wp2_with fail;go_meet;exact zRP z ⟨A,B,-B,A⟩
  go_simp;refine hK.out _ _ (Jd (l.Z _ (BelowL.alloc f _))) (fun c=>?_);clear hK K;refine zy 11 (fun K hK=>?_);go_simp;refine hK.out _ _ (by (try dsimp only);exact l.Z _ (BelowL.alloc (BelowL.alloc f _) _)) (fun c=>?_);clear hK K;refine zy 13 (fun K hK=>?_);go_simp;refine hK.out _ _ (by (try dsimp only);exact l.Z _ (BelowL.alloc (BelowL.alloc f _) _)) (fun c=>?_);clear hK K;refine zy 14 (fun K hK=>?_);go_simp;refine hK.out _ _ (by (try dsimp only);exact l.Z _ (BelowL.alloc (BelowL.alloc f _) _)) (fun c=>?_);clear hK K;refine wpAnyH_done zK ?_ _;(try go_simp);go_wp2_with fail;go_meet;exact zQW z ⟨A,B,-B,A⟩
 obtain ⟨g1,g2,rfl,rfl,x,h1,h2,k1,k2,hb⟩:=hcut;have K1:=Jh k1;have K2:=Jh k2;have HB:=Jh hb;have hz:=KZ.Z.lt;clear k1 k2 hb;go_wp2_with fail
 go_loopg [16] 10 (fun gh c1 wr=> ∃(k:Nat) (X Y O V:Int),k<10/\9<=k+gh/\Hd (JF A B k=⟨X,Y,O,V⟩)/\Hd (Blk wr g1 176 #[X,Y])/\Hd (Blk wr g2 176 #[O,V])/\Hd (Below z z wr))
 case atStart=>exact ⟨0,A,B,-B,A,om,om,Jh rfl,K1,K2,HB⟩
 clear K1 K2 HB;obtain ⟨k,X,Y,O,V,hk,b7,HE,R1,R2,RB⟩:=hrel;obtain ⟨e1,e2,e3,e4,e5,e6,e7,e8,e9,s⟩:=zRO HL.Z hk HE.Z;simp only at e1 e2 e3 e4 e5 e6 e7 e8 e9 s;obtain ⟨l1,p0,p1⟩:=R1.Z.c2;obtain ⟨H,I,J⟩:=R2.Z.c2;by_cases hV:V=0
 . obtain ⟨rfl,y⟩:=e9 hV
   subst hV;have HH:=Jh y;have C:=Jh (KZ.Z.below RB.Z hz);obtain ⟨l3,r0,r1⟩:=C.Z.c2;have f0:=C.Z.frozen 0;have f1:=C.Z.frozen 1;clear e9 s y;go_wp2_with fail;exact bodyPost_ret (v:= .agg #[X,Y]) (by simp [results,results265,go_sem,r0,r1]) rfl ⟨X,rfl,HH.Z,e1,e2,((zI P.Z RB.Z).setCell sI _).setCell sI _⟩
 obtain ⟨k9,d1,d2,d3,d4,d5,d6,d7⟩:=s hV;have b8:(V !=0)=true:=by simpa using hV
 have c0:(V==0)=false:=by simpa using hV
 have HN:=Jh d7;obtain ⟨D,hD⟩: ∃D,Y/V=D:=⟨_,rfl⟩
 rw [hD] at d1 d2 d3 d4 d5 d6;have t1:Y.tdiv V=D:=by rw [Yt e3];exact hD
 have t2:IntKind.i64.wrap D=D:=Yc _ om;have t3:IntKind.i64.wrap (-D)=-D:=Yc _ om;have HD:=Jh hD;clear e9 s d7 hD;go_upto_region 3 with fail;have l:Hd (∀v,BelowL wr v->Jc v g1 X/\Jc v (g1,1) Y/\Jc v g2 O/\Jc v (g2,1) V/\BelowL wr v):=Jh (fun v u=>⟨(u.Z.cell l1).trans p0,(u.Z.cell l1).trans p1,(u.Z.cell H).trans I,(u.Z.cell H).trans J,u⟩);refine zh 11 l zK (l.Z _ lS) ?_;intro c;have f:=ZM c;refine zM 0 ?_;refine zM 1 ?_;refine zM 2 ?_;refine zM 3 ?_;refine zM 4 ?_;refine zM 5 ?_;refine zM 6 ?_;refine zM 7 ?_;refine zM 8 ?_;refine zW 9 (fun K hK=>?_);go_simp
 go_at_call 289
 ((with_reducible refine (zGg _ _ _ _ om om om om).mono ?_);rintro e v1 ⟨rfl,b0⟩);have E:=BelowL.call f b0;go_wp2_with fail;refine hK.out _ _ (fun _=>Jd (l.Z _ E)) (fun hH2=>?_);clear hK K c hH2;refine zW 10 (fun K hK=>?_);go_simp
 go_at_call 181
 ((with_reducible refine (zId _ _ _ _ _ om om om om om om om om).mono ?_);rintro e v2 ⟨rfl,b3⟩);have m:=BelowL.call E b3;have Q:=Jh (R1.Z.zA m.Z);have T:=Jh (R2.Z.zA m.Z);go_wp2_with fail;refine hK.out _ _ (fun _=>Jd (l.Z _ m)) (fun hH2=>?_);clear hK K hH2;clear p0 p1 I J;obtain ⟨l1,p0,p1⟩:=Q.Z.c2;obtain ⟨H,I,J⟩:=T.Z.c2;have f0:=Q.Z.frozen 0;have f1:=Q.Z.frozen 1;have f2:=T.Z.frozen 0;have f3:=T.Z.frozen 1;refine zW 11 (fun K hK=>?_);go_simp;have S3:=Jh ((Q.Z.set 0 ↑O).set 1 ↑V);have U:=Jh ((T.Z.other (a:=↑g1) (by exact x) ↑O).other (a:=↑(g1,1)) (by exact x) ↑V);have M:=Jh (((zI RB.Z m.Z).setCell (p:=↑g1) (by exact h1) ↑O).setCell (p:=↑(g1,1)) (by exact h1) ↑V);refine hK.out _ _ (fun h=>absurd h dC) (fun hH2=>?_);clear hK K hH2;clear l1 p0 p1 H I J f0 f1 f2 f3 f E m b0 b3 Q T l;obtain ⟨w3,b4⟩:=zN ((v2.setCell g1 ↑O).setCell (g1,1) ↑V);rw [<-b4] at S3 U M⊢;clear b4;obtain ⟨H,I,J⟩:=U.Z.c2;have f2:=U.Z.frozen 0;have f3:=U.Z.frozen 1;refine zW 12 (fun K hK=>?_);go_simp;have S5:=Jh ((S3.Z.other (a:=↑g2) (by exact fun h=>x h.symm) (.int .i64 (X+O*-D))).other (a:=↑(g2,1)) (by exact fun h=>x h.symm) (.int .i64 (Y+V*-D)));have S6:=Jh ((U.Z.set 0 (.int .i64 (X+O*-D))).set 1 (.int .i64 (Y+V*-D)));have b6:=Jh ((M.Z.setCell (p:=↑g2) (by exact h2) (.int .i64 (X+O*-D))).setCell (p:=↑(g2,1)) (by exact h2) (.int .i64 (Y+V*-D)));refine hK.out _ _ (fun h=>absurd h dC) (fun hH2=>?_);clear hK K hH2;refine zx zK ?_ _;(try go_simp);clear H I J f2 f3;go_wp2_with fail
 go_roundg (8 - k)
 case measure=>omega
 exact ⟨k+1,O,V,X+O*-D,Y+V*-D,om,om,Jh (by rw [HN.Z];unfold zEg;simp only [HD.Z]),S5,S6,b6⟩
end
end Go.Proofs.YtlenfgdjdianiaaGreatDoor
