/- Facts on which this claim rests, 17. -/
import Derived.Laws.CopyOwn
import Derived.Test.YtlenfgdjdianiaaGreatDoorF16
set_option linter.all false
set_option maxHeartbeats 6400000
namespace Go.Proofs.YtlenfgdjdianiaaGreatDoor
section
variable {L : Int} {ds es rs sh vs : List Int} {t : Nat}
section
variable {alt : Bool} {ks : List Prt} {W H : Int} {ink : List Int} {n : Nat}
open Tq Go.Proofs.Tryz
structure jb (alt:Bool) (ks:List Prt) (W H:Int) (ink:List Int) (n t:Nat) (ds rs:List Int) (L:Int):Prop where
 hd:ds=(yC alt ks W H ink t).dots
 hL:L=(yC alt ks W H ink t).lost
 hl:rs.length=n
 old: ∀i,i<t->i<n->rs.getD (zQ alt W i) 0=(yC alt ks W H ink t).errs.getD (zQ alt W i) 0
 new: ∀i,t<=i->i<n->rs.getD (zQ alt W i) 0=(yC alt ks W H ink t).pend.getD (zQ alt W i) 0
theorem jb.start (h:xz alt ks W H ink n):jb alt ks W H ink n 0 (List.replicate n 0) ink 0:=
 ⟨by simp only [yC];rw [h.hl],rfl,h.hl,fun i hi=>om,fun i _ hi=>rfl⟩
theorem Uz {S:Nat->Prop} {a b:List Int × Int} {T:Nat->Option Nat} (hl:a.1.length=b.1.length) (h: ∀j,S j->a.1.getD j 0=b.1.getD j 0) (h2:a.2=b.2) (k:Nat):
 (∀j,S j->(xM T sh a k).1.getD j 0=(xM T sh b k).1.getD j 0)/\(xM T sh a k).2=(xM T sh b k).2:=by
 induction k with
 | zero=>exact ⟨h,h2⟩
 | succ k i=>
  simp only [xM];exact ⟨zIY (by rw [Zb,Zb,hl]) i.1,zKe _ _ _ _ i.2⟩
theorem jb.here (h:xz alt ks W H ink n) (r:jb alt ks W H ink n t ds rs L) (i:t<n):
 rs.getD (zQ alt W t) 0=(yC alt ks W H ink t).pend.getD (zQ alt W t) 0/\ds.getD (zQ alt W t) 0=0/\-300000<=rs.getD (zQ alt W t) 0/\rs.getD (zQ alt W t) 0<=300000:=by
 have e:=r.new t nI i;have b:=zCP h t om (zQ alt W t);have z:=(Kg h t om).2.1 t nI i;exact ⟨e,by rw [r.hd];exact z.1,om,om⟩
theorem jb.mid (h:xz alt ks W H ink n) (r:jb alt ks W H ink n t ds rs L) (m:t<n) (k:Nat) (hk:k<=ks.length):
 (∀i,t<i->i<n->(ye alt ks W H t (yD (rs.getD (zQ alt W t) 0)) (rs.set (zQ alt W t) (yD (rs.getD (zQ alt W t) 0)),L) k).1.getD (zQ alt W i) 0=(ye alt ks W H t (yD ((yC alt ks W H ink t).pend.getD (zQ alt W t) 0)) ((yC alt ks W H ink t).pend.set (zQ alt W t) 0,(yC alt ks W H ink t).lost) k).1.getD (zQ alt W i) 0)/\
 (ye alt ks W H t (yD (rs.getD (zQ alt W t) 0)) (rs.set (zQ alt W t) (yD (rs.getD (zQ alt W t) 0)),L) k).2=(ye alt ks W H t (yD ((yC alt ks W H ink t).pend.getD (zQ alt W t) 0)) ((yC alt ks W H ink t).pend.set (zQ alt W t) 0,(yC alt ks W H ink t).lost) k).2:=by
 have e:=(r.here h m).1;rw [e];unfold ye;have s:=(ZE (alt:=alt) (ks:=ks) (W:=W) (H:=H) (ink:=ink) t).2.1
 have g:=Uz (S:=fun j=> ∃i,t<i/\i<n/\j=zQ alt W i) (a:=(rs.set (zQ alt W t) (yD ((yC alt ks W H ink t).pend.getD (zQ alt W t) 0)),L)) (b:=((yC alt ks W H ink t).pend.set (zQ alt W t) 0,(yC alt ks W H ink t).lost))
  (T:=fun q=>vf alt W H t (prt ks q)) (sh:=yI ks (yB ks ks.length) (yD ((yC alt ks W H ink t).pend.getD (zQ alt W t) 0)))
  (by simp only [List.length_set];rw [r.hl,s,h.hl]) (fun j u=>by
   obtain ⟨i,x,l,rfl⟩:=u;simp only;rw [getD_set_ne _ _ (h.ne m l om),getD_set_ne _ _ (h.ne m l om)]
   exact r.new i om l) r.hL k
 exact ⟨fun i h1 h2=>g.1 _ ⟨i,h1,h2,rfl⟩,g.2⟩
theorem jb.safe (h:xz alt ks W H ink n) (r:jb alt ks W H ink n t ds rs L) (l:t<n) (k:Nat) (hk:k<ks.length):
 -300000<=(ye alt ks W H t (yD (rs.getD (zQ alt W t) 0)) (rs.set (zQ alt W t) (yD (rs.getD (zQ alt W t) 0)),L) k).2/\(ye alt ks W H t (yD (rs.getD (zQ alt W t) 0)) (rs.set (zQ alt W t) (yD (rs.getD (zQ alt W t) 0)),L) k).2<=300000/\
 ∀i,vf alt W H t (prt ks k)=some i->-300000<=(ye alt ks W H t (yD (rs.getD (zQ alt W t) 0)) (rs.set (zQ alt W t) (yD (rs.getD (zQ alt W t) 0)),L) k).1.getD i 0/\(ye alt ks W H t (yD (rs.getD (zQ alt W t) 0)) (rs.set (zQ alt W t) (yD (rs.getD (zQ alt W t) 0)),L) k).1.getD i 0<=300000:=by
 obtain ⟨s,m⟩:=r.mid h l k om;have b:=fun j=>zHt h t l k om j;refine ⟨by rw [m];exact (b 0).2.2.1,by rw [m];exact (b 0).2.2.2,fun i hi=>?_⟩;obtain ⟨q,x,u,rfl⟩:=h.tgt l hk hi;rw [s q x u];exact ⟨(b _).1,(b _).2.1⟩
theorem jb.step (h:xz alt ks W H ink n) (r:jb alt ks W H ink n t ds rs L) (k:t<n):
 jb alt ks W H ink n (t+1) (ds.set (zQ alt W t) (uK (rs.getD (zQ alt W t) 0)))
  (ye alt ks W H t (yD (rs.getD (zQ alt W t) 0)) (rs.set (zQ alt W t) (yD (rs.getD (zQ alt W t) 0)),L) ks.length).1
  (ye alt ks W H t (yD (rs.getD (zQ alt W t) 0)) (rs.set (zQ alt W t) (yD (rs.getD (zQ alt W t) 0)),L) ks.length).2:=by
 obtain ⟨s,u⟩:=r.mid h k ks.length nI;have e:=(r.here h k).1;obtain ⟨B,A,z⟩:=ZE (alt:=alt) (ks:=ks) (W:=W) (H:=H) (ink:=ink) t;have hp:=h.pos (alt:=alt) k;refine ⟨by rw [r.hd,e];rfl,by rw [u];rfl,by rw [Xj];simpa using r.hl,fun i hi j=>?_,fun i hi j=>?_⟩
 have no: ∀q,q<ks.length->vf alt W H t (prt ks q)≠some (zQ alt W i):=fun q x l=>by
  obtain ⟨m,k1,k2,k3⟩:=h.tgt k x l;exact h.ne j k2 om k3
 have g:(ye alt ks W H t (yD (rs.getD (zQ alt W t) 0)) (rs.set (zQ alt W t) (yD (rs.getD (zQ alt W t) 0)),L) ks.length).1.getD (zQ alt W i) 0=(rs.set (zQ alt W t) (yD (rs.getD (zQ alt W t) 0))).getD (zQ alt W i) 0:=zAl no;rw [g];simp only [yC,zBL];by_cases c:i=t
 subst c;rw [kw _ _ _ _ (by rw [r.hl];exact hp),if_pos rfl,kw _ _ _ _ (by rw [z,h.hl];exact hp),if_pos rfl,e];rw [getD_set_ne _ _ (h.ne k j om),getD_set_ne _ _ (h.ne k j om)];exact r.old i om j;rw [s i om j];rfl
theorem jb.done (h:xz alt ks W H ink n) (r:jb alt ks W H ink n n ds rs L):ds=(yC alt ks W H ink n).dots/\rs=(yC alt ks W H ink n).errs/\L=(yC alt ks W H ink n).lost:=by
 refine ⟨r.hd,?_,r.hL⟩;have m:=(ZE (alt:=alt) (ks:=ks) (W:=W) (H:=H) (ink:=ink) n).2.2;have l:=r.hl;have k:=h.hl;apply List.ext_getElem?;intro j;by_cases i:j<n
 have q:=h.pos (alt:=alt) i;have:=r.old (zQ alt W j) q q;rw [XU h.W1 h.hn i] at this;simp only [List.getD,Ya (show j<rs.length by omega),Ya (show j<(yC alt ks W H ink n).errs.length by omega),Yz] at this;rw [Ya (show j<rs.length by omega),Ya (show j<(yC alt ks W H ink n).errs.length by omega),this];rw [Yv om,Yv om]
structure vy (alt:Bool) (ks:List Prt) (W H:Int) (ink:List Int) (n t:Nat) (ds es vs:List Int) (L:Int):Prop where
 hd:ds=(yC alt ks W H ink t).dots
 he:es=(yC alt ks W H ink t).errs
 hL:L=(yC alt ks W H ink t).lost
 hl:vs.length=n
 new: ∀i,t<=i->i<n->vs.getD (zQ alt W i) 0=(yC alt ks W H ink t).pend.getD (zQ alt W i) 0
theorem vy.start (h:xz alt ks W H ink n):vy alt ks W H ink n 0 (List.replicate n 0) (List.replicate n 0) ink 0:=
 ⟨by simp only [yC];rw [h.hl],by simp only [yC];rw [h.hl],rfl,h.hl,fun i _ hi=>rfl⟩
theorem vy.here (h:xz alt ks W H ink n) (r:vy alt ks W H ink n t ds es vs L) (i:t<n):
 vs.getD (zQ alt W t) 0=(yC alt ks W H ink t).pend.getD (zQ alt W t) 0/\ds.getD (zQ alt W t) 0=0/\-300000<=vs.getD (zQ alt W t) 0/\vs.getD (zQ alt W t) 0<=300000/\-300000<=L/\L<=300000:=by
 have e:=r.new t nI i;have b:=zCP h t om (zQ alt W t);have z:=(Kg h t om).2.1 t nI i;exact ⟨e,by rw [r.hd];exact z.1,om,om,by rw [r.hL];omega,by rw [r.hL];omega⟩
theorem vy.mid (h:xz alt ks W H ink n) (r:vy alt ks W H ink n t ds es vs L) (m:t<n) (k:Nat):
 (∀i,t<i->i<n->(ye alt ks W H t (yD (vs.getD (zQ alt W t) 0)) (vs,L) k).1.getD (zQ alt W i) 0=(ye alt ks W H t (yD ((yC alt ks W H ink t).pend.getD (zQ alt W t) 0)) ((yC alt ks W H ink t).pend.set (zQ alt W t) 0,(yC alt ks W H ink t).lost) k).1.getD (zQ alt W i) 0)/\
 (ye alt ks W H t (yD (vs.getD (zQ alt W t) 0)) (vs,L) k).2=(ye alt ks W H t (yD ((yC alt ks W H ink t).pend.getD (zQ alt W t) 0)) ((yC alt ks W H ink t).pend.set (zQ alt W t) 0,(yC alt ks W H ink t).lost) k).2:=by
 have e:=(r.here h m).1;rw [e];unfold ye;have s:=(ZE (alt:=alt) (ks:=ks) (W:=W) (H:=H) (ink:=ink) t).2.1
 have g:=Uz (S:=fun j=> ∃i,t<i/\i<n/\j=zQ alt W i) (a:=(vs,L)) (b:=((yC alt ks W H ink t).pend.set (zQ alt W t) 0,(yC alt ks W H ink t).lost))
  (T:=fun q=>vf alt W H t (prt ks q)) (sh:=yI ks (yB ks ks.length) (yD ((yC alt ks W H ink t).pend.getD (zQ alt W t) 0)))
  (by simp only [List.length_set];rw [r.hl,s,h.hl]) (fun j u=>by
   obtain ⟨i,x,l,rfl⟩:=u;simp only;rw [getD_set_ne _ _ (h.ne m l om)]
   exact r.new i om l) r.hL k
 exact ⟨fun i h1 h2=>g.1 _ ⟨i,h1,h2,rfl⟩,g.2⟩
theorem vy.safe (h:xz alt ks W H ink n) (r:vy alt ks W H ink n t ds es vs L) (l:t<n) (k:Nat) (hk:k<ks.length):
 -300000<=(ye alt ks W H t (yD (vs.getD (zQ alt W t) 0)) (vs,L) k).2/\(ye alt ks W H t (yD (vs.getD (zQ alt W t) 0)) (vs,L) k).2<=300000/\
 ∀i,vf alt W H t (prt ks k)=some i->i<n/\-300000<=(ye alt ks W H t (yD (vs.getD (zQ alt W t) 0)) (vs,L) k).1.getD i 0/\(ye alt ks W H t (yD (vs.getD (zQ alt W t) 0)) (vs,L) k).1.getD i 0<=300000:=by
 obtain ⟨u,m⟩:=r.mid h l k;have b:=fun j=>zHt h t l k om j;refine ⟨by rw [m];exact (b 0).2.2.1,by rw [m];exact (b 0).2.2.2,fun i hi=>?_⟩;obtain ⟨q,x,s,rfl⟩:=h.tgt l hk hi;rw [u q x s];exact ⟨h.pos s,(b _).1,(b _).2.1⟩
theorem vy.step (h:xz alt ks W H ink n) (r:vy alt ks W H ink n t ds es vs L) (k:t<n):
 vy alt ks W H ink n (t+1) (ds.set (zQ alt W t) (uK (vs.getD (zQ alt W t) 0))) (es.set (zQ alt W t) (yD (vs.getD (zQ alt W t) 0)))
  (ye alt ks W H t (yD (vs.getD (zQ alt W t) 0)) (vs,L) ks.length).1 (ye alt ks W H t (yD (vs.getD (zQ alt W t) 0)) (vs,L) ks.length).2:=by
 obtain ⟨m,l⟩:=r.mid h k ks.length;have e:=(r.here h k).1;exact ⟨by rw [r.hd,e];rfl,by rw [r.he,e];rfl,by rw [l];rfl,by rw [Xj];exact r.hl,fun i hi j=>by rw [m i om j];rfl⟩
end
end
section
open Go.RowKit Tq Go.Proofs.Tryz
variable {D Hn T Wn c g g1 g2 kcap kn n y : Nat} {E : Prop} {H W : Int} {K : Act → World → Prop} {P : Program} {Q : Exit → Act → World → Prop} {a : Act} {alt : Bool} {b e f : Value} {kad : Option Addr} {o : Oper} {ops : Array Oper} {v w w' : World} {xs : List Int} {zs : Array Value}
def zQH (w wx:World) (kad:Option Addr) (kn kcap:Nat) (W H:Int) (n:Nat) (xs:List Int) (s:Value):Prop:=
 ∃D gp gr rc,s= .pointer (some ⟨D,0,none⟩)/\DSt wx w D gp gr kad kn kcap W H n rc (List.replicate n 0) xs 0/\Below w w wx
theorem ZG
 (i:o.guard=none) (j:TypeId) (x y:Operand) (l:o.op= .store j x y) (g:Nat) (cells:Array Value) (m:a.eval x= .pointer ↑g) (k:a.eval y= .agg cells)
 (t:TypeId) (old:Array Value) (hg:w.heap[g]? =some (.cells old t (0,0))) (hi:(P.info? j).map (·.size)=some cells.size) (hold:old.size=cells.size) (h1:cells.all (·.oneCell')=true)
 (h:K (a.put o.dst undef) (w.setRow g cells)):if Region.wanted o (yielded ops a.tmps)=true then Oper.wp P o a w K Q else E:=by
 have hw:Region.wanted o (yielded ops a.tmps)=true:=by simp [Region.wanted,i]
 rw [if_pos hw];exact wp_store_row j x y l g cells m k t old hg hi hold h1 h
theorem Blk.c6z {a c d:Value} (h:Blk w g T #[a,b,c,d,e,f]):g<w.heap.size/\JB w g a b c (Jc w (g,3) d/\Jc w (g,4) e/\Jc w (g,5) f):=
 ⟨h.lt,by rw [h.cell];rfl,by rw [h.cell];rfl,by rw [h.cell];rfl,by rw [h.cell];rfl,by rw [h.cell];rfl,by rw [h.cell];rfl⟩
theorem zEC (w:World) {rest:List Oper} (i:o.guard=none) (x y:Operand) (s:o.op= .store 185 x y)
 (g:Nat) (kad p q:Option Addr) (kn kcap m c j c2:Nat) (W H L:Int) (l:a.eval x= .pointer ↑g) (k:a.eval y= .agg #[.slice kad kn kcap,W,H, .slice p m c, .slice q j c2,L])
 (T:Nat) (z0 u z2 z3 z4 z5:Value) (hb:Blk w g T #[z0,u,z2,z3,z4,z5])
 (h:wpList prog ops Q rest (a.put o.dst undef) (w.setRow g #[.slice kad kn kcap,W,H, .slice p m c, .slice q j c2,L])):wpList prog ops Q (o::rest) a w:=
 wpList_store_row i 185 x y s g _ l k T _ hb zK rfl (by simp;exact ⟨rfl,rfl,rfl,rfl,rfl,rfl⟩) h
theorem DSt.other {w:World} {B D j i kn kcap n k:Nat} {kad:Option Addr} {W H L:Int} {ds rs:List Int} (h:DSt w B D j i kad kn kcap W H n k ds rs L) {a:Addr} (ha: ¬yy D j i a.block) (u:Value):DSt (w.setCell a u) B D j i kad kn kcap W H n k ds rs L:=
 ⟨h.hD,h.hp,h.hr,h.n1,h.n2,h.n3,h.box.other (fun e=>ha (.inl e)) _,h.dots.other (fun e=>ha (.inr (.inl e))) _,h.rest.other (fun e=>ha (.inr (.inr e))) _⟩
theorem BelowH.setRow {w v:World} {D:Nat} (h:BelowH w v) (hD:w.heap.size<=D) (i:Array Value):BelowH w (v.setRow D i):=BelowH.mk (below_setRow h.Z hD i)
theorem zBv (j:BelowH w v) (hD:w.heap.size<=D) (i:Blk v D 185 zs) (l:Own v g1 n n (List.replicate n 0)) (k:Own v g2 n c xs)
 (h1:w.heap.size<=g1) (h2:w.heap.size<=g2) (n1:D≠g1) (n2:D≠g2) (n3:g1≠g2):
 zQH w (v.setRow D #[.slice kad kn kcap,W,H, .slice ↑g1 n n, .slice ↑g2 n c,Z0]) kad kn kcap W H n xs (.pointer ↑D):=
 ⟨D,g1,g2,c,rfl,⟨hD,h1,h2,n1,n2,n3,setRow_heap _ _ _ _ _ _ i,l.of_block (setRow_other _ _ _ _ n1.symm),k.of_block (setRow_other _ _ _ _ n2.symm)⟩,below_setRow j.Z hD _⟩
theorem zDb (alt:Bool) (ks:List Prt) (W H:Int) (t:Nat):jf ks W H (xAt alt W t) ((t:Int)/W) (vA alt ((t:Int)/W))=fun q=>vf alt W H t (prt ks q):=rfl
theorem Keep.setNew {S:Nat->Prop} (h:Keep S w w') {a:Addr} (ha:w.heap.size<=a.block) (u:Value):Keep S w (w'.setCell a u):=
 ⟨h.os,h.tape,h.output,by simpa [World.setCell] using h.size,fun i hi j=>(Below.heap_setCell w' a u i om).trans (h.block i hi j)⟩
theorem zAA (B D m l:Nat) (kad:Option Addr) (kn kcap:Nat) (W H:Int) (n F:Nat) (ds rs xs:List Int) (L X Y z:Int) (alt:Bool) (t:Nat) (ks:List Prt) (w:World) (hd:DSt w B D m l kad kn kcap W H n F ds rs L)
 (I:ks.length=kn) (J:xF ks=true) (C:kn<=kcap) (G: ∀u,Keep (yy D m l) w u->Rd u kad (flat ks))
 (w1:1<=W) (w2:W<=64) (h1:1<=H) (h2:H<=64) (j:xz alt ks W H xs n) (hr:jb alt ks W H xs n t ds rs L) (A:t<n)
 (hX:X=xAt alt W t) (hY:Y=(t:Int)/W) (q:z=vA alt ((t:Int)/W)):
 Calls prog 241 #[.pointer ↑D, .agg #[X,Y],z] w fun e w'=>e= .returned (.tuple #[])/\ ∃s x M,jb alt ks W H xs n (t+1) s x M/\DSt w' B D m l kad kn kcap W H n F s x M/\Keep (yy D m l) w w':=by
 subst I hX hY q;obtain ⟨q1,V,q3,q4,q5,q6⟩:=qp (alt:=alt) j.W1 j.hn A;obtain ⟨N,U⟩:=zBl (alt:=alt) (i:=t) j.W1;obtain ⟨e1,O,e3,R⟩:=hr.here j A
 refine (zKl B D m l kad ks.length kcap W H n F ds rs L (xAt alt W t) ((t:Int)/W) (vA alt ((t:Int)/W)) (rs.getD (zQ alt W t) 0) (zQ alt W t) ks w hd rfl J C G w1 w2 h1 h2 j.hn j.nb N U q3 q4
  (by unfold vA;split <;>omega) V.symm rfl e3 R O (fun k hk=>by rw [zDb];exact hr.safe j A k hk)).mono ?_
 rintro e w' ⟨h1,h2,h3⟩;rw [zDb] at h2;exact ⟨h1,_,_,_,hr.step j A,h2,h3⟩
theorem zFc (hn:(n:Int)=(Wn:Int)*(Hn:Int)) (i:y<Hn) (hc:c<Wn):y*Wn+c<n:=by
 have e:((Wn*Hn:Nat):Int)=(Wn:Int)*(Hn:Int):=Int.natCast_mul _ _;have h1:(y+1)*Wn<=Hn*Wn:=Nat.mul_le_mul_right _ om;rw [Nat.add_mul,Nat.one_mul,Nat.mul_comm Hn] at h1;omega
theorem Zj {alt:Bool} (i:W=(Wn:Int)) (hc:c<Wn):((y*Wn+c:Nat):Int)/W=y/\((y*Wn+c:Nat):Int) % W=c:=by
 subst i;rw [Int.natCast_add,Int.natCast_mul];exact wj om om
theorem zLv (i:W=(Wn:Int)) (hc:c<Wn) (h: ¬(alt=true/\(y:Int) % 2=1)):(c:Int)=xAt alt W (y*Wn+c)/\(1:Int)=vA alt (((y*Wn+c:Nat):Int)/W):=by
 obtain ⟨a,b⟩:=Zj (alt:=alt) (y:=y) i hc;unfold xAt vA;rw [a,b,if_neg h,if_neg h];exact ⟨rfl,rfl⟩
theorem zQh (i:W=(Wn:Int)) (hc:c<Wn) (h:alt=true/\(y:Int) % 2=1):W - 1 - (c:Int)=xAt alt W (y*Wn+c)/\(-1:Int)=vA alt (((y*Wn+c:Nat):Int)/W):=by
 obtain ⟨a,b⟩:=Zj (alt:=alt) (y:=y) i hc;unfold xAt vA;rw [a,b,if_pos h,if_pos h];exact ⟨rfl,rfl⟩
set_option maxRecDepth 100000 in
theorem zDp (kad:Option Addr) (kn kcap:Nat) (W H:Int) (ad:Option Addr) (n X:Nat) (xs:List Int) (alt:Bool) (ks:List Prt) (w:World)
 (j2:ks.length=kn) (k2:Rd w kad (flat ks)) (i5:kn<=kcap) (i2:xF ks=true) (hn:xs.length=n) (ha:Rd w ad xs) (hp:zP W H xs 255=true):
 Calls prog 201 #[.slice kad kn kcap, .agg #[W,H, .slice ad n X], .bool alt] w fun e w'=> ∃J M rc,e= .returned (.agg #[.slice kad kn kcap,W,H, .slice (some ⟨J,0,none⟩) n n, .slice (some ⟨M,0,none⟩) n rc,(yC alt ks W H xs n).lost])/\
  Own w' J n n (yC alt ks W H xs n).dots/\Own w' M n rc (yC alt ks W H xs n).errs/\w.heap.size<=J/\w.heap.size<=M/\Below w w w':=by
 have i6:=Jh j2;have m4:=Jh k2;have h8:=Jh i2;have h1:=Jh (xz.of (alt:=alt) hn i2 hp);have HN:=Jh hn;have HA:=Jh ha;clear hn ha;obtain ⟨hs,hq,hi⟩:=yH HN.Z hp;obtain ⟨b1,b2,b3,b4,b5,b6⟩:=yF hs;have HQ:=Jh hq;have HI:=Jh hi;have HS:=Jh hs;have i1:1<=n:=om;have n3:n<=1024:=om;clear hq hi hs;clear j2 k2 i2;go_in;go_upto_region 1 with fail;have KP:=Jh ((Blk.new w 31 #[W,H, .slice ad n X]).alloc (.cells #[.slice none 0 0,Z0,Z0, .slice none 0 0, .slice none 0 0,Z0] 185));have KZ:=Jh (Blk.zD (g:=w.heap.size+1) (w:=w.alloc (.cells #[W,H, .slice ad n X] 31)) 185 #[.slice none 0 0,Z0,Z0, .slice none 0 0, .slice none 0 0,Z0] sI);have h5:=Jh ((HA.Z.alloc (.cells #[W,H, .slice ad n X] 31)).alloc (.cells #[.slice none 0 0,Z0,Z0, .slice none 0 0, .slice none 0 0,Z0] 185));have h4:=Jh (zJ (zJ (Below.refl w w) (.cells #[W,H, .slice ad n X] 31)) (.cells #[.slice none 0 0,Z0,Z0, .slice none 0 0, .slice none 0 0,Z0] 185));obtain ⟨wo,j3⟩:=zN ((w.alloc (.cells #[W,H, .slice ad n X] 31)).alloc (.cells #[.slice none 0 0,Z0,Z0, .slice none 0 0, .slice none 0 0,Z0] 185):World);rw [<-j3] at KP KZ h5 h4⊢;clear j3;obtain ⟨ba,oa,m5,n1,_⟩:=HA.Z.at (oh HN);subst m5
 go_step3
 go_upto_region 1 with fail
 go_cut [7] (fun s7 wx=>zQH wo wx kad kn kcap W H n xs s7)
 case first=>
  obtain ⟨l0,o0,o1,o2⟩:=KP.Z.c3;have MK:Hd (∀v,BelowH wo v->Jc v w W/\Jc v (w,1) H/\Jc v (w,2) (.slice (some ↑(ba,oa)) n X)/\BelowH wo v):=Jh (fun v hB=>⟨(hB.Z.cell l0).trans o0,(hB.Z.cell l0).trans o1,(hB.Z.cell l0).trans o2,hB⟩);refine wp_region_held_drew (S:=fun v=>Jc v w W/\Jc v (w,1) H/\Jc v (w,2) (.slice (some ↑(ba,oa)) n X)/\BelowH wo v) zK (MK.Z _ (BelowH.start _)) ?_;intro j;have f4:=zRQ j;refine zO 0 ?_;refine zO 1 ?_;refine zO 2 ?_;refine zO 3 ?_;refine zO 4 ?_;refine zO 6 ?_;refine zO 7 ?_;refine wpAnyH_ready (rs:=[5,10]) zK sI ?_;refine AllReadyH.cons rfl (fun K hK=>?_) (AllReadyH.cons rfl (fun K hK=>?_) AllReadyH.nil)
  . go_simp
    go_at_call 141
    ((with_reducible refine (jw W H n _ HS.Z HQ.Z).mono ?_);rintro e v1 ⟨g1,rfl,h3,d4,h6⟩);have z:=BelowH.call f4 h6;have k3:=d4.lt;have f6:=Yx (BelowH.le f4) h3;have n0:=k3;go_wp2_with fail;refine hK.out _ _ (Jd (MK.Z _ z)) (fun j=>?_);clear hK K;refine wpAnyH_ready (rs:=[8,10]) zK sI ?_;refine AllReadyH.cons rfl (fun K hK=>?_) (AllReadyH.cons rfl (fun K hK=>?_) AllReadyH.nil)
    . go_simp
      go_at_call 69
      ((with_reducible refine (Kt ba oa n X xs _ HN.Z (by exact h5.Z.below (BelowH.Z z)) i1 om).mono ?_);rintro e v2 ⟨g2,c2,rfl,e5,f2,b7⟩);have I:=BelowH.call z b7;have k5:=e5.lt;have e1:=Yx (BelowH.le z) f2;have g0:=d4.below b7 d4.lt;go_wp2_with fail;refine hK.out _ _ (Jd (MK.Z _ I)) (fun j=>?_);clear hK K;refine zO 9 ?_;refine zy 10 (fun K hK=>?_);go_simp;refine hK.out _ _ (Jd (MK.Z _ (BelowH.alloc I _))) (fun j=>?_);clear hK K;refine zy 11 (fun K hK=>?_);refine ZG rfl _ _ _ rfl v2 _ (by rfl) (by rfl) _ _ (Blk.new v2 _ _) zK (by rfl) (by simp;exact ⟨rfl,rfl,rfl,rfl,rfl,rfl⟩) ?_;refine hK.out _ _ (by (try dsimp only);exact MK.Z _ (BelowH.setRow (BelowH.alloc I _) I.le _)) (fun j=>?_);clear hK K;refine wpAnyH_done zK ?_ _;(try go_simp);go_wp2_with fail;go_meet;exact zBv (BelowH.alloc I _) I.le (Blk.new v2 _ _) (g0.alloc _) (e5.alloc _) f6 e1 (og g0.lt) om om
    go_simp;refine hK.out _ _ (Jd (MK.Z _ (BelowH.alloc z _))) (fun j=>?_);clear hK K;refine zy 8 (fun K hK=>?_);go_simp
    go_at_call 69
    ((with_reducible refine (Kt ba oa n X xs _ HN.Z (by exact h5.Z.below (BelowH.Z (BelowH.alloc z _))) i1 om).mono ?_);rintro e v2 ⟨g2,c2,rfl,e5,f2,b7⟩);have I:=BelowH.call (BelowH.alloc z _) b7;have k5:=e5.lt;have e1:=Yx (BelowH.le (BelowH.alloc z _)) f2;have g0:=(d4.alloc _).below b7 (d4.alloc _).lt;have kb:=(Blk.new v1 185 #[.slice none 0 0,Z0,Z0, .slice none 0 0, .slice none 0 0,Z0]).zA b7;go_wp2_with fail;refine hK.out _ _ (Jd (MK.Z _ I)) (fun j=>?_);clear hK K;refine zO 9 ?_;refine zy 11 (fun K hK=>?_);refine ZG rfl _ _ _ rfl v1 _ (by rfl) (by rfl) _ _ kb zK (by rfl) (by simp;exact ⟨rfl,rfl,rfl,rfl,rfl,rfl⟩) ?_;refine hK.out _ _ (Jd (MK.Z _ (BelowH.setRow I z.le _))) (fun j=>?_);clear hK K;refine wpAnyH_done zK ?_ _;(try go_simp);go_wp2_with fail;go_meet;exact zBv I z.le kb g0 e5 f6 e1 om (by simp at f2;omega) (by simp at f2;omega)
  go_simp;refine hK.out _ _ (Jd (MK.Z _ (BelowH.alloc f4 _))) (fun j=>?_);clear hK K;refine zy 5 (fun K hK=>?_);go_simp
  go_at_call 141
  ((with_reducible refine (jw W H n _ HS.Z HQ.Z).mono ?_);rintro e v1 ⟨g1,rfl,h3,d4,h6⟩);have z:=BelowH.call (BelowH.alloc f4 _) h6;have k3:=d4.lt;have f6:=Yx (BelowH.le (BelowH.alloc f4 _)) h3;have k4:=(Blk.new wo.drew 185 #[.slice none 0 0,Z0,Z0, .slice none 0 0, .slice none 0 0,Z0]).zA h6;go_wp2_with fail;refine hK.out _ _ (Jd (MK.Z _ z)) (fun j=>?_);clear hK K;refine zy 8 (fun K hK=>?_);go_simp
  go_at_call 69
  ((with_reducible refine (Kt ba oa n X xs _ HN.Z (by exact h5.Z.below (BelowH.Z z)) i1 om).mono ?_);rintro e v2 ⟨g2,c2,rfl,e5,f2,b7⟩);have I:=BelowH.call z b7;have k5:=e5.lt;have e1:=Yx (BelowH.le z) f2;have g0:=d4.below b7 d4.lt;have kb:=k4.zA b7;go_wp2_with fail;refine hK.out _ _ (Jd (MK.Z _ I)) (fun j=>?_);clear hK K;refine zO 9 ?_;refine zy 11 (fun K hK=>?_);refine ZG rfl _ _ _ rfl wo.drew.heap.size _ (by rfl) (by rfl) _ _ kb zK (by rfl) (by simp;exact ⟨rfl,rfl,rfl,rfl,rfl,rfl⟩) ?_;refine hK.out _ _ (Jd (MK.Z _ (BelowH.setRow I f4.le _))) (fun j=>?_);clear hK K;refine wpAnyH_done zK ?_ _;(try go_simp);go_wp2_with fail;go_meet;exact zBv I f4.le kb g0 e5 f6 e1 (by simp at h3;omega) (og k4.lt) om
 obtain ⟨D,J,M,rc,rfl,hd,hb⟩:=hcut;have d5:=Jh hd;have i0:=Jh (zI h4.Z hb);have d0:=Jh (show w.heap.size+1<wo.heap.size from KZ.Z.lt);have g6:=Jh (show∀u,Keep (yy D J M) wc u->Rd u kad (flat ks) from fun u hu=>m4.Z.below ((zI h4.Z hb).trans (hu.below (B:=w.heap.size) (fun i hi=>by have:=d5.Z.trio i hi;have:=h4.Z.size;omega) (og i0.Z.size))));have j5:=Jh (KP.Z.zA hb);have m1:=Jh (KZ.Z.zA hb);obtain ⟨Hn,j4⟩: ∃Hn:Nat,H=(Hn:Int):=⟨H.toNat,om⟩
 obtain ⟨Wn,j1⟩: ∃Wn:Nat,W=(Wn:Int):=⟨W.toNat,om⟩
 have h2:=Jh j4;have k:=Jh j1;obtain ⟨l0,o0,o1,o2⟩:=j5.Z.c3;clear hd hb j4 j1;go_wp2_with fail
 go_step3
 go_wp2_with fail
 go_loopg [23] Hn (fun g m7 wx=> ∃(y:Nat) (ds rs:List Int) (L:Int),y+g=Hn/\m7=↑y/\Hd (jb alt ks W H xs n (y*Wn) ds rs L)/\Hd (DSt wx wo D J M kad kn kcap W H n rc ds rs L)/\Hd (Keep (yy D J M) wc wx))
 case atStart=>exact ⟨0,_,_,_,om,rfl,Jh (by rw [Nat.zero_mul];exact jb.start h1.Z),Jh d5.Z,Jh (Keep.refl _ _)⟩
 obtain ⟨y,ds,rs,L,n2,rfl,h7,x,N⟩:=hrel;have c8:=Jh (N.Z.blk j5.Z (fun h=>by have:=d5.Z.trio _ h;have:=d0.Z;omega));clear l0 o0 o1 o2;obtain ⟨l0,o0,o1,o2⟩:=c8.Z.c3;cases gk with
 | zero=>
  have m6: ¬((y:Int)<H):=by have:=h2.Z;omega
  have j0:=Jh (N.Z.blk m1.Z (fun h=>by have:=d5.Z.trio _ h;have:=d0.Z;omega));have k8:=Jh (setRow_heap wr (w.heap.size+1) _ #[.slice kad kn kcap,W,H, .slice (some ⟨J,0,none⟩) n n, .slice (some ⟨M,0,none⟩) n rc,L] _ _ j0.Z)
  have m3:Hd (y*Wn=n):=Jh (by
   have e:y=Hn:=om;have e2:(n:Int)=(Wn:Int)*(Hn:Int):=by rw [<-k.Z,<-h2.Z];exact HQ.Z
   have e3:((Wn*Hn:Nat):Int)=(Wn:Int)*(Hn:Int):=Int.natCast_mul _ _
   rw [e,Nat.mul_comm];omega)
  obtain ⟨dl,c0,c1,c2,c3,c4,c5⟩:=x.Z.c6;go_wp2_with (with_reducible refine zEC wr rfl (.tmp 6) (.tmp 53) rfl (w.heap.size+1) kad (some ⟨J,0,none⟩) (some ⟨M,0,none⟩) kn kcap n n n rc W H L rfl rfl _ _ _ _ _ _ _ j0.Z ?_);obtain ⟨zl,z0,z1,z2,z3,z4,z5⟩:=Blk.c6z (show Blk _ _ _ _ from k8.Z);have m0:=Jh (h7.Z);have i7:=m0.Z;rw [m3.Z] at i7;obtain ⟨d1,d2,d3⟩:=i7.done h1.Z;have m2:=Jh d1;have b8:=Jh d2;have f5:=Jh d3;have NP:J≠w.heap.size+1:=by have:=x.Z.hp;have:=d0.Z;omega
  have NR:M≠w.heap.size+1:=by have:=x.Z.hr;have:=d0.Z;omega
  have k7:=Jh (below_setRow (i0.Z.trans (N.Z.below (B:=w.heap.size) (fun i hi=>by have:=d5.Z.trio i hi;have:=d0.Z;omega) (og i0.Z.size))) (show w.heap.size<=w.heap.size+1 by omega) #[.slice kad kn kcap,W,H, .slice (some ⟨J,0,none⟩) n n, .slice (some ⟨M,0,none⟩) n rc,L]);clear d1 d2 d3 i7
  exact bodyPost_ret (v:= .agg #[.slice kad kn kcap,W,H, .slice (some ⟨J,0,none⟩) n n, .slice (some ⟨M,0,none⟩) n rc,L]) (by simp [results,results201,go_sem,z0,z1,z2,z3,z4,z5]) rfl
   ⟨J,M,rc,by rw [f5.Z],by rw [<-m2.Z];exact x.Z.dots.of_block (setRow_other _ _ _ _ NP),by rw [<-b8.Z];exact x.Z.rest.of_block (setRow_other _ _ _ _ NR),by have:=x.Z.hp;have:=d0.Z;omega,by have:=x.Z.hr;have:=d0.Z;omega,k7.Z⟩
 | succ g=>
  have m6:(y:Int)<H:=by have:=h2.Z;omega
  have i4:Hd ((n:Int)=(Wn:Int)*(Hn:Int)):=Jh (by rw [<-k.Z,<-h2.Z];exact HQ.Z);have m8:1<=Wn:=by have:=k.Z;omega
  have i3:y<Hn:=om;by_cases ha:alt=true/\(y:Int) % 2=1
  case pos=>
   obtain ⟨j8,f8⟩:=ha;have e0:=Jh (show alt=true/\(y:Int) % 2=1 from ⟨j8,f8⟩);have k6:((y:Int) % 2==1)=true:=by simpa using f8
   clear f8;subst j8;go_wp2_with fail;have O:=Jh (Blk.new wr 176 #[.int .i64 (W - 1),y]);have d6:=Jh (x.Z.alloc (.cells #[.int .i64 (W - 1),y] 176));have V:=Jh ((Keep.refl (yy D J M) wr).alloc (.cells #[.int .i64 (W - 1),y] 176));have b0:=Jh x.Z.trioLt;obtain ⟨wq,d7⟩:=zN (wr.alloc (.cells #[.int .i64 (W - 1),y] 176):World);rw [<-d7] at O d6 V⊢;obtain ⟨A,hA⟩: ∃A,wr.heap.size=A:=⟨_,rfl⟩
   have C:=Jh hA;rw [hA] at O⊢;have pl:=c8.Z.lt;rw [hA] at pl;have i8:=Jh pl;obtain ⟨wb,e4⟩:=zN (wr:World);rw [<-e4] at V N x c8 b0 C;clear d7 hA e4 l0 o0 o1 o2
   go_loopg [49] Wn (fun g2 j6 wy=> ∃(c:Nat) (q l:List Int) (L2:Int),c+g2=Wn/\Hd (jb true ks W H xs n (y*Wn+c) q l L2)/\Hd (DSt wy wo D J M kad kn kcap W H n rc q l L2)/\Hd (Keep (yy D J M) wb wy)/\Hd (Blk wy A 176 #[.int .i64 (W - 1 - (c:Int)),y]))
   case atStart=>exact ⟨0,_,_,_,om,h7,d6,V,Jh (by simpa using O.Z)⟩
   obtain ⟨c,q,l,L2,k0,f1,b8,F,m⟩:=hrel;have h0:=Jh (F.Z.blk c8.Z (fun h=>by have:=d5.Z.trio _ h;have:=d0.Z;omega));obtain ⟨l0,o0,o1,o2⟩:=h0.Z.c3;have a0:=m.Z.cell 0;have a1:=m.Z.cell 1;have f0:=m.Z.frozen 0;have al:=m.Z.lt;simp only [Yi,List.getElem?_cons_zero,List.getElem?_cons_succ] at a0 a1;cases gk with
   | zero=>
    obtain rfl:c=Wn:=om;have k1:Zy ((W - 1 - (c:Int))) W=false:=YP (oh k);have cb:=k.Z;have j7:-1<=W - 1 - (c:Int):=om;clear cb;go_wp2_with fail;refine (uF _ _ _ b1 b2).mono ?_;rintro e w9 ⟨rfl,rfl⟩;go_wp2_with fail
    go_roundg g
    case measure=>omega
    exact ⟨y+1,q,l,L2,om,by go_num,Jh (by rw [Nat.add_mul,Nat.one_mul];exact f1.Z),b8,Jh (N.Z.trans F.Z)⟩
   | succ g3=>
    have Y:c<Wn:=om;have d8:=zQh (alt:=true) (Wn:=Wn) (y:=y) k.Z Y (by first | exact ⟨rfl,e0.Z.2⟩ | exact fun h=>e0.Z ⟨trivial,h.2⟩ | simp);have e7:=Jh d8;have k1:Zy ((W - 1 - (c:Int))) W=true:=ut (oh k) (oh k);have cb:0<=W - 1 - (c:Int):=by have:=k.Z;omega
    clear d8;go_wp2_with fail;refine (uF _ _ _ b1 b2).mono ?_;rintro e w9 ⟨rfl,rfl⟩;go_wp2_with fail;refine (zAA wo D J M kad kn kcap W H n rc q l xs L2 ((W - 1 - (c:Int))) y (-1) true (y*Wn+c) ks _ b8.Z i6.Z h8.Z i5 (fun u hu=>g6.Z u (N.Z.trans (F.Z.trans hu))) b1 b2 b3 b4 h1.Z f1.Z (zFc i4.Z i3 Y) e7.Z.1 (Zj (alt:=true) k.Z Y).1.symm e7.Z.2).mono ?_;rintro e w7 ⟨rfl,g8,g7,L3,e6,e8,U⟩;have g4:=Jh e6;have f5:=Jh e8;have g5:=Jh (F.Z.trans U);have s:=Jh (U.blk m.Z (fun h=>by have:=b0.Z _ h;have:=C.Z;omega));clear e6 e8 U l0 o0 o1 o2 a0 a1 f0 al;have a0:=s.Z.cell 0;have a1:=s.Z.cell 1;have f0:=s.Z.frozen 0;have al:=s.Z.lt;simp only [Yi,List.getElem?_cons_zero,List.getElem?_cons_succ] at a0 a1;go_wp2_with fail
    go_roundg g3
    case measure=>omega
    have na: ¬yy D J M A:=fun h=>by have:=b0.Z _ h;have:=C.Z;omega
    refine ⟨c+1,g8,g7,L3,om,g4,Jh (f5.Z.other (a:=⟨A,0,none⟩) na _),Jh (g5.Z.setNew (oS C.Z) _),Jh ?_⟩;have h:=s.Z.set 0 (.int .i64 ((W - 1 - (c:Int))+(-1)));rw [<-show (W - 1 - (c:Int))+(-1)=W - 1 - ((c+1:Nat):Int) by omega];simpa using h
  cases alt
  case true=>
   have f8: ¬(y:Int) % 2=1:=fun h=>ha ⟨rfl,h⟩;have e0:=Jh ha;have k6:((y:Int) % 2==1)=false:=by simpa using f8
   clear f8 ha;go_wp2_with fail;have O:=Jh (Blk.new wr 176 #[Z0,y]);have d6:=Jh (x.Z.alloc (.cells #[Z0,y] 176));have V:=Jh ((Keep.refl (yy D J M) wr).alloc (.cells #[Z0,y] 176));have b0:=Jh x.Z.trioLt;obtain ⟨wq,d7⟩:=zN (wr.alloc (.cells #[Z0,y] 176):World);rw [<-d7] at O d6 V⊢;obtain ⟨A,hA⟩: ∃A,wr.heap.size=A:=⟨_,rfl⟩
   have C:=Jh hA;rw [hA] at O⊢;have pl:=c8.Z.lt;rw [hA] at pl;have i8:=Jh pl;obtain ⟨wb,e4⟩:=zN (wr:World);rw [<-e4] at V N x c8 b0 C;clear d7 hA e4 l0 o0 o1 o2
   go_loopg [49] Wn (fun g2 j6 wy=> ∃(c:Nat) (q l:List Int) (L2:Int),c+g2=Wn/\Hd (jb true ks W H xs n (y*Wn+c) q l L2)/\Hd (DSt wy wo D J M kad kn kcap W H n rc q l L2)/\Hd (Keep (yy D J M) wb wy)/\Hd (Blk wy A 176 #[(c:Int),y]))
   case atStart=>exact ⟨0,_,_,_,om,h7,d6,V,Jh (by simpa using O.Z)⟩
   obtain ⟨c,q,l,L2,k0,f1,b8,F,m⟩:=hrel;have h0:=Jh (F.Z.blk c8.Z (fun h=>by have:=d5.Z.trio _ h;have:=d0.Z;omega));obtain ⟨l0,o0,o1,o2⟩:=h0.Z.c3;have a0:=m.Z.cell 0;have a1:=m.Z.cell 1;have f0:=m.Z.frozen 0;have al:=m.Z.lt;simp only [Yi,List.getElem?_cons_zero,List.getElem?_cons_succ] at a0 a1;cases gk with
   | zero=>
    obtain rfl:c=Wn:=om;have k1:Zy ((c:Int)) W=false:=YP (oh k);have cb:=k.Z;have j7:-1<=W - 1 - (c:Int):=om;clear cb;go_wp2_with fail;refine (uF _ _ _ b1 b2).mono ?_;rintro e w9 ⟨rfl,rfl⟩;go_wp2_with fail
    go_roundg g
    case measure=>omega
    exact ⟨y+1,q,l,L2,om,by go_num,Jh (by rw [Nat.add_mul,Nat.one_mul];exact f1.Z),b8,Jh (N.Z.trans F.Z)⟩
   | succ g3=>
    have Y:c<Wn:=om;have d8:=zLv (alt:=true) (Wn:=Wn) (y:=y) k.Z Y (by first | exact ⟨rfl,e0.Z.2⟩ | exact fun h=>e0.Z ⟨trivial,h.2⟩ | simp);have e7:=Jh d8;have k1:Zy ((c:Int)) W=true:=ut (oh k) (oh k);have cb:0<=W - 1 - (c:Int):=by have:=k.Z;omega
    clear d8;go_wp2_with fail;refine (uF _ _ _ b1 b2).mono ?_;rintro e w9 ⟨rfl,rfl⟩;go_wp2_with fail;refine (zAA wo D J M kad kn kcap W H n rc q l xs L2 ((c:Int)) y (1) true (y*Wn+c) ks _ b8.Z i6.Z h8.Z i5 (fun u hu=>g6.Z u (N.Z.trans (F.Z.trans hu))) b1 b2 b3 b4 h1.Z f1.Z (zFc i4.Z i3 Y) e7.Z.1 (Zj (alt:=true) k.Z Y).1.symm e7.Z.2).mono ?_;rintro e w7 ⟨rfl,g8,g7,L3,e6,e8,U⟩;have g4:=Jh e6;have f5:=Jh e8;have g5:=Jh (F.Z.trans U);have s:=Jh (U.blk m.Z (fun h=>by have:=b0.Z _ h;have:=C.Z;omega));clear e6 e8 U l0 o0 o1 o2 a0 a1 f0 al;have a0:=s.Z.cell 0;have a1:=s.Z.cell 1;have f0:=s.Z.frozen 0;have al:=s.Z.lt;simp only [Yi,List.getElem?_cons_zero,List.getElem?_cons_succ] at a0 a1;go_wp2_with fail
    go_roundg g3
    case measure=>omega
    have na: ¬yy D J M A:=fun h=>by have:=b0.Z _ h;have:=C.Z;omega
    refine ⟨c+1,g8,g7,L3,om,g4,Jh (f5.Z.other (a:=⟨A,0,none⟩) na _),Jh (g5.Z.setNew (oS C.Z) _),Jh ?_⟩;have h:=s.Z.set 0 (.int .i64 ((c:Int)+(1)));rw [<-show (c:Int)+(1)=((c+1:Nat):Int) by omega];simpa using h
  have e0:=Jh ha;clear ha;go_wp2_with fail;have O:=Jh (Blk.new wr 176 #[Z0,y]);have d6:=Jh (x.Z.alloc (.cells #[Z0,y] 176));have V:=Jh ((Keep.refl (yy D J M) wr).alloc (.cells #[Z0,y] 176));have b0:=Jh x.Z.trioLt;obtain ⟨wq,d7⟩:=zN (wr.alloc (.cells #[Z0,y] 176):World);rw [<-d7] at O d6 V⊢;obtain ⟨A,hA⟩: ∃A,wr.heap.size=A:=⟨_,rfl⟩
  have C:=Jh hA;rw [hA] at O⊢;have pl:=c8.Z.lt;rw [hA] at pl;have i8:=Jh pl;obtain ⟨wb,e4⟩:=zN (wr:World);rw [<-e4] at V N x c8 b0 C;clear d7 hA e4 l0 o0 o1 o2
  go_loopg [49] Wn (fun g2 j6 wy=> ∃(c:Nat) (q l:List Int) (L2:Int),c+g2=Wn/\Hd (jb false ks W H xs n (y*Wn+c) q l L2)/\Hd (DSt wy wo D J M kad kn kcap W H n rc q l L2)/\Hd (Keep (yy D J M) wb wy)/\Hd (Blk wy A 176 #[(c:Int),y]))
  case atStart=>exact ⟨0,_,_,_,om,h7,d6,V,Jh (by simpa using O.Z)⟩
  obtain ⟨c,q,l,L2,k0,f1,b8,F,m⟩:=hrel;have h0:=Jh (F.Z.blk c8.Z (fun h=>by have:=d5.Z.trio _ h;have:=d0.Z;omega));obtain ⟨l0,o0,o1,o2⟩:=h0.Z.c3;have a0:=m.Z.cell 0;have a1:=m.Z.cell 1;have f0:=m.Z.frozen 0;have al:=m.Z.lt;simp only [Yi,List.getElem?_cons_zero,List.getElem?_cons_succ] at a0 a1;cases gk with
  | zero=>
   obtain rfl:c=Wn:=om;have k1:Zy ((c:Int)) W=false:=YP (oh k);have cb:=k.Z;have j7:-1<=W - 1 - (c:Int):=om;clear cb;go_wp2_with fail;refine (uF _ _ _ b1 b2).mono ?_;rintro e w9 ⟨rfl,rfl⟩;go_wp2_with fail
   go_roundg g
   case measure=>omega
   exact ⟨y+1,q,l,L2,om,by go_num,Jh (by rw [Nat.add_mul,Nat.one_mul];exact f1.Z),b8,Jh (N.Z.trans F.Z)⟩
  | succ g3=>
   have Y:c<Wn:=om;have d8:=zLv (alt:=false) (Wn:=Wn) (y:=y) k.Z Y (by first | exact ⟨rfl,e0.Z.2⟩ | exact fun h=>e0.Z ⟨trivial,h.2⟩ | simp);have e7:=Jh d8;have k1:Zy ((c:Int)) W=true:=ut (oh k) (oh k);have cb:0<=W - 1 - (c:Int):=by have:=k.Z;omega
   clear d8;go_wp2_with fail;refine (uF _ _ _ b1 b2).mono ?_;rintro e w9 ⟨rfl,rfl⟩;go_wp2_with fail;refine (zAA wo D J M kad kn kcap W H n rc q l xs L2 ((c:Int)) y (1) false (y*Wn+c) ks _ b8.Z i6.Z h8.Z i5 (fun u hu=>g6.Z u (N.Z.trans (F.Z.trans hu))) b1 b2 b3 b4 h1.Z f1.Z (zFc i4.Z i3 Y) e7.Z.1 (Zj (alt:=false) k.Z Y).1.symm e7.Z.2).mono ?_;rintro e w7 ⟨rfl,g8,g7,L3,e6,e8,U⟩;have g4:=Jh e6;have f5:=Jh e8;have g5:=Jh (F.Z.trans U);have s:=Jh (U.blk m.Z (fun h=>by have:=b0.Z _ h;have:=C.Z;omega));clear e6 e8 U l0 o0 o1 o2 a0 a1 f0 al;have a0:=s.Z.cell 0;have a1:=s.Z.cell 1;have f0:=s.Z.frozen 0;have al:=s.Z.lt;simp only [Yi,List.getElem?_cons_zero,List.getElem?_cons_succ] at a0 a1;go_wp2_with fail
   go_roundg g3
   case measure=>omega
   have na: ¬yy D J M A:=fun h=>by have:=b0.Z _ h;have:=C.Z;omega
   refine ⟨c+1,g8,g7,L3,om,g4,Jh (f5.Z.other (a:=⟨A,0,none⟩) na _),Jh (g5.Z.setNew (oS C.Z) _),Jh ?_⟩;have h:=s.Z.set 0 (.int .i64 ((c:Int)+(1)));rw [<-show (c:Int)+(1)=((c+1:Nat):Int) by omega];simpa using h
end
end Go.Proofs.YtlenfgdjdianiaaGreatDoor
