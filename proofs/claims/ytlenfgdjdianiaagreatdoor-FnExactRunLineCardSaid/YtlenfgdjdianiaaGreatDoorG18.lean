/- Facts on which this claim rests, 18. -/
import Derived.Laws.CopyOwn
import Derived.Test.YtlenfgdjdianiaaGreatDoorG17
set_option linter.all false
set_option maxHeartbeats 6400000
namespace Go.Proofs.YtlenfgdjdianiaaGreatDoor
section
variable {L : Int} {ds es rs sh vs : List Int} {t : Nat}
section
variable {alt : Bool} {ks : List Prt} {W H : Int} {ink : List Int} {n : Nat}
open Tq Go.Proofs.Tryz
structure uV (alt:Bool) (ks:List Prt) (W H:Int) (ink:List Int) (n t:Nat) (ds rs:List Int) (L:Int):Prop where
 hd:ds=(yM alt ks W H ink t).dots
 hL:L=(yM alt ks W H ink t).lost
 hl:rs.length=n
 old: ∀i,i<t->i<n->rs.getD (zU alt W i) 0=(yM alt ks W H ink t).errs.getD (zU alt W i) 0
 new: ∀i,t<=i->i<n->rs.getD (zU alt W i) 0=(yM alt ks W H ink t).pend.getD (zU alt W i) 0
theorem uV.start (h:jr alt ks W H ink n):uV alt ks W H ink n 0 (List.replicate n 0) ink 0:=
 ⟨by simp only [yM];rw [h.hl],rfl,h.hl,fun i hi=>om,fun i _ hi=>rfl⟩
theorem Db {S:Nat->Prop} {a b:List Int × Int} {T:Nat->Option Nat} (hl:a.1.length=b.1.length) (h: ∀j,S j->a.1.getD j 0=b.1.getD j 0) (h2:a.2=b.2) (k:Nat):
 (∀j,S j->(kT T sh a k).1.getD j 0=(kT T sh b k).1.getD j 0)/\(kT T sh a k).2=(kT T sh b k).2:=by
 induction k with
 | zero=>exact ⟨h,h2⟩
 | succ k i=>
  simp only [kT];exact ⟨aZ (by rw [JL,JL,hl]) i.1,iH _ _ _ _ i.2⟩
theorem uV.here (h:jr alt ks W H ink n) (r:uV alt ks W H ink n t ds rs L) (i:t<n):
 rs.getD (zU alt W t) 0=(yM alt ks W H ink t).pend.getD (zU alt W t) 0/\ds.getD (zU alt W t) 0=0/\-300000<=rs.getD (zU alt W t) 0/\rs.getD (zU alt W t) 0<=300000:=by
 have e:=r.new t nI i;have b:=LM h t om (zU alt W t);have z:=(DC h t om).2.1 t nI i;exact ⟨e,by rw [r.hd];exact z.1,om,om⟩
theorem uV.mid (h:jr alt ks W H ink n) (r:uV alt ks W H ink n t ds rs L) (m:t<n) (k:Nat) (hk:k<=ks.length):
 (∀i,t<i->i<n->(xJ alt ks W H t (yN (rs.getD (zU alt W t) 0)) (rs.set (zU alt W t) (yN (rs.getD (zU alt W t) 0)),L) k).1.getD (zU alt W i) 0=(xJ alt ks W H t (yN ((yM alt ks W H ink t).pend.getD (zU alt W t) 0)) ((yM alt ks W H ink t).pend.set (zU alt W t) 0,(yM alt ks W H ink t).lost) k).1.getD (zU alt W i) 0)/\
 (xJ alt ks W H t (yN (rs.getD (zU alt W t) 0)) (rs.set (zU alt W t) (yN (rs.getD (zU alt W t) 0)),L) k).2=(xJ alt ks W H t (yN ((yM alt ks W H ink t).pend.getD (zU alt W t) 0)) ((yM alt ks W H ink t).pend.set (zU alt W t) 0,(yM alt ks W H ink t).lost) k).2:=by
 have e:=(r.here h m).1;rw [e];unfold xJ;have x:=(VA (alt:=alt) (ks:=ks) (W:=W) (H:=H) (ink:=ink) t).2.1
 have g:=Db (S:=fun j=> ∃i,t<i/\i<n/\j=zU alt W i) (a:=(rs.set (zU alt W t) (yN ((yM alt ks W H ink t).pend.getD (zU alt W t) 0)),L)) (b:=((yM alt ks W H ink t).pend.set (zU alt W t) 0,(yM alt ks W H ink t).lost))
  (T:=fun q=>wG alt W H t (prt ks q)) (sh:=yR ks (yL ks ks.length) (yN ((yM alt ks W H ink t).pend.getD (zU alt W t) 0)))
  (by simp only [List.length_set];rw [r.hl,x,h.hl]) (fun j u=>by obtain ⟨i,s,l,rfl⟩:=u;simp only;rw [getD_set_ne _ _ (h.ne m l om),getD_set_ne _ _ (h.ne m l om)];exact r.new i om l) r.hL k
 exact ⟨fun i h1 h2=>g.1 _ ⟨i,h1,h2,rfl⟩,g.2⟩
theorem uV.safe (h:jr alt ks W H ink n) (r:uV alt ks W H ink n t ds rs L) (l:t<n) (k:Nat) (hk:k<ks.length):
 -300000<=(xJ alt ks W H t (yN (rs.getD (zU alt W t) 0)) (rs.set (zU alt W t) (yN (rs.getD (zU alt W t) 0)),L) k).2/\(xJ alt ks W H t (yN (rs.getD (zU alt W t) 0)) (rs.set (zU alt W t) (yN (rs.getD (zU alt W t) 0)),L) k).2<=300000/\
 ∀i,wG alt W H t (prt ks k)=some i->-300000<=(xJ alt ks W H t (yN (rs.getD (zU alt W t) 0)) (rs.set (zU alt W t) (yN (rs.getD (zU alt W t) 0)),L) k).1.getD i 0/\(xJ alt ks W H t (yN (rs.getD (zU alt W t) 0)) (rs.set (zU alt W t) (yN (rs.getD (zU alt W t) 0)),L) k).1.getD i 0<=300000:=by
 obtain ⟨s,m⟩:=r.mid h l k om;have b:=fun j=>Wj h t l k om j;refine ⟨by rw [m];exact (b 0).2.2.1,by rw [m];exact (b 0).2.2.2,fun i hi=>?_⟩;obtain ⟨q,u,x,rfl⟩:=h.tgt l hk hi;rw [s q u x];exact ⟨(b _).1,(b _).2.1⟩
theorem uV.step (h:jr alt ks W H ink n) (r:uV alt ks W H ink n t ds rs L) (k:t<n):
 uV alt ks W H ink n (t+1) (ds.set (zU alt W t) (ZK (rs.getD (zU alt W t) 0)))
  (xJ alt ks W H t (yN (rs.getD (zU alt W t) 0)) (rs.set (zU alt W t) (yN (rs.getD (zU alt W t) 0)),L) ks.length).1
  (xJ alt ks W H t (yN (rs.getD (zU alt W t) 0)) (rs.set (zU alt W t) (yN (rs.getD (zU alt W t) 0)),L) ks.length).2:=by
 obtain ⟨x,z⟩:=r.mid h k ks.length nI;have e:=(r.here h k).1;obtain ⟨A,B,u⟩:=VA (alt:=alt) (ks:=ks) (W:=W) (H:=H) (ink:=ink) t;have hp:=h.pos (alt:=alt) k;refine ⟨by rw [r.hd,e];rfl,by rw [z];rfl,by rw [UK];simpa using r.hl,fun i hi j=>?_,fun i hi j=>?_⟩
 have no: ∀q,q<ks.length->wG alt W H t (prt ks q)≠some (zU alt W i):=fun q s l=>by
  obtain ⟨m,k1,k2,k3⟩:=h.tgt k s l;exact h.ne j k2 om k3
 have g:(xJ alt ks W H t (yN (rs.getD (zU alt W t) 0)) (rs.set (zU alt W t) (yN (rs.getD (zU alt W t) 0)),L) ks.length).1.getD (zU alt W i) 0=(rs.set (zU alt W t) (yN (rs.getD (zU alt W t) 0))).getD (zU alt W i) 0:=GQ no;rw [g];simp only [yM,Gv];by_cases c:i=t
 subst c;rw [vS _ _ _ _ (by rw [r.hl];exact hp),if_pos rfl,vS _ _ _ _ (by rw [u,h.hl];exact hp),if_pos rfl,e];rw [getD_set_ne _ _ (h.ne k j om),getD_set_ne _ _ (h.ne k j om)];exact r.old i om j;rw [x i om j];rfl
theorem uV.done (h:jr alt ks W H ink n) (r:uV alt ks W H ink n n ds rs L):ds=(yM alt ks W H ink n).dots/\rs=(yM alt ks W H ink n).errs/\L=(yM alt ks W H ink n).lost:=by
 refine ⟨r.hd,?_,r.hL⟩;have m:=(VA (alt:=alt) (ks:=ks) (W:=W) (H:=H) (ink:=ink) n).2.2;have l:=r.hl;have k:=h.hl;apply List.ext_getElem?;intro j;by_cases i:j<n
 have q:=h.pos (alt:=alt) i;have:=r.old (zU alt W j) q q;rw [Vu h.W1 h.hn i] at this;simp only [List.getD,Ya (show j<rs.length by omega),Ya (show j<(yM alt ks W H ink n).errs.length by omega),Yz] at this;rw [Ya (show j<rs.length by omega),Ya (show j<(yM alt ks W H ink n).errs.length by omega),this];rw [Yv om,Yv om]
structure wU (alt:Bool) (ks:List Prt) (W H:Int) (ink:List Int) (n t:Nat) (ds es vs:List Int) (L:Int):Prop where
 hd:ds=(yM alt ks W H ink t).dots
 he:es=(yM alt ks W H ink t).errs
 hL:L=(yM alt ks W H ink t).lost
 hl:vs.length=n
 new: ∀i,t<=i->i<n->vs.getD (zU alt W i) 0=(yM alt ks W H ink t).pend.getD (zU alt W i) 0
theorem wU.start (h:jr alt ks W H ink n):wU alt ks W H ink n 0 (List.replicate n 0) (List.replicate n 0) ink 0:=
 ⟨by simp only [yM];rw [h.hl],by simp only [yM];rw [h.hl],rfl,h.hl,fun i _ hi=>rfl⟩
theorem wU.here (h:jr alt ks W H ink n) (r:wU alt ks W H ink n t ds es vs L) (i:t<n):
 vs.getD (zU alt W t) 0=(yM alt ks W H ink t).pend.getD (zU alt W t) 0/\ds.getD (zU alt W t) 0=0/\-300000<=vs.getD (zU alt W t) 0/\vs.getD (zU alt W t) 0<=300000/\-300000<=L/\L<=300000:=by
 have e:=r.new t nI i;have b:=LM h t om (zU alt W t);have z:=(DC h t om).2.1 t nI i;exact ⟨e,by rw [r.hd];exact z.1,om,om,by rw [r.hL];omega,by rw [r.hL];omega⟩
theorem wU.mid (h:jr alt ks W H ink n) (r:wU alt ks W H ink n t ds es vs L) (m:t<n) (k:Nat):
 (∀i,t<i->i<n->(xJ alt ks W H t (yN (vs.getD (zU alt W t) 0)) (vs,L) k).1.getD (zU alt W i) 0=(xJ alt ks W H t (yN ((yM alt ks W H ink t).pend.getD (zU alt W t) 0)) ((yM alt ks W H ink t).pend.set (zU alt W t) 0,(yM alt ks W H ink t).lost) k).1.getD (zU alt W i) 0)/\
 (xJ alt ks W H t (yN (vs.getD (zU alt W t) 0)) (vs,L) k).2=(xJ alt ks W H t (yN ((yM alt ks W H ink t).pend.getD (zU alt W t) 0)) ((yM alt ks W H ink t).pend.set (zU alt W t) 0,(yM alt ks W H ink t).lost) k).2:=by
 have e:=(r.here h m).1;rw [e];unfold xJ;have x:=(VA (alt:=alt) (ks:=ks) (W:=W) (H:=H) (ink:=ink) t).2.1
 have g:=Db (S:=fun j=> ∃i,t<i/\i<n/\j=zU alt W i) (a:=(vs,L)) (b:=((yM alt ks W H ink t).pend.set (zU alt W t) 0,(yM alt ks W H ink t).lost))
  (T:=fun q=>wG alt W H t (prt ks q)) (sh:=yR ks (yL ks ks.length) (yN ((yM alt ks W H ink t).pend.getD (zU alt W t) 0)))
  (by simp only [List.length_set];rw [r.hl,x,h.hl]) (fun j u=>by obtain ⟨i,s,l,rfl⟩:=u;simp only;rw [getD_set_ne _ _ (h.ne m l om)];exact r.new i om l) r.hL k
 exact ⟨fun i h1 h2=>g.1 _ ⟨i,h1,h2,rfl⟩,g.2⟩
theorem wU.safe (h:jr alt ks W H ink n) (r:wU alt ks W H ink n t ds es vs L) (l:t<n) (k:Nat) (hk:k<ks.length):
 -300000<=(xJ alt ks W H t (yN (vs.getD (zU alt W t) 0)) (vs,L) k).2/\(xJ alt ks W H t (yN (vs.getD (zU alt W t) 0)) (vs,L) k).2<=300000/\
 ∀i,wG alt W H t (prt ks k)=some i->i<n/\-300000<=(xJ alt ks W H t (yN (vs.getD (zU alt W t) 0)) (vs,L) k).1.getD i 0/\(xJ alt ks W H t (yN (vs.getD (zU alt W t) 0)) (vs,L) k).1.getD i 0<=300000:=by
 obtain ⟨u,m⟩:=r.mid h l k;have b:=fun j=>Wj h t l k om j;refine ⟨by rw [m];exact (b 0).2.2.1,by rw [m];exact (b 0).2.2.2,fun i hi=>?_⟩;obtain ⟨q,x,s,rfl⟩:=h.tgt l hk hi;rw [u q x s];exact ⟨h.pos s,(b _).1,(b _).2.1⟩
theorem wU.step (h:jr alt ks W H ink n) (r:wU alt ks W H ink n t ds es vs L) (k:t<n):
 wU alt ks W H ink n (t+1) (ds.set (zU alt W t) (ZK (vs.getD (zU alt W t) 0))) (es.set (zU alt W t) (yN (vs.getD (zU alt W t) 0)))
  (xJ alt ks W H t (yN (vs.getD (zU alt W t) 0)) (vs,L) ks.length).1 (xJ alt ks W H t (yN (vs.getD (zU alt W t) 0)) (vs,L) ks.length).2:=by
 obtain ⟨l,m⟩:=r.mid h k ks.length;have e:=(r.here h k).1;exact ⟨by rw [r.hd,e];rfl,by rw [r.he,e];rfl,by rw [m];rfl,by rw [UK];exact r.hl,fun i hi j=>by rw [l i om j];rfl⟩
end
end
section
open Go.RowKit Tq Go.Proofs.Tryz
variable {D Hn T Wn c g g1 g2 kcap kn n y : Nat} {E : Prop} {H W : Int} {K : Act → World → Prop} {P : Program} {Q : Exit → Act → World → Prop} {a : Act} {alt : Bool} {b e f : Value} {kad : Option Addr} {o : Oper} {ops : Array Oper} {v w w' : World} {xs : List Int} {zs : Array Value}
def zCk (w wx:World) (kad:Option Addr) (kn kcap:Nat) (W H:Int) (n:Nat) (xs:List Int) (s:Value):Prop:=
 ∃D gp gr rc,s= .pointer (some ⟨D,0,none⟩)/\DSt wx w D gp gr kad kn kcap W H n rc (List.replicate n 0) xs 0/\Below w w wx
theorem Kg
 (i:o.guard=none) (j:TypeId) (x y:Operand) (k:o.op= .store j x y) (g:Nat) (cells:Array Value) (l:a.eval x= .pointer ↑g) (m:a.eval y= .agg cells)
 (t:TypeId) (old:Array Value) (hg:w.heap[g]? =some (.cells old t (0,0))) (hi:(P.info? j).map (·.size)=some cells.size) (hold:old.size=cells.size) (h1:cells.all (·.oneCell')=true)
 (h:K (a.put o.dst undef) (w.setRow g cells)):if Region.wanted o (yielded ops a.tmps)=true then Oper.wp P o a w K Q else E:=by
 have hw:Region.wanted o (yielded ops a.tmps)=true:=by simp [Region.wanted,i]
 rw [if_pos hw];exact wp_store_row j x y k g cells l m t old hg hi hold h1 h
theorem Blk.c6z {a c d:Value} (h:Blk w g T #[a,b,c,d,e,f]):g<w.heap.size/\JB w g a b c (Jc w (g,3) d/\Jc w (g,4) e/\Jc w (g,5) f):=
 ⟨h.lt,by rw [h.cell];rfl,by rw [h.cell];rfl,by rw [h.cell];rfl,by rw [h.cell];rfl,by rw [h.cell];rfl,by rw [h.cell];rfl⟩
theorem Nr (w:World) {rest:List Oper} (i:o.guard=none) (x y:Operand) (k:o.op= .store 185 x y)
 (g:Nat) (kad p q:Option Addr) (kn kcap m c j c2:Nat) (W H L:Int) (l:a.eval x= .pointer ↑g) (s:a.eval y= .agg #[.slice kad kn kcap,W,H, .slice p m c, .slice q j c2,L])
 (T:Nat) (z0 u z2 z3 z4 z5:Value) (hb:Blk w g T #[z0,u,z2,z3,z4,z5])
 (h:wpList prog ops Q rest (a.put o.dst undef) (w.setRow g #[.slice kad kn kcap,W,H, .slice p m c, .slice q j c2,L])):wpList prog ops Q (o::rest) a w:=
 wpList_store_row i 185 x y k g _ l s T _ hb zK rfl (by simp;exact ⟨rfl,rfl,rfl,rfl,rfl,rfl⟩) h
theorem DSt.other {w:World} {B D i j kn kcap n k:Nat} {kad:Option Addr} {W H L:Int} {ds rs:List Int} (h:DSt w B D i j kad kn kcap W H n k ds rs L) {a:Addr} (ha: ¬kE D i j a.block) (u:Value):DSt (w.setCell a u) B D i j kad kn kcap W H n k ds rs L:=
 ⟨h.hD,h.hp,h.hr,h.n1,h.n2,h.n3,h.box.other (fun e=>ha (.inl e)) _,h.dots.other (fun e=>ha (.inr (.inl e))) _,h.rest.other (fun e=>ha (.inr (.inr e))) _⟩
theorem BelowH.setRow {w v:World} {D:Nat} (h:BelowH w v) (hD:w.heap.size<=D) (i:Array Value):BelowH w (v.setRow D i):=BelowH.mk (below_setRow h.Z hD i)
theorem Ii (i:BelowH w v) (hD:w.heap.size<=D) (j:Blk v D 185 zs) (k:Own v g1 n n (List.replicate n 0)) (l:Own v g2 n c xs)
 (h1:w.heap.size<=g1) (h2:w.heap.size<=g2) (n1:D≠g1) (n2:D≠g2) (n3:g1≠g2):
 zCk w (v.setRow D #[.slice kad kn kcap,W,H, .slice ↑g1 n n, .slice ↑g2 n c,Z0]) kad kn kcap W H n xs (.pointer ↑D):=
 ⟨D,g1,g2,c,rfl,⟨hD,h1,h2,n1,n2,n3,setRow_heap _ _ _ _ _ _ j,k.of_block (setRow_other _ _ _ _ n1.symm),l.of_block (setRow_other _ _ _ _ n2.symm)⟩,below_setRow i.Z hD _⟩
theorem NI (alt:Bool) (ks:List Prt) (W H:Int) (t:Nat):uf ks W H (xAt alt W t) ((t:Int)/W) (qK alt ((t:Int)/W))=fun q=>wG alt W H t (prt ks q):=rfl
theorem Keep.setNew {S:Nat->Prop} (h:Keep S w w') {a:Addr} (ha:w.heap.size<=a.block) (u:Value):Keep S w (w'.setCell a u):=
 ⟨h.os,h.tape,h.output,by simpa [World.setCell] using h.size,fun i hi j=>(Below.heap_setCell w' a u i om).trans (h.block i hi j)⟩
theorem Ey (B D m q:Nat) (kad:Option Addr) (kn kcap:Nat) (W H:Int) (n J:Nat) (ds rs xs:List Int) (L X Y z:Int) (alt:Bool) (t:Nat) (ks:List Prt) (w:World) (hd:DSt w B D m q kad kn kcap W H n J ds rs L)
 (F:ks.length=kn) (G:kP ks=true) (C:kn<=kcap) (I: ∀u,Keep (kE D m q) w u->Rd u kad (flat ks))
 (w1:1<=W) (w2:W<=64) (h1:1<=H) (h2:H<=64) (j:jr alt ks W H xs n) (hr:uV alt ks W H xs n t ds rs L) (A:t<n)
 (U:X=xAt alt W t) (V:Y=(t:Int)/W) (s:z=qK alt ((t:Int)/W)):
 Calls prog 241 #[.pointer ↑D, .agg #[X,Y],z] w fun e w'=>e= .returned (.tuple #[])/\ ∃l x M,uV alt ks W H xs n (t+1) l x M/\DSt w' B D m q kad kn kcap W H n J l x M/\Keep (kE D m q) w w':=by
 subst F U V s;obtain ⟨q1,q2,q3,q4,q5,q6⟩:=XR (alt:=alt) j.W1 j.hn A;obtain ⟨x1,x2⟩:=IV (alt:=alt) (i:=t) j.W1;obtain ⟨e1,N,O,R⟩:=hr.here j A
 refine (iO B D m q kad ks.length kcap W H n J ds rs L (xAt alt W t) ((t:Int)/W) (qK alt ((t:Int)/W)) (rs.getD (zU alt W t) 0) (zU alt W t) ks w hd rfl G C I w1 w2 h1 h2 j.hn j.nb x1 x2 q3 q4
  (by unfold qK;split <;>omega) q2.symm rfl O R N (fun k hk=>by rw [NI];exact hr.safe j A k hk)).mono ?_
 rintro e w' ⟨h1,h2,h3⟩;rw [NI] at h2;exact ⟨h1,_,_,_,hr.step j A,h2,h3⟩
theorem Pz (hn:(n:Int)=(Wn:Int)*(Hn:Int)) (i:y<Hn) (hc:c<Wn):y*Wn+c<n:=by
 have e:((Wn*Hn:Nat):Int)=(Wn:Int)*(Hn:Int):=Int.natCast_mul _ _;have h1:(y+1)*Wn<=Hn*Wn:=Nat.mul_le_mul_right _ om;rw [Nat.add_mul,Nat.one_mul,Nat.mul_comm Hn] at h1;omega
theorem JW {alt:Bool} (i:W=(Wn:Int)) (hc:c<Wn):((y*Wn+c:Nat):Int)/W=y/\((y*Wn+c:Nat):Int) % W=c:=by
 subst i;rw [Int.natCast_add,Int.natCast_mul];exact KJ om om
theorem nO (i:W=(Wn:Int)) (hc:c<Wn) (h: ¬(alt=true/\(y:Int) % 2=1)):(c:Int)=xAt alt W (y*Wn+c)/\(1:Int)=qK alt (((y*Wn+c:Nat):Int)/W):=by
 obtain ⟨a,b⟩:=JW (alt:=alt) (y:=y) i hc;unfold xAt qK;rw [a,b,if_neg h,if_neg h];exact ⟨rfl,rfl⟩
theorem zDJ (i:W=(Wn:Int)) (hc:c<Wn) (h:alt=true/\(y:Int) % 2=1):W - 1 - (c:Int)=xAt alt W (y*Wn+c)/\(-1:Int)=qK alt (((y*Wn+c:Nat):Int)/W):=by
 obtain ⟨a,b⟩:=JW (alt:=alt) (y:=y) i hc;unfold xAt qK;rw [a,b,if_pos h,if_pos h];exact ⟨rfl,rfl⟩
set_option maxRecDepth 100000 in
theorem Nb (kad:Option Addr) (kn kcap:Nat) (W H:Int) (ad:Option Addr) (n X:Nat) (xs:List Int) (alt:Bool) (ks:List Prt) (w:World)
 (j7:ks.length=kn) (j8:Rd w kad (flat ks)) (i3:kn<=kcap) (i4:kP ks=true) (hn:xs.length=n) (ha:Rd w ad xs) (hp:zT W H xs 255=true):
 Calls prog 201 #[.slice kad kn kcap, .agg #[W,H, .slice ad n X], .bool alt] w fun e w'=> ∃J M rc,e= .returned (.agg #[.slice kad kn kcap,W,H, .slice (some ⟨J,0,none⟩) n n, .slice (some ⟨M,0,none⟩) n rc,(yM alt ks W H xs n).lost])/\
  Own w' J n n (yM alt ks W H xs n).dots/\Own w' M n rc (yM alt ks W H xs n).errs/\w.heap.size<=J/\w.heap.size<=M/\Below w w w':=by
 obtain ⟨i0,k8,i1,g7,HN⟩:=JI j7 j8 i4 (jr.of (alt:=alt) hn i4 hp) hn;have HA:=Jh ha;clear hn ha;obtain ⟨hs,hq,hi⟩:=yu HN.Z hp;obtain ⟨b1,b2,b3,b4,b5,b6⟩:=yP hs;obtain ⟨HQ,HI,HS⟩:=JF hq hi hs;have i5:1<=n:=om;have n1:n<=1024:=om;clear hq hi hs;clear j7 j8 i4;go_in;go_upto_region 1 with fail;obtain ⟨KP,KZ,h2,h3⟩:=JG ((Blk.new w 31 #[W,H, .slice ad n X]).alloc (.cells #[.slice none 0 0,Z0,Z0, .slice none 0 0, .slice none 0 0,Z0] 185)) (Blk.zD (g:=w.heap.size+1) (w:=w.alloc (.cells #[W,H, .slice ad n X] 31)) 185 #[.slice none 0 0,Z0,Z0, .slice none 0 0, .slice none 0 0,Z0] sI) ((HA.Z.alloc (.cells #[W,H, .slice ad n X] 31)).alloc (.cells #[.slice none 0 0,Z0,Z0, .slice none 0 0, .slice none 0 0,Z0] 185)) (zM (zM (Below.refl w w) (.cells #[W,H, .slice ad n X] 31)) (.cells #[.slice none 0 0,Z0,Z0, .slice none 0 0, .slice none 0 0,Z0] 185));obtain ⟨wo,k3⟩:=zN ((w.alloc (.cells #[W,H, .slice ad n X] 31)).alloc (.cells #[.slice none 0 0,Z0,Z0, .slice none 0 0, .slice none 0 0,Z0] 185):World);rw [<-k3] at KP KZ h2 h3⊢;clear k3;obtain ⟨ba,oa,m5,n0,_⟩:=HA.Z.at (oh HN);subst m5
 go_step3
 go_upto_region 1 with fail
 go_cut [7] (fun s7 wx=>zCk wo wx kad kn kcap W H n xs s7)
 . obtain ⟨l0,o0,o1,o2⟩:=KP.Z.c3
   have MK:Hd (∀v,BelowH wo v->Jc v w W/\Jc v (w,1) H/\Jc v (w,2) (.slice (some ↑(ba,oa)) n X)/\BelowH wo v):=Jh (fun v hB=>⟨(hB.Z.cell l0).trans o0,(hB.Z.cell l0).trans o1,(hB.Z.cell l0).trans o2,hB⟩);refine wp_region_held_drew (S:=fun v=>Jc v w W/\Jc v (w,1) H/\Jc v (w,2) (.slice (some ↑(ba,oa)) n X)/\BelowH wo v) zK (MK.Z _ (BelowH.start _)) ?_;intro j;have f4:=zDr j;refine zQ 0 ?_;refine zQ 1 ?_;refine zQ 2 ?_;refine zQ 3 ?_;refine zQ 4 ?_;refine zQ 6 ?_;refine zQ 7 ?_;refine wpAnyH_ready (rs:=[5,10]) zK sI ?_;refine AllReadyH.cons rfl (fun K hK=>?_) (AllReadyH.cons rfl (fun K hK=>?_) AllReadyH.nil)
   . go_simp
     go_at_call 141
     ((with_reducible refine (qF W H n _ HS.Z HQ.Z).mono ?_);rintro e v1 ⟨g1,rfl,h6,d4,h7⟩);have z:=BelowH.call f4 h7;have k0:=d4.lt;have f6:=Yx (BelowH.le f4) h6;have n2:=k0;go_wp2_with fail;refine hK.out _ _ (Jd (MK.Z _ z)) (fun j=>?_);clear hK K;refine wpAnyH_ready (rs:=[8,10]) zK sI ?_;refine AllReadyH.cons rfl (fun K hK=>?_) (AllReadyH.cons rfl (fun K hK=>?_) AllReadyH.nil)
     . go_simp
       go_at_call 69
       ((with_reducible refine (QF ba oa n X xs _ HN.Z (by exact h2.Z.below (BelowH.Z z)) i5 om).mono ?_);rintro e v2 ⟨g2,c2,rfl,e5,f5,d0⟩);have I:=BelowH.call z d0;have k2:=e5.lt;have e4:=Yx (BelowH.le z) f5;have f8:=d4.below d0 d4.lt;go_wp2_with fail;refine hK.out _ _ (Jd (MK.Z _ I)) (fun j=>?_);clear hK K;refine zQ 9 ?_;refine yI 10 (fun K hK=>?_);go_simp;refine hK.out _ _ (Jd (MK.Z _ (BelowH.alloc I _))) (fun j=>?_);clear hK K;refine yI 11 (fun K hK=>?_);refine Kg rfl _ _ _ rfl v2 _ (by rfl) (by rfl) _ _ (Blk.new v2 _ _) zK (by rfl) (by simp;exact ⟨rfl,rfl,rfl,rfl,rfl,rfl⟩) ?_;refine hK.out _ _ (by (try dsimp only);exact MK.Z _ (BelowH.setRow (BelowH.alloc I _) I.le _)) (fun j=>?_);clear hK K;refine wpAnyH_done zK ?_ _;(try go_simp)
       go_wp2
       go_meet;exact Ii (BelowH.alloc I _) I.le (Blk.new v2 _ _) (f8.alloc _) (e5.alloc _) f6 e4 (og f8.lt) om om
     go_simp;refine hK.out _ _ (Jd (MK.Z _ (BelowH.alloc z _))) (fun j=>?_);clear hK K;refine yI 8 (fun K hK=>?_);go_simp
     go_at_call 69
     ((with_reducible refine (QF ba oa n X xs _ HN.Z (by exact h2.Z.below (BelowH.Z (BelowH.alloc z _))) i5 om).mono ?_);rintro e v2 ⟨g2,c2,rfl,e5,f5,d0⟩);have I:=BelowH.call (BelowH.alloc z _) d0;have k2:=e5.lt;have e4:=Yx (BelowH.le (BelowH.alloc z _)) f5;have f8:=(d4.alloc _).below d0 (d4.alloc _).lt;have kb:=(Blk.new v1 185 #[.slice none 0 0,Z0,Z0, .slice none 0 0, .slice none 0 0,Z0]).zA d0;go_wp2_with fail;refine hK.out _ _ (Jd (MK.Z _ I)) (fun j=>?_);clear hK K;refine zQ 9 ?_;refine yI 11 (fun K hK=>?_);refine Kg rfl _ _ _ rfl v1 _ (by rfl) (by rfl) _ _ kb zK (by rfl) (by simp;exact ⟨rfl,rfl,rfl,rfl,rfl,rfl⟩) ?_;refine hK.out _ _ (Jd (MK.Z _ (BelowH.setRow I z.le _))) (fun j=>?_);clear hK K;refine wpAnyH_done zK ?_ _;(try go_simp)
     go_wp2
     go_meet;exact Ii I z.le kb f8 e5 f6 e4 om (by simp at f5;omega) (by simp at f5;omega)
   go_simp;refine hK.out _ _ (Jd (MK.Z _ (BelowH.alloc f4 _))) (fun j=>?_);clear hK K;refine yI 5 (fun K hK=>?_);go_simp
   go_at_call 141
   ((with_reducible refine (qF W H n _ HS.Z HQ.Z).mono ?_);rintro e v1 ⟨g1,rfl,h6,d4,h7⟩);have z:=BelowH.call (BelowH.alloc f4 _) h7;have k0:=d4.lt;have f6:=Yx (BelowH.le (BelowH.alloc f4 _)) h6;have k4:=(Blk.new wo.drew 185 #[.slice none 0 0,Z0,Z0, .slice none 0 0, .slice none 0 0,Z0]).zA h7;go_wp2_with fail;refine hK.out _ _ (Jd (MK.Z _ z)) (fun j=>?_);clear hK K;refine yI 8 (fun K hK=>?_);go_simp
   go_at_call 69
   ((with_reducible refine (QF ba oa n X xs _ HN.Z (by exact h2.Z.below (BelowH.Z z)) i5 om).mono ?_);rintro e v2 ⟨g2,c2,rfl,e5,f5,d0⟩);have I:=BelowH.call z d0;have k2:=e5.lt;have e4:=Yx (BelowH.le z) f5;have f8:=d4.below d0 d4.lt;have kb:=k4.zA d0;go_wp2_with fail;refine hK.out _ _ (Jd (MK.Z _ I)) (fun j=>?_);clear hK K;refine zQ 9 ?_;refine yI 11 (fun K hK=>?_);refine Kg rfl _ _ _ rfl wo.drew.heap.size _ (by rfl) (by rfl) _ _ kb zK (by rfl) (by simp;exact ⟨rfl,rfl,rfl,rfl,rfl,rfl⟩) ?_;refine hK.out _ _ (Jd (MK.Z _ (BelowH.setRow I f4.le _))) (fun j=>?_);clear hK K;refine wpAnyH_done zK ?_ _;(try go_simp)
   go_wp2
   go_meet;exact Ii I f4.le kb f8 e5 f6 e4 (by simp at h6;omega) (og k4.lt) om
 obtain ⟨D,J,M,rc,rfl,hd,hb⟩:=hcut;obtain ⟨d6,h8,b8⟩:=JF hd (zL h3.Z hb) (show w.heap.size+1<wo.heap.size from KZ.Z.lt);obtain ⟨g5,j0,m2⟩:=JF (show∀u,Keep (kE D J M) wc u->Rd u kad (flat ks) from fun u hu=>k8.Z.below ((zL h3.Z hb).trans (hu.below (B:=w.heap.size) (fun i hi=>by have:=d6.Z.trio i hi;have:=h3.Z.size;omega) (og h8.Z.size)))) (KP.Z.zA hb) (KZ.Z.zA hb);obtain ⟨Hn,j3⟩: ∃Hn:Nat,H=(Hn:Int):=⟨H.toNat,om⟩
 obtain ⟨Wn,j4⟩: ∃Wn:Nat,W=(Wn:Int):=⟨W.toNat,om⟩
 have h4:=Jh j3;have k:=Jh j4;obtain ⟨l0,o0,o1,o2⟩:=j0.Z.c3;clear hd hb j3 j4;go_wp2_with fail
 go_step3
 go_wp2
 go_loopg [23] Hn (fun g m7 wx=> ∃(y:Nat) (ds rs:List Int) (L:Int),y+g=Hn/\m7=↑y/\Hd (uV alt ks W H xs n (y*Wn) ds rs L)/\Hd (DSt wx wo D J M kad kn kcap W H n rc ds rs L)/\Hd (Keep (kE D J M) wc wx))
 exact ⟨0,_,_,_,om,rfl,Jh (by rw [Nat.zero_mul];exact uV.start g7.Z),Jh d6.Z,Jh (Keep.refl _ _)⟩;obtain ⟨y,ds,rs,L,n3,rfl,h5,x,N⟩:=hrel;have c8:=Jh (N.Z.blk j0.Z (fun h=>by have:=d6.Z.trio _ h;have:=b8.Z;omega));clear l0 o0 o1 o2;obtain ⟨l0,o0,o1,o2⟩:=c8.Z.c3;cases gk with
 | zero=>
  have m6: ¬((y:Int)<H):=by have:=h4.Z;omega
  have j1:=Jh (N.Z.blk m2.Z (fun h=>by have:=d6.Z.trio _ h;have:=b8.Z;omega));have m3:=Jh (setRow_heap wr (w.heap.size+1) _ #[.slice kad kn kcap,W,H, .slice (some ⟨J,0,none⟩) n n, .slice (some ⟨M,0,none⟩) n rc,L] _ _ j1.Z)
  have m1:Hd (y*Wn=n):=Jh (by
   have e:y=Hn:=om;have e2:(n:Int)=(Wn:Int)*(Hn:Int):=by rw [<-k.Z,<-h4.Z];exact HQ.Z
   have e3:((Wn*Hn:Nat):Int)=(Wn:Int)*(Hn:Int):=Int.natCast_mul _ _
   rw [e,Nat.mul_comm];omega)
  obtain ⟨dl,c0,c1,c2,c3,c4,c5⟩:=x.Z.c6;go_wp2_with (with_reducible refine Nr wr rfl (.tmp 6) (.tmp 53) rfl (w.heap.size+1) kad (some ⟨J,0,none⟩) (some ⟨M,0,none⟩) kn kcap n n n rc W H L rfl rfl _ _ _ _ _ _ _ j1.Z ?_);obtain ⟨zl,z0,z1,z2,z3,z4,z5⟩:=Blk.c6z (show Blk _ _ _ _ from m3.Z);have m0:=Jh (h5.Z);have i6:=m0.Z;rw [m1.Z] at i6;obtain ⟨d1,d2,d3⟩:=i6.done g7.Z;obtain ⟨k7,b7,f2⟩:=JF d1 d2 d3;have NP:J≠w.heap.size+1:=by have:=x.Z.hp;have:=b8.Z;omega
  have NR:M≠w.heap.size+1:=by have:=x.Z.hr;have:=b8.Z;omega
  have k6:=Jh (below_setRow (h8.Z.trans (N.Z.below (B:=w.heap.size) (fun i hi=>by have:=d6.Z.trio i hi;have:=b8.Z;omega) (og h8.Z.size))) (show w.heap.size<=w.heap.size+1 by omega) #[.slice kad kn kcap,W,H, .slice (some ⟨J,0,none⟩) n n, .slice (some ⟨M,0,none⟩) n rc,L]);clear d1 d2 d3 i6
  exact bodyPost_ret (v:= .agg #[.slice kad kn kcap,W,H, .slice (some ⟨J,0,none⟩) n n, .slice (some ⟨M,0,none⟩) n rc,L]) (by simp [results,results201,go_sem,z0,z1,z2,z3,z4,z5]) rfl
   ⟨J,M,rc,by rw [f2.Z],by rw [<-k7.Z];exact x.Z.dots.of_block (setRow_other _ _ _ _ NP),by rw [<-b7.Z];exact x.Z.rest.of_block (setRow_other _ _ _ _ NR),by have:=x.Z.hp;have:=b8.Z;omega,by have:=x.Z.hr;have:=b8.Z;omega,k6.Z⟩
 | succ g=>
  have m6:(y:Int)<H:=by have:=h4.Z;omega
  have i2:Hd ((n:Int)=(Wn:Int)*(Hn:Int)):=Jh (by rw [<-k.Z,<-h4.Z];exact HQ.Z);have m8:1<=Wn:=by have:=k.Z;omega
  have i7:y<Hn:=om;by_cases ha:alt=true/\(y:Int) % 2=1
  case pos=>
   obtain ⟨j5,g0⟩:=ha;have d5:=Jh (show alt=true/\(y:Int) % 2=1 from ⟨j5,g0⟩);have m4:((y:Int) % 2==1)=true:=by simpa using g0
   clear g0;subst j5;go_wp2_with fail;obtain ⟨V,d7,O,U⟩:=JG (Blk.new wr 176 #[.int .i64 (W - 1),y]) (x.Z.alloc (.cells #[.int .i64 (W - 1),y] 176)) ((Keep.refl (kE D J M) wr).alloc (.cells #[.int .i64 (W - 1),y] 176)) x.Z.trioLt;obtain ⟨wq,e8⟩:=zN (wr.alloc (.cells #[.int .i64 (W - 1),y] 176):World);rw [<-e8] at V d7 O⊢;obtain ⟨A,hA⟩: ∃A,wr.heap.size=A:=⟨_,rfl⟩
   have C:=Jh hA;rw [hA] at V⊢;have pl:=c8.Z.lt;rw [hA] at pl;have i8:=Jh pl;obtain ⟨wb,e7⟩:=zN (wr:World);rw [<-e7] at O N x c8 U C;clear e8 hA e7 l0 o0 o1 o2
   go_loopg [49] Wn (fun g2 k5 wy=> ∃(c:Nat) (q s:List Int) (L2:Int),c+g2=Wn/\Hd (uV true ks W H xs n (y*Wn+c) q s L2)/\Hd (DSt wy wo D J M kad kn kcap W H n rc q s L2)/\Hd (Keep (kE D J M) wb wy)/\Hd (Blk wy A 176 #[.int .i64 (W - 1 - (c:Int)),y]))
   exact ⟨0,_,_,_,om,h5,d7,O,Jh (by simpa using V.Z)⟩;obtain ⟨c,q,s,L2,j6,d8,b7,F,l⟩:=hrel;have g8:=Jh (F.Z.blk c8.Z (fun h=>by have:=d6.Z.trio _ h;have:=b8.Z;omega));obtain ⟨l0,o0,o1,o2⟩:=g8.Z.c3;have a0:=l.Z.cell 0;have a1:=l.Z.cell 1;have f0:=l.Z.frozen 0;have al:=l.Z.lt;simp only [Yi,List.getElem?_cons_zero,List.getElem?_cons_succ] at a0 a1;cases gk with
   | zero=>
    obtain rfl:c=Wn:=om;have k1:Jl ((W - 1 - (c:Int))) W=false:=VJ (oh k);have cb:=k.Z;have j2:-1<=W - 1 - (c:Int):=om;clear cb;go_wp2_with fail;refine (ZC _ _ _ b1 b2).mono ?_;rintro e w9 ⟨rfl,rfl⟩
    go_wp2
    go_roundg g
    case measure=>omega
    exact ⟨y+1,q,s,L2,om,by go_num,Jh (by rw [Nat.add_mul,Nat.one_mul];exact d8.Z),b7,Jh (N.Z.trans F.Z)⟩
   | succ g3=>
    have Y:c<Wn:=om;have f1:=zDJ (alt:=true) (Wn:=Wn) (y:=y) k.Z Y (by first | exact ⟨rfl,d5.Z.2⟩ | exact fun h=>d5.Z ⟨trivial,h.2⟩ | simp);have e0:=Jh f1;have k1:Jl ((W - 1 - (c:Int))) W=true:=YB (oh k) (oh k);have cb:0<=W - 1 - (c:Int):=by have:=k.Z;omega
    clear f1;go_wp2_with fail;refine (ZC _ _ _ b1 b2).mono ?_;rintro e w9 ⟨rfl,rfl⟩;go_wp2_with fail;refine (Ey wo D J M kad kn kcap W H n rc q s xs L2 ((W - 1 - (c:Int))) y (-1) true (y*Wn+c) ks _ b7.Z i0.Z i1.Z i3 (fun u hu=>g5.Z u (N.Z.trans (F.Z.trans hu))) b1 b2 b3 b4 g7.Z d8.Z (Pz i2.Z i7 Y) e0.Z.1 (JW (alt:=true) k.Z Y).1.symm e0.Z.2).mono ?_;rintro e w7 ⟨rfl,h0,h1,L3,e6,e1,b0⟩;obtain ⟨g6,f2,g4,m⟩:=JG e6 e1 (F.Z.trans b0) (b0.blk l.Z (fun h=>by have:=U.Z _ h;have:=C.Z;omega));clear e6 e1 b0 l0 o0 o1 o2 a0 a1 f0 al;have a0:=m.Z.cell 0;have a1:=m.Z.cell 1;have f0:=m.Z.frozen 0;have al:=m.Z.lt;simp only [Yi,List.getElem?_cons_zero,List.getElem?_cons_succ] at a0 a1
    go_wp2
    go_roundg g3
    case measure=>omega
    have na: ¬kE D J M A:=fun h=>by have:=U.Z _ h;have:=C.Z;omega
    refine ⟨c+1,h0,h1,L3,om,g6,Jh (f2.Z.other (a:=⟨A,0,none⟩) na _),Jh (g4.Z.setNew (oS C.Z) _),Jh ?_⟩;have h:=m.Z.set 0 (.int .i64 ((W - 1 - (c:Int))+(-1)));rw [<-show (W - 1 - (c:Int))+(-1)=W - 1 - ((c+1:Nat):Int) by omega];simpa using h
  cases alt
  case true=>
   have g0: ¬(y:Int) % 2=1:=fun h=>ha ⟨rfl,h⟩;have d5:=Jh ha;have m4:((y:Int) % 2==1)=false:=by simpa using g0
   clear g0 ha;go_wp2_with fail;obtain ⟨V,d7,O,U⟩:=JG (Blk.new wr 176 #[Z0,y]) (x.Z.alloc (.cells #[Z0,y] 176)) ((Keep.refl (kE D J M) wr).alloc (.cells #[Z0,y] 176)) x.Z.trioLt;obtain ⟨wq,e8⟩:=zN (wr.alloc (.cells #[Z0,y] 176):World);rw [<-e8] at V d7 O⊢;obtain ⟨A,hA⟩: ∃A,wr.heap.size=A:=⟨_,rfl⟩
   have C:=Jh hA;rw [hA] at V⊢;have pl:=c8.Z.lt;rw [hA] at pl;have i8:=Jh pl;obtain ⟨wb,e7⟩:=zN (wr:World);rw [<-e7] at O N x c8 U C;clear e8 hA e7 l0 o0 o1 o2
   go_loopg [49] Wn (fun g2 k5 wy=> ∃(c:Nat) (q s:List Int) (L2:Int),c+g2=Wn/\Hd (uV true ks W H xs n (y*Wn+c) q s L2)/\Hd (DSt wy wo D J M kad kn kcap W H n rc q s L2)/\Hd (Keep (kE D J M) wb wy)/\Hd (Blk wy A 176 #[(c:Int),y]))
   exact ⟨0,_,_,_,om,h5,d7,O,Jh (by simpa using V.Z)⟩;obtain ⟨c,q,s,L2,j6,d8,b7,F,l⟩:=hrel;have g8:=Jh (F.Z.blk c8.Z (fun h=>by have:=d6.Z.trio _ h;have:=b8.Z;omega));obtain ⟨l0,o0,o1,o2⟩:=g8.Z.c3;have a0:=l.Z.cell 0;have a1:=l.Z.cell 1;have f0:=l.Z.frozen 0;have al:=l.Z.lt;simp only [Yi,List.getElem?_cons_zero,List.getElem?_cons_succ] at a0 a1;cases gk with
   | zero=>
    obtain rfl:c=Wn:=om;have k1:Jl ((c:Int)) W=false:=VJ (oh k);have cb:=k.Z;have j2:-1<=W - 1 - (c:Int):=om;clear cb;go_wp2_with fail;refine (ZC _ _ _ b1 b2).mono ?_;rintro e w9 ⟨rfl,rfl⟩
    go_wp2
    go_roundg g
    case measure=>omega
    exact ⟨y+1,q,s,L2,om,by go_num,Jh (by rw [Nat.add_mul,Nat.one_mul];exact d8.Z),b7,Jh (N.Z.trans F.Z)⟩
   | succ g3=>
    have Y:c<Wn:=om;have f1:=nO (alt:=true) (Wn:=Wn) (y:=y) k.Z Y (by first | exact ⟨rfl,d5.Z.2⟩ | exact fun h=>d5.Z ⟨trivial,h.2⟩ | simp);have e0:=Jh f1;have k1:Jl ((c:Int)) W=true:=YB (oh k) (oh k);have cb:0<=W - 1 - (c:Int):=by have:=k.Z;omega
    clear f1;go_wp2_with fail;refine (ZC _ _ _ b1 b2).mono ?_;rintro e w9 ⟨rfl,rfl⟩;go_wp2_with fail;refine (Ey wo D J M kad kn kcap W H n rc q s xs L2 ((c:Int)) y (1) true (y*Wn+c) ks _ b7.Z i0.Z i1.Z i3 (fun u hu=>g5.Z u (N.Z.trans (F.Z.trans hu))) b1 b2 b3 b4 g7.Z d8.Z (Pz i2.Z i7 Y) e0.Z.1 (JW (alt:=true) k.Z Y).1.symm e0.Z.2).mono ?_;rintro e w7 ⟨rfl,h0,h1,L3,e6,e1,b0⟩;obtain ⟨g6,f2,g4,m⟩:=JG e6 e1 (F.Z.trans b0) (b0.blk l.Z (fun h=>by have:=U.Z _ h;have:=C.Z;omega));clear e6 e1 b0 l0 o0 o1 o2 a0 a1 f0 al;have a0:=m.Z.cell 0;have a1:=m.Z.cell 1;have f0:=m.Z.frozen 0;have al:=m.Z.lt;simp only [Yi,List.getElem?_cons_zero,List.getElem?_cons_succ] at a0 a1
    go_wp2
    go_roundg g3
    case measure=>omega
    have na: ¬kE D J M A:=fun h=>by have:=U.Z _ h;have:=C.Z;omega
    refine ⟨c+1,h0,h1,L3,om,g6,Jh (f2.Z.other (a:=⟨A,0,none⟩) na _),Jh (g4.Z.setNew (oS C.Z) _),Jh ?_⟩;have h:=m.Z.set 0 (.int .i64 ((c:Int)+(1)));rw [<-show (c:Int)+(1)=((c+1:Nat):Int) by omega];simpa using h
  have d5:=Jh ha;clear ha;go_wp2_with fail;obtain ⟨V,d7,O,U⟩:=JG (Blk.new wr 176 #[Z0,y]) (x.Z.alloc (.cells #[Z0,y] 176)) ((Keep.refl (kE D J M) wr).alloc (.cells #[Z0,y] 176)) x.Z.trioLt;obtain ⟨wq,e8⟩:=zN (wr.alloc (.cells #[Z0,y] 176):World);rw [<-e8] at V d7 O⊢;obtain ⟨A,hA⟩: ∃A,wr.heap.size=A:=⟨_,rfl⟩
  have C:=Jh hA;rw [hA] at V⊢;have pl:=c8.Z.lt;rw [hA] at pl;have i8:=Jh pl;obtain ⟨wb,e7⟩:=zN (wr:World);rw [<-e7] at O N x c8 U C;clear e8 hA e7 l0 o0 o1 o2
  go_loopg [49] Wn (fun g2 k5 wy=> ∃(c:Nat) (q s:List Int) (L2:Int),c+g2=Wn/\Hd (uV false ks W H xs n (y*Wn+c) q s L2)/\Hd (DSt wy wo D J M kad kn kcap W H n rc q s L2)/\Hd (Keep (kE D J M) wb wy)/\Hd (Blk wy A 176 #[(c:Int),y]))
  exact ⟨0,_,_,_,om,h5,d7,O,Jh (by simpa using V.Z)⟩;obtain ⟨c,q,s,L2,j6,d8,b7,F,l⟩:=hrel;have g8:=Jh (F.Z.blk c8.Z (fun h=>by have:=d6.Z.trio _ h;have:=b8.Z;omega));obtain ⟨l0,o0,o1,o2⟩:=g8.Z.c3;have a0:=l.Z.cell 0;have a1:=l.Z.cell 1;have f0:=l.Z.frozen 0;have al:=l.Z.lt;simp only [Yi,List.getElem?_cons_zero,List.getElem?_cons_succ] at a0 a1;cases gk with
  | zero=>
   obtain rfl:c=Wn:=om;have k1:Jl ((c:Int)) W=false:=VJ (oh k);have cb:=k.Z;have j2:-1<=W - 1 - (c:Int):=om;clear cb;go_wp2_with fail;refine (ZC _ _ _ b1 b2).mono ?_;rintro e w9 ⟨rfl,rfl⟩
   go_wp2
   go_roundg g
   case measure=>omega
   exact ⟨y+1,q,s,L2,om,by go_num,Jh (by rw [Nat.add_mul,Nat.one_mul];exact d8.Z),b7,Jh (N.Z.trans F.Z)⟩
  | succ g3=>
   have Y:c<Wn:=om;have f1:=nO (alt:=false) (Wn:=Wn) (y:=y) k.Z Y (by first | exact ⟨rfl,d5.Z.2⟩ | exact fun h=>d5.Z ⟨trivial,h.2⟩ | simp);have e0:=Jh f1;have k1:Jl ((c:Int)) W=true:=YB (oh k) (oh k);have cb:0<=W - 1 - (c:Int):=by have:=k.Z;omega
   clear f1;go_wp2_with fail;refine (ZC _ _ _ b1 b2).mono ?_;rintro e w9 ⟨rfl,rfl⟩;go_wp2_with fail;refine (Ey wo D J M kad kn kcap W H n rc q s xs L2 ((c:Int)) y (1) false (y*Wn+c) ks _ b7.Z i0.Z i1.Z i3 (fun u hu=>g5.Z u (N.Z.trans (F.Z.trans hu))) b1 b2 b3 b4 g7.Z d8.Z (Pz i2.Z i7 Y) e0.Z.1 (JW (alt:=false) k.Z Y).1.symm e0.Z.2).mono ?_;rintro e w7 ⟨rfl,h0,h1,L3,e6,e1,b0⟩;obtain ⟨g6,f2,g4,m⟩:=JG e6 e1 (F.Z.trans b0) (b0.blk l.Z (fun h=>by have:=U.Z _ h;have:=C.Z;omega));clear e6 e1 b0 l0 o0 o1 o2 a0 a1 f0 al;have a0:=m.Z.cell 0;have a1:=m.Z.cell 1;have f0:=m.Z.frozen 0;have al:=m.Z.lt;simp only [Yi,List.getElem?_cons_zero,List.getElem?_cons_succ] at a0 a1
   go_wp2
   go_roundg g3
   case measure=>omega
   have na: ¬kE D J M A:=fun h=>by have:=U.Z _ h;have:=C.Z;omega
   refine ⟨c+1,h0,h1,L3,om,g6,Jh (f2.Z.other (a:=⟨A,0,none⟩) na _),Jh (g4.Z.setNew (oS C.Z) _),Jh ?_⟩;have h:=m.Z.set 0 (.int .i64 ((c:Int)+(1)));rw [<-show (c:Int)+(1)=((c+1:Nat):Int) by omega];simpa using h
end
end Go.Proofs.YtlenfgdjdianiaaGreatDoor
