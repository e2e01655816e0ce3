/- Facts on which this claim rests, 23. -/
import Derived.Test.YtlenfgdjdianiaaGreatDoorF22
set_option linter.all false
set_option maxHeartbeats 6400000
namespace Go.Proofs.YtlenfgdjdianiaaGreatDoor
section
variable {a bs e m n s x y : Nat} {f g : Nat → Int} {key : Int → Int}
open Tq Go.Proofs.Tryz
def kv (key:Int->Int) (f:Nat->Int) (x y:Nat):Prop:=Srt key f x y/\ ∀k,x<=k->k<y->(x:Int)<=f k/\f k<y
def vS (key:Int->Int) (f:Nat->Int) (bs n:Nat):Prop:= ∀s,bs ∣ s->s<n->kv key f s (min (s+bs) n)
theorem kv.congr (h:kv key f x y) (e: ∀k,x<=k->k<y->g k=f k):kv key g x y:=
 ⟨fun i j p q r=>by rw [e i p om,e j om r];exact h.1 i j p q r,fun k p q=>by rw [e k p q];exact h.2 k p q⟩
theorem kv.less (h1:kv key f x m) (h2:kv key f m y):jL f x m y:=fun i j p q r t=>by
 have a:=(h1.2 i p q).2;have b:=(h2.2 j r t).1;omega
theorem kv.merged (h1:kv key f x m) (h2:kv key f m y) (z:x<=m) (o:m<=y) (hm:zT key g f x y):kv key g x y:=by
 refine ⟨hm.srt,fun k p q=>?_⟩;obtain ⟨l,a0,a1,a2⟩:=hm.frm k p q;rw [a2];by_cases c:l<m
 have:=h1.2 l a0 c;omega;have:=h2.2 l om a1;omega
theorem jh {d:Nat} (l:d ∣ s) (ha:d ∣ a) (h:s<a):s+d<=a:=by
 obtain ⟨x,rfl⟩:=l;obtain ⟨y,rfl⟩:=ha
 have hd:0<d:=by
  rcases Nat.eq_zero_or_pos d with e | e
  subst e;simp at h;exact e
 have o:x<y:=Nat.lt_of_mul_lt_mul_left h;have:=Nat.mul_le_mul_left d (show x+1<=y by omega);rw [Nat.mul_add,Nat.mul_one] at this;exact this
structure qK (key:Int->Int) (f:Nat->Int) (bs n a:Nat):Prop where
 pos:1<=bs
 da:2*bs ∣ a
 an:a<=n
 done: ∀s,2*bs ∣ s->s<a->kv key f s (s+2*bs)
 rest: ∀s,bs ∣ s->a<=s->s<n->kv key f s (min (s+bs) n)
theorem qK.start (h:vS key f bs n) (hb:1<=bs):qK key f bs n 0:=
 ⟨hb,Nat.dvd_zero _,nZ,fun s _ h=>om,fun s h1 _ h3=>h s h1 h3⟩
theorem Ky (h:2*bs ∣ a):bs ∣ a:=Nat.dvd_trans ⟨2,by rw [Nat.mul_comm]⟩ h
theorem qK.two (P:qK key f bs n a) (h1:a+bs<e) (h2:e<=a+2*bs) (he:e=a+2*bs\/e=n) (hn:e<=n):kv key f a (a+bs)/\kv key f (a+bs) e:=by
 have pos:=P.pos;have g1:=P.rest a (Ky P.da) nI om;have g2:=P.rest (a+bs) (Nat.dvd_add (Ky P.da) (Nat.dvd_refl _)) om om;rw [show min (a+bs) n=a+bs by omega] at g1;rw [show min (a+bs+bs) n=e by omega] at g2;exact ⟨g1,g2⟩
theorem qK.step (P:qK key f bs n a) (h1:a+2*bs<=n) (hm:zT key g f a (a+2*bs)):qK key g bs n (a+2*bs):=by
 have pos:=P.pos;obtain ⟨g1,g2⟩:=P.two (e:=a+2*bs) om nI (Or.inl rfl) h1;have g3:=g1.merged g2 om om hm;refine ⟨pos,Nat.dvd_add P.da (Nat.dvd_refl _),h1,fun s l o=>?_,fun s l h2 h3=>?_⟩
 . by_cases c:s<a
   . have:=jh l P.da c
     exact (P.done s l c).congr (fun k p q=>hm.same k om)
   have:s=a:=by
    by_cases e:s=a
    exact e;have:=jh P.da l om;omega
   subst this;exact g3
 exact (P.rest s l om h3).congr (fun k p q=>hm.same k om)
theorem qK.last (P:qK key f bs n a) (h1:n<a+2*bs) (h2:a+bs<n) (hm:zT key g f a n):vS key g (2*bs) n:=by
 have pos:=P.pos;obtain ⟨g1,g2⟩:=P.two (e:=n) h2 om (Or.inr rfl) nI;have g3:=g1.merged g2 om om hm;intro s l o;by_cases c:s<a
 . have:=jh l P.da c
   rw [show min (s+2*bs) n=s+2*bs by have:=P.an;omega];exact (P.done s l c).congr (fun k p q=>hm.same k om)
 have:s=a:=by
  by_cases e:s=a
  exact e;have:=jh P.da l om;omega
 subst this;rw [show min (s+2*bs) n=n by omega];exact g3
theorem qK.end_ (P:qK key f bs n a) (h1:n<a+2*bs) (h2: ¬a+bs<n):vS key f (2*bs) n:=by
 have pos:=P.pos;intro s o l;by_cases c:s<a
 . have:=jh o P.da c
   rw [show min (s+2*bs) n=s+2*bs by have:=P.an;omega];exact P.done s o c
 have:s=a:=by
  by_cases e:s=a
  exact e;have:=jh P.da o om;omega
 subst this;have g:=P.rest s (Ky P.da) nI l;rw [show min (s+bs) n=n by omega] at g;rw [show min (s+2*bs) n=n by omega];exact g
theorem vS.whole (h:vS key f bs n) (h1:n<=bs) (hn:0<n):kv key f 0 n:=by
 have:=h 0 (Nat.dvd_zero _) hn;rwa [show min (0+bs) n=n by omega] at this
theorem vS.inRow (h:vS key f bs n) (hb:1<=bs) (k:Nat) (hk:k<n):0<=f k/\f k<n:=by
 have e:=Nat.div_add_mod k bs;have l:=Nat.mod_lt k (show 0<bs by omega);have g:=h (bs*(k/bs)) (Nat.dvd_mul_right _ _) om;have:=g.2 k om om;omega
theorem qK.inRow (P:qK key f bs n a) (k:Nat) (hk:k<n):0<=f k/\f k<n:=by
 have pos:=P.pos;by_cases c:k<a
 . have e:=Nat.div_add_mod k (2*bs)
   have l:=Nat.mod_lt k (show 0<2*bs by omega);have o:2*bs ∣ 2*bs*(k/(2*bs)):=Nat.dvd_mul_right _ _;have g:=(P.done (2*bs*(k/(2*bs))) o om).2 k om om;have:=jh o P.da om;have:=P.an;omega
 have e:=Nat.div_add_mod k bs;have l:=Nat.mod_lt k (show 0<bs by omega);have o:bs ∣ bs*(k/bs):=Nat.dvd_mul_right _ _
 have h2:a<=bs*(k/bs):=by
  by_cases d:a<=bs*(k/bs)
  exact d;have:=jh o (Ky P.da) om;omega
 have g:=(P.rest (bs*(k/bs)) o h2 om).2 k om om;omega
structure Zv (key:Int->Int) (f:Nat->Int) (n a:Nat):Prop where
 da:20 ∣ a
 an:a<=n
 done: ∀s,20 ∣ s->s<a->kv key f s (s+20)
 rest: ∀k,a<=k->k<n->f k=(k:Int)
theorem Zv.step (P:Zv key f n a) (h1:a+20<=n) (o:Srt key g a (a+20)) (hv: ∀p,a<=p->p<a+20->(a:Int)<=g p/\g p<(a+20:Nat)) (l: ∀p,p<a\/a+20<=p->g p=f p):Zv key g n (a+20):=by
 refine ⟨Nat.dvd_add P.da (Nat.dvd_refl _),h1,fun s h2 h3=>?_,fun k h2 h3=>by rw [l k om];exact P.rest k om h3⟩;by_cases c:s<a
 . have:=jh h2 P.da c
   exact (P.done s h2 c).congr (fun k p q=>l k om)
 have:s=a:=by
  by_cases e:s=a
  exact e;have:=jh P.da h2 om;omega
 subst this;exact ⟨o,hv⟩
theorem Zv.last (P:Zv key f n a) (h1:n<a+20) (o:Srt key g a n) (hv: ∀p,a<=p->p<n->(a:Int)<=g p/\g p<n) (l: ∀p,p<a\/n<=p->g p=f p):vS key g 20 n:=by
 intro s h2 h3;by_cases c:s<a
 . have:=jh h2 P.da c
   rw [show min (s+20) n=s+20 by have:=P.an;omega];exact (P.done s h2 c).congr (fun k p q=>l k om)
 have:s=a:=by
  by_cases e:s=a
  exact e;have:=jh P.da h2 om;omega
 subst this;rw [show min (s+20) n=n by omega];exact ⟨o,hv⟩
end
section
open Go.RowKit Tq Go.Proofs.Tryz
theorem zQk (g:Nat) (cb:Array Value) (key:Int->Int) (blk n:Nat) (o: ∀args w,(callFunc g args).run prog w= .ok (.enter g args) w) (hn:n<=100000):
 ∀(N a m b:Nat) (f:Nat->Int) (w:World),b - a<=N->xS g cb key blk n w->Own w blk n n (gen n f)->a<m->m<b->b<=n->uI f n->Srt key f a m->Srt key f m b->jL f a m b->
  Calls prog 291 #[.slice ↑blk n n,a,m,b, .func (.func g) #[] cb] w fun e w'=> ∃z,e= .returned (.tuple #[])/\Own w' blk n n (gen n z)/\w.grownBy w' (some blk)/\zT key z f a b:=by
 intro N
 induction N with
 | zero=>intro a m b f w C hc l h1 h2;omega
 | succ N D=>
  intro a m b f w C hc l h1 h2 h3 hv sl sr hl;by_cases ha:m=a+1
  exact zOb g cb key blk n a m b f w o hc l hn ha h2 h3 hv sr hl;by_cases hb:b=m+1
  exact zMR g cb key blk n a m b f w o hc l hn ha h1 hb h3 hv sl hl;exact zOc g cb key blk n N o hn D a m b f w C hc l ha hb h1 h2 h3 hv sl sr hl
set_option maxRecDepth 100000 in
theorem zIf (g:Nat) (cb:Array Value) (blk n a:Nat) (w:World) (hn:a<=100000):
 Calls prog 290 #[.slice ↑blk n n,a,a, .func (.func g) #[] cb] w fun e w'=>e= .returned (.tuple #[])/\w=w':=by
 go_in;go_wp2_with fail;refine wp_loop_rounds 1 ?_;rw [rounds_succ];go_wp2_with fail
 go_end0
 exact ⟨rfl,rfl⟩
theorem zDt (g:Nat) (cb:Array Value) (key:Int->Int) (blk n a:Nat) (f:Nat->Int) (w:World) (D: ∀args w,(callFunc g args).run prog w= .ok (.enter g args) w) (l:xS g cb key blk n w) (C:Own w blk n n (gen n f)) (hn:n<=100000) (P:Zv key f n a) (h1:n<a+20):
 Calls prog 290 #[.slice ↑blk n n,a,n, .func (.func g) #[] cb] w fun e w'=> ∃o,e= .returned (.tuple #[])/\Own w' blk n n (gen n o)/\w.grownBy w' (some blk)/\vS key o 20 n:=by
 by_cases h:a<n
 exact (zAw g cb key blk n a n f w D l C hn h nI (fun k h1 h2=>P.rest k h1 h2)).mono (fun e w' ⟨o,he,z,hg,hi⟩=>⟨o,he,z,hg,P.last h1 hi.srt hi.val hi.Z⟩);have e:a=n:=by have:=P.an;omega
 subst e;exact (zIf g cb blk a a w hn).mono (fun e w' ⟨he,hw⟩=>⟨f,he,by rw [<-hw];exact C,by rw [<-hw];exact yR _ _,P.last h1 (fun i j _ _ _=>om) (fun p _ _=>om) (fun p _=>rfl)⟩)
set_option maxRecDepth 100000 in
theorem zPu (g:Nat) (cb:Array Value) (key:Int->Int) (blk n:Nat) (w:World) (eg: ∀args w,(callFunc g args).run prog w= .ok (.enter g args) w) (I:xS g cb key blk n w) (o:Own w blk n n (gen n (fun k=>(k:Int)))) (hn:n<=100000) (b5:0<n):
 Calls prog 266 #[.slice ↑blk n n,n, .func (.func g) #[] cb] w fun e w'=> ∃M,e= .returned (.tuple #[])/\Own w' blk n n (gen n M)/\w.grownBy w' (some blk)/\kv key M 0 n:=by
 have HO:=Jh o;have W:Aside (xS g cb key blk n w):=I;have T:Hd (Zv key (fun k=>(k:Int)) n 0):=Jh ⟨Nat.dvd_zero _,nZ,fun s _ h=>om,fun k _ _=>rfl⟩;clear o I;go_in;go_wp2_with fail
 go_loopw [7,8] (fun N vb wr=> ∃(a b:Nat) (F:Nat->Int),N=↑a/\vb=↑b/\a+20<=b/\b<=a+20/\Hd (Zv key F n a)/\Hd (Own wr blk n n (gen n F))/\Hd (w.grownBy wr (some blk))) (fun N _ _=>n - (intOf N).toNat)
 case atStart=>exact ⟨0,20,_,rfl,rfl,om,om,T,HO,Jh (yR _ _)⟩
 clear T HO;obtain ⟨a,b,F,rfl,rfl,b1,b2,P,C,l⟩:=hrel;have an:=P.Z.an;by_cases U:b<=n
 . have IN:=Jh (fun k (h1:a<=k) (h2:k<b)=>P.Z.rest k h1 om)
   go_wp2_with fail;refine (zAw g cb key blk n a b F _ eg (xS.on W.out l.Z) C.Z hn om U IN.Z).mono ?_;rintro ex w2 ⟨M,rfl,o,hg,hi⟩;have H:=Jh o;have G:=Jh (zU l.Z hg)
   have P2:Hd (Zv key M n b):=Jh (by
    have e:b=a+20:=om;subst e
    exact P.Z.step U hi.srt hi.val hi.Z)
   clear o hg hi IN;go_wp2_with fail;go_roundw
   case rel=>exact ⟨b,b+20,M,rfl,by go_num,om,om,P2,H,G⟩
   exact Jm
 go_wp2_with fail;refine (zDt g cb key blk n a F _ eg (xS.on W.out l.Z) C.Z hn P.Z om).mono ?_;rintro ex w2 ⟨M,rfl,o,hg,hi⟩;have H:=Jh o;have G:=Jh (zU l.Z hg);have A2:=Jh hi;clear o hg hi P C l;go_wp2_with fail
 go_loopw [6,7,8,9] (fun vs v7 v8 v9 wr=> ∃(bs:Nat) (F:Nat->Int),vs=↑bs/\1<=bs/\bs<=200000/\Hd (vS key F bs n)/\Hd (Own wr blk n n (gen n F))/\Hd (w.grownBy wr (some blk))) (fun vs _ _ _ _=>n - (intOf vs).toNat)
 case atStart=>exact ⟨20,M,rfl,om,om,A2,H,G⟩
 clear A2 H G;obtain ⟨bs,F,rfl,s1,s2,AG,C,l⟩:=hrel;by_cases b6:bs<n
 . obtain ⟨d,hd⟩:=zN (2*bs:Nat)
   have zd:2*(bs:Int)=(d:Int):=om;have b7:(bs:Int)*2=(d:Int):=om;have d1:bs+bs<=d:=om;have d2:d<=bs+bs:=om;have T:=Jh (qK.start AG.Z s1);have O:=Jh hd;clear hd;go_wp2_with fail
   go_loopw [7,8] (fun N vb wr=> ∃(a b:Nat) (F:Nat->Int),N=↑a/\vb=↑b/\a+d<=b/\b<=a+d/\Hd (qK key F bs n a)/\Hd (Own wr blk n n (gen n F))/\Hd (w.grownBy wr (some blk))) (fun N _ _=>n - (intOf N).toNat)
   case atStart=>exact ⟨0,d,F,rfl,rfl,om,om,T,C,l⟩
   clear T C l AG;obtain ⟨a,b,F,rfl,rfl,b1,b2,P,C,l⟩:=hrel;have an:=P.Z.an;obtain ⟨m,hm⟩:=zN (a+bs:Nat);have zm:(a:Int)+(bs:Int)=(m:Int):=om;have m1:a+bs<=m:=om;have m2:m<=a+bs:=om;have Q:=Jh hm;clear hm;by_cases E:b<=n
   . have z:Hd (kv key F a m/\kv key F m b):=Jh (by
      have h:=P.Z.two (e:=b) om om (Or.inl om) E
      rwa [<-Q.Z] at h)
     have R:=Jh (show uI F n from P.Z.inRow);obtain ⟨Y,b0⟩:=zN (b+d:Nat);have zb:(b:Int)+(d:Int)=(Y:Int):=om;have b3:b+d<=Y:=om;have b4:Y<=b+d:=om;clear b0;go_wp2_with fail;refine (zQk g cb key blk n eg hn (b - a) a m b F _ nI (xS.on W.out l.Z) C.Z om om E R.Z z.Z.1.1 z.Z.2.1 (z.Z.1.less z.Z.2)).mono ?_;rintro ex w3 ⟨D,rfl,o,hg,hi⟩;have L:=Jh o;have J:=Jh (zU l.Z hg)
     have P3:Hd (qK key D bs n b):=Jh (by
      have e:b=a+2*bs:=om;subst e
      exact P.Z.step E hi)
     clear o hg hi z R;go_wp2_with fail;go_roundw
     case rel=>exact ⟨b,Y,D,rfl,rfl,b3,b4,P3,L,J⟩
     exact Jm
   by_cases V:m<n
   . have z:Hd (kv key F a m/\kv key F m n):=Jh (by
      have h:=P.Z.two (e:=n) om om (Or.inr rfl) nI
      rwa [<-Q.Z] at h)
     have R:=Jh (show uI F n from P.Z.inRow);go_wp2_with fail;refine (zQk g cb key blk n eg hn (n - a) a m n F _ nI (xS.on W.out l.Z) C.Z om V nI R.Z z.Z.1.1 z.Z.2.1 (z.Z.1.less z.Z.2)).mono ?_;rintro ex w3 ⟨D,rfl,o,hg,hi⟩;have L:=Jh o;have J:=Jh (zU l.Z hg)
     have A3:Hd (vS key D d n):=Jh (by
      rw [O.Z]
      exact P.Z.last om om hi)
     clear o hg hi z R;go_wp2_with fail;go_roundw
     case rel=>exact ⟨d,D,rfl,om,om,A3,L,J⟩
     exact Jm
   have A3:Hd (vS key F d n):=Jh (by
    rw [O.Z]
    exact P.Z.end_ om om)
   go_wp2_with fail;go_roundw
   case rel=>exact ⟨d,F,rfl,om,om,A3,C,l⟩
   exact Jm
 have GW:=Jh (AG.Z.whole om b5);go_wp2_with fail
 go_end0
 exact ⟨F,rfl,C.Z,l.Z,GW.Z⟩
set_option maxRecDepth 100000 in
theorem Xp (g:Nat) (cb:Array Value) (key:Int->Int) (blk n:Nat) (w:World) (I: ∀args w,(callFunc g args).run prog w= .ok (.enter g args) w) (l:xS g cb key blk n w) (o:Own w blk n n (gen n (fun k=>(k:Int)))) (hn:n<=100000) (F:0<n):
 Calls prog 226 #[.slice ↑blk n n, .func (.func g) #[] cb] w fun e w'=> ∃z,e= .returned (.tuple #[])/\Own w' blk n n (gen n z)/\w.grownBy w' (some blk)/\kv key z 0 n:=by
 have H:=Jh o;have G:Aside (xS g cb key blk n w):=l;clear o l;go_in;go_wp2_with fail;refine (zPu g cb key blk n _ I G.out H.Z hn F).mono ?_;rintro J w2 ⟨z,rfl,o,hg,hi⟩;have E:=Jh o;have C:=Jh hg;have D:=Jh hi;clear o hg hi;go_wp2_with fail
 go_end0
 exact ⟨z,rfl,E.Z,C.Z,D.Z⟩
end
section
variable {A B K K' X a b c dx dy g k n q sx u u' v v' w x x' y y' : Int} {f : Nat → Int} {i j : Nat} {key : Int → Int} {t : Nat → Nat}
open Tq Go.Proofs.Tryz
def RLb (key:Int->Int) (x y:Int):Bool:=decide (key x<key y) || (decide (key x=key y) && decide (x<y))
theorem qt:RLb key x y=true↔RL key x y:=by unfold RLb RL;simp
def yz (key:Int->Int) (i:Int):Nat->Nat
 | 0=>0
 | k+1=>yz key i k+if RLb key (k:Int) i=true then 1 else 0
theorem zDQ (key:Int->Int) (i:Int): ∀k,yz key i k<=k
 | 0=>nI
 | k+1=>by
  have:=zDQ key i k;unfold yz;split <;>omega
theorem zFT (key:Int->Int) (i:Int) (n:Nat):yz key i n=(List.range n).countP (fun (k:Nat)=>RLb key (k:Int) i):=by
 induction n with
 | zero=>rfl
 | succ n l=>rw [List.range_succ,List.countP_append,<-l,yz];simp [List.countP_cons]
theorem Ut (n j:Nat) (h:j<=n):(List.range n).countP (fun (k:Nat)=>decide (k<j))=j:=by
 induction n with
 | zero=>simp at h;subst h;rfl
 | succ n o=>
  rw [List.range_succ,List.countP_append];by_cases e:j=n+1
  subst e;have h1:(List.range n).countP (fun (k:Nat)=>decide (k<n+1))=(List.range n).countP (fun _=>true):=List.countP_congr (fun x l=>by simp at l;simp;omega);rw [h1];simp;rw [o om];simp [List.countP_cons];omega
theorem QQ: ∀(xs l:List Nat),xs.Nodup->xs ⊆ l->xs.length=l.length->xs.Perm l
 | [],l,_,_,hl=>by
  have:l=[]:=List.eq_nil_of_length_eq_zero (by simpa using hl.symm);subst this;exact List.Perm.refl _
 | x::xs,l,hd,hs,hl=>by
  have z:x ∈ l:=hs (List.mem_cons_self ..);have o: ¬x ∈ xs:=(List.nodup_cons.1 hd).1;have h1:xs ⊆ l.erase x:=fun a ha=>(List.mem_erase_of_ne (show a≠x from fun e=>by subst e;exact o ha)).2 (hs (List.mem_cons_of_mem _ ha));have h2:xs.length=(l.erase x).length:=by rw [List.length_erase_of_mem z];simp at hl;omega
  exact ((QQ xs (l.erase x) (List.nodup_cons.1 hd).2 h1 h2).cons x).trans (List.perm_cons_erase z).symm
theorem zBT {n:Nat} (z: ∀i,i<n->t i<n) (hi: ∀i j,i<n->j<n->t i=t j->i=j):((List.range n).map t).Perm (List.range n):=by
 have hd:((List.range n).map t).Nodup:=by
  rw [List.Nodup,List.pairwise_map]
  exact List.Pairwise.imp_of_mem (fun {a b} ha hb hab=>by
   simp at ha hb;intro e
   exact hab (hi a b ha hb e)) List.nodup_range
 have o:(List.range n).map t ⊆ List.range n:=by
  intro x l;simp at l⊢;obtain ⟨a,ha,rfl⟩:=l;exact z a ha
 exact QQ _ _ hd o sI
theorem zNt {n:Nat} (h:kv key f 0 n) (z:j<n):yz key (f j) n=j:=by
 have hv: ∀k,k<n->(0:Int)<=f k/\f k<n:=fun k hk=>by have:=h.2 k nZ hk;omega
 have l: ∀a b,a<n->b<n->(RL key (f a) (f b)↔a<b):=by
  intro a b ha hb;constructor;intro hr;by_cases c:a<b
  exact c;exfalso;by_cases e:a=b
  subst e;exact RL.irrefl hr;exact RL.irrefl (hr.trans (h.1 b a nZ om ha));intro c;exact h.1 a b nZ c hb
 have hp:=zBT (n:=n) (t:=fun k=>(f k).toNat) (fun i hi=>by have:=hv i hi;omega) (fun i k hi hk e=>by
  have h1:=hv i hi;have h2:=hv k hk;have o:f i=f k:=om;by_cases c:i=k
  exact c;exfalso;rcases Nat.lt_or_gt_of_ne c with d | d
  exact RL.irrefl (o ▸ (l i k hi hk).2 d)
  exact RL.irrefl (o ▸ (l k i hk hi).2 d))
 rw [zFT,<-hp.countP_eq,List.countP_map,<-Ut n j om];refine List.countP_congr (fun k hk=>?_);simp at hk;have h1:=hv k hk;simp only [Function.comp];rw [show (((f k).toNat:Nat):Int)=f k by omega,qt,decide_eq_true_eq,Ut n j om];exact l k j hk z
theorem zBP {n:Nat} (h:kv key f 0 n) (hi:i<n): ∃j,j<n/\f j=(i:Int):=by
 have hv: ∀k,k<n->(0:Int)<=f k/\f k<n:=fun k hk=>by have:=h.2 k nZ hk;omega
 have hp:=zBT (n:=n) (t:=fun k=>(f k).toNat) (fun i hi=>by have:=hv i hi;omega) (fun i k hi hk e=>by
  have h1:=hv i hi;have h2:=hv k hk;have l:f i=f k:=om;by_cases c:i=k
  exact c;exfalso;rcases Nat.lt_or_gt_of_ne c with d | d
  exact RL.irrefl (l ▸ h.1 i k nZ d hk)
  exact RL.irrefl (l ▸ h.1 k i nZ d hi))
 have hm:i ∈ (List.range n).map (fun k=>(f k).toNat):=hp.mem_iff.2 (by simpa using hi);simp at hm;obtain ⟨j,o,e⟩:=hm;have:=hv j o;exact ⟨j,o,om⟩
theorem zLi {g:Nat->Int} {n:Nat} (h:kv key f 0 n) (hg: ∀j,j<n->g (f j).toNat=(j:Int)): ∀i,i<n->g i=(yz key (i:Int) n:Int):=by
 intro i hi;obtain ⟨j,l,e⟩:=zBP h hi;have h1:=hg j l;have h2:=zNt h l;rw [e] at h1 h2;rw [h2,<-h1];congr 1
def uP (A B:Int):Bool:=decide (1<=A) && decide (A<=12) && decide (0<=B) && decide (B<=12)
def vO (A B:Int):Int:=A*A+B*B
def gI (A B:Int):Int:=(Nat.gcd A.toNat B.toNat:Nat)
def Vt (A B:Int):Int:=vO A B/gI A B
def kF (A B x y:Int):Prop:=vO A B ∣ x*A+y*B/\vO A B ∣ y*A - x*B
instance (A B x y:Int):Decidable (kF A B x y):=by unfold kF;infer_instance
structure Lat (A B n g w a b p q:Int):Prop where
 a1:1<=A
 a2:A<=12
 b1:0<=B
 b2:B<=12
 hn:vO A B=n
 hg:gI A B=g
 hw:Vt A B=w
 n1:1<=n
 n2:n<=288
 g1:1<=g
 g2:g<=12
 w1:1<=w
 w2:w<=288
 wg:w*g=n
 ha:A=g*a
 hb:B=g*b
 bz:A*p+B*q=g
theorem bez: ∀A:Fin 13,∀B:Fin 13,1<=A.val-> ∃p:Fin 25,∃q:Fin 25,(A.val:Int)*((p.val:Int) - 12)+(B.val:Int)*((q.val:Int) - 12)=((Nat.gcd A.val B.val:Nat):Int):=by decide+kernel
theorem Um (h1:0<=A) (h2:A<=12):0<=A*A/\A*A<=144:=⟨Int.mul_nonneg h1 h1,by have:=Yr h2 h2 h1 om;omega⟩
theorem zQa (h:uP A B=true): ∃n g w a b p q,Lat A B n g w a b p q:=by
 simp only [uP,Bool.and_eq_true,decide_eq_true_eq] at h;obtain ⟨⟨⟨a1,a2⟩,b1⟩,b2⟩:=h;obtain ⟨x,rfl⟩: ∃x:Nat,A=x:=⟨A.toNat,om⟩
 obtain ⟨y,rfl⟩: ∃y:Nat,B=y:=⟨B.toNat,om⟩
 obtain ⟨p,q,l⟩:=bez ⟨x,om⟩ ⟨y,om⟩ (by simp only;omega);simp only at l;have g1:=Nat.gcd_pos_of_pos_left y (show 0<x by omega);have g2:=Nat.gcd_le_left y (show 0<x by omega);obtain ⟨a,z⟩:=Nat.gcd_dvd_left x y;obtain ⟨b,C⟩:=Nat.gcd_dvd_right x y;obtain ⟨g,hg⟩: ∃g,Nat.gcd x y=g:=⟨_,rfl⟩
 rw [hg] at g1 g2 z C l
 have hn:vO (x:Int) (y:Int)=(g*(a*a+b*b):Nat)*(g:Int):=by
  unfold vO;rw [z,C];push_cast;simp only [Int.mul_add,Int.add_mul,Yq,Ys,Int.mul_left_comm]
 obtain ⟨G,H⟩:=Um (A:=(x:Int)) om a2;obtain ⟨I,J⟩:=Um (A:=(y:Int)) b1 b2;have L:(1:Int)<=(x:Int)*x:=by have:=Yr a1 a1 om om;omega
 have o:gI (x:Int) (y:Int)=(g:Int):=by unfold gI;simp [hg]
 have hw:Vt (x:Int) (y:Int)=((g*(a*a+b*b):Nat):Int):=by
  unfold Vt;rw [o,hn];exact Int.mul_ediv_cancel _ om
 have E:vO (x:Int) (y:Int)=(x:Int)*x+(y:Int)*y:=rfl;refine ⟨vO x y,g,Vt x y,a,b,(p.val:Int) - 12,(q.val:Int) - 12,⟨a1,a2,b1,b2,rfl,o,rfl,om,om,om,om,?_,?_,by rw [hw,hn],?_,?_,l⟩⟩;by_cases h:1<=Vt (x:Int) (y:Int)
 exact h;exfalso;have D:Vt (x:Int) (y:Int)=0:=by rw [hw] at h⊢;omega
 rw [hw] at D;rw [D] at hn;simp at hn;omega;have F:((g*(a*a+b*b):Nat):Int)*1<=((g*(a*a+b*b):Nat):Int)*(g:Int):=YA om om;rw [<-hn,<-hw] at F;omega;rw [z];push_cast;rfl;rw [C];push_cast;rfl
theorem Lat.area {p:Int} (L:Lat A B n g w a b p q):A*A+B*B=n:=L.hn
theorem Lat.has {p:Int} (L:Lat A B n g w a b p q):kF A B x y↔n ∣ x*A+y*B/\n ∣ y*A - x*B:=by unfold kF;rw [L.hn]
theorem Lat.has_add {p:Int} (L:Lat A B n g w a b p q) (h:kF A B x y) (l:kF A B x' y'):kF A B (x+x') (y+y'):=by
 refine ⟨?_,?_⟩;rw [show (x+x')*A+(y+y')*B=(x*A+y*B)+(x'*A+y'*B) by simp only [Int.add_mul];omega];exact Int.dvd_add h.1 l.1;rw [show (y+y')*A - (x+x')*B=(y*A - x*B)+(y'*A - x'*B) by simp only [Int.add_mul];omega];exact Int.dvd_add h.2 l.2
theorem Lat.has_neg {p:Int} (L:Lat A B n g w a b p q) (h:kF A B x y):kF A B (-x) (-y):=by
 refine ⟨?_,?_⟩;rw [show (-x)*A+(-y)*B=-(x*A+y*B) by simp only [Int.neg_mul];omega];exact Int.dvd_neg.2 h.1;rw [show (-y)*A - (-x)*B=-(y*A - x*B) by simp only [Int.neg_mul];omega];exact Int.dvd_neg.2 h.2
theorem Lat.has_sub {p:Int} (L:Lat A B n g w a b p q) (h:kF A B x y) (l:kF A B x' y'):kF A B (x - x') (y - y'):=by
 have:=L.has_add h (L.has_neg l);rwa [show x+-x'=x - x' by omega,show y+-y'=y - y' by omega] at this
theorem Lat.has_mul {p:Int} (L:Lat A B n g w a b p q) (h:kF A B x y) (t:Int):kF A B (t*x) (t*y):=by
 refine ⟨?_,?_⟩;rw [show (t*x)*A+(t*y)*B=t*(x*A+y*B) by rw [Int.mul_add,Yq,Yq]];exact Int.dvd_mul_of_dvd_right h.1;rw [show (t*y)*A - (t*x)*B=t*(y*A - x*B) by rw [Int.mul_sub,Yq,Yq]];exact Int.dvd_mul_of_dvd_right h.2
theorem Lat.has_ij {p:Int} (L:Lat A B n g w a b p q) (i j:Int):kF A B (i*A - j*B) (i*B+j*A):=by
 refine ⟨⟨i,?_⟩,⟨j,?_⟩⟩;unfold vO;simp only [Int.sub_mul,Int.add_mul,Yq];rw [show j*(B*A)=j*(A*B) by rw [Ys B A]];rw [show i*(A*A) - j*(A*B)+(i*(B*B)+j*(A*B))=i*(A*A)+i*(B*B) by omega,Ys i,Ys i,Yq,Yq];unfold vO;simp only [Int.sub_mul,Int.add_mul,Yq];rw [show i*(B*A)=i*(A*B) by rw [Ys B A]];rw [show i*(A*B)+j*(A*A) - (i*(A*B) - j*(B*B))=j*(A*A)+j*(B*B) by omega,Ys j,Ys j,Yq,Yq]
theorem Lat.has_row {p:Int} (L:Lat A B n g w a b p q):kF A B k 0↔w ∣ k:=by
 rw [L.has];simp only [Int.zero_mul,Int.add_zero,Int.zero_sub];have l:=L.g1;constructor;rintro ⟨h1,h2⟩;have h2:=Int.dvd_neg.1 h2
 have h3:n ∣ k*g:=by
  rw [<-L.bz,Int.mul_add,<-Yq,<-Yq];exact Int.dvd_add (Int.dvd_mul_of_dvd_left h1) (Int.dvd_mul_of_dvd_left h2)
 rw [<-L.wg] at h3;exact Int.dvd_of_mul_dvd_mul_right om h3;rintro ⟨c,rfl⟩;refine ⟨⟨c*a,?_⟩,Int.dvd_neg.2 ⟨c*b,?_⟩⟩;rw [<-L.wg]
 conv=>lhs;rw [L.ha]
 simp only [Yq,Int.mul_left_comm];rw [<-L.wg]
 conv=>lhs;rw [L.hb]
 simp only [Yq,Int.mul_left_comm]
theorem Lat.has_col {p:Int} (L:Lat A B n g w a b p q) (h:kF A B x y):g ∣ y:=by
 obtain ⟨⟨i,hi⟩,⟨j,o⟩⟩:=L.has.1 h;have hn:=L.area
 have h1:n*y=n*(i*B+j*A):=by
  have l:(x*A+y*B)*B+(y*A - x*B)*A=y*(A*A+B*B):=by
   simp only [Int.add_mul,Int.sub_mul,Int.mul_add,Yq];rw [show x*(B*A)=x*(A*B) by rw [Ys B A]];omega
  rw [hi,o,hn] at l;rw [Ys n y,<-l,Int.mul_add,Yq,Yq]
 have h2:y=i*B+j*A:=Int.eq_of_mul_eq_mul_left (og L.n1) h1;rw [h2];exact Int.dvd_add (Int.dvd_mul_of_dvd_right ⟨b,L.hb⟩) (Int.dvd_mul_of_dvd_right ⟨a,L.ha⟩)
def uZ (A B x y K:Int):Prop:=0<=K/\K<vO A B/\kF A B (x - K % Vt A B) (y - K/Vt A B)
theorem Lat.name_bd {p:Int} (L:Lat A B n g w a b p q) (l:0<=K) (h1:K<n):0<=K % w/\K % w<w/\0<=K/w/\K/w<g:=by
 have hw:=L.w1;refine ⟨Yg _ om,Ye _ om,Yw l om,?_⟩;apply Int.ediv_lt_of_lt_mul om;rw [Ys,L.wg];exact h1
theorem Lat.name_of {p:Int} (L:Lat A B n g w a b p q) (l:0<=u) (h1:u<w) (h2:0<=v) (h3:v<g):0<=v*w+u/\v*w+u<n/\(v*w+u) % w=u/\(v*w+u)/w=v:=by
 have hw:=L.w1;have z:0<=v*w:=Int.mul_nonneg h2 om;have o:(v+1)*w<=g*w:=Yo om om;rw [Ys g w,L.wg,Int.add_mul,Int.one_mul] at o;refine ⟨om,om,?_,?_⟩;rw [Int.add_comm,Int.add_mul_emod_self_right];exact Int.emod_eq_of_lt l h1;rw [Int.add_comm,Int.add_mul_ediv_right _ _ om,Int.ediv_eq_zero_of_lt l h1];omega
theorem Lat.rect {p:Int} (L:Lat A B n g w a b p q) (E:0<=u) (h1:u<w) (h2:0<=v) (h3:v<g) (F:0<=u') (k1:u'<w) (k2:0<=v') (k3:v'<g) (h:kF A B (u - u') (v - v')):u=u'/\v=v':=by
 obtain ⟨c,hc⟩:=L.has_col h
 have hv:v=v':=by
  have hg:=L.g1
  have l:c=0:=by
   have G:-g<g*c:=om;have H:g*c<g:=om;have z:g*c<g*1:=om;have i2:g*(-1)<g*c:=om;have C:=Int.lt_of_mul_lt_mul_left z om;have D:=Int.lt_of_mul_lt_mul_left i2 om;omega
  subst l;omega
 subst hv;rw [Int.sub_self] at h;obtain ⟨d,hd⟩:=L.has_row.1 h;have hw:=L.w1
 have o:d=0:=by
  have z:w*d<w*1:=om;have i2:w*(-1)<w*d:=om;have C:=Int.lt_of_mul_lt_mul_left z om;have D:=Int.lt_of_mul_lt_mul_left i2 om;omega
 subst o;exact ⟨om,rfl⟩
theorem Lat.isName {p:Int} (L:Lat A B n g w a b p q):uZ A B x y K↔0<=K/\K<n/\kF A B (x - K % w) (y - K/w):=by unfold uZ;rw [L.hn,L.hw]
theorem Lat.name_one {p:Int} (L:Lat A B n g w a b p q) (h:uZ A B x y K) (z:uZ A B x y K'):K=K':=by
 obtain ⟨C,h1,h2⟩:=L.isName.1 h;obtain ⟨D,k1,k2⟩:=L.isName.1 z;obtain ⟨a0,a1,a2,a3⟩:=L.name_bd C h1;obtain ⟨c0,c1,c2,c3⟩:=L.name_bd D k1;have h3:=L.has_sub k2 h2;rw [show x - K' % w - (x - K % w)=K % w - K' % w by omega,show y - K'/w - (y - K/w)=K/w - K'/w by omega] at h3;obtain ⟨l,o⟩:=L.rect a0 a1 a2 a3 c0 c1 c2 c3 h3;have d1:=Int.mul_ediv_add_emod K w;have d2:=Int.mul_ediv_add_emod K' w;rw [<-d1,<-d2,l,o]
theorem Lat.name_by {p:Int} (L:Lat A B n g w a b p q) (F:kF A B sx g):uZ A B x y (y % g*w+(x - (y - y % g)/g*sx) % w):=by
 have hg:=L.g1;have hw:=L.w1;have v0:=Yg y (show g≠0 by omega);have O:=Ye y (show 0<g by omega);obtain ⟨t,l⟩: ∃t,(y - y % g)/g=t:=⟨_,rfl⟩
 have o:y - y % g=t*g:=by
  have h:=Int.mul_ediv_add_emod y g;have:y - y % g=y/g*g:=by rw [Ys];omega
  rw [this,Int.mul_ediv_cancel _ om] at l;rw [this,l]
 rw [l];obtain ⟨X,E⟩: ∃X,x - t*sx=X:=⟨_,rfl⟩
 rw [E];have M:=Yg X (show w≠0 by omega);have N:=Ye X (show 0<w by omega);obtain ⟨G,H,I,J⟩:=L.name_of M N v0 O;rw [L.isName];refine ⟨G,H,?_⟩;rw [I,J,o];have z:=L.has_mul F t;have C:kF A B (X - X % w) 0:=L.has_row.2 ⟨X/w,by have:=Int.mul_ediv_add_emod X w;omega⟩;have D:=L.has_add z C;rwa [show t*sx+(X - X % w)=x - X % w by omega,Int.add_zero] at D
theorem Lat.has_step {p:Int} (L:Lat A B n g w a b p q):kF A B (q*A - p*B) g:=by
 have h:=L.has_ij q p;rwa [show q*B+p*A=g by rw [<-L.bz,Ys q B,Ys p A];omega] at h
theorem Lat.name_ex {p:Int} (L:Lat A B n g w a b p q) (x y:Int): ∃K,uZ A B x y K:=⟨_,L.name_by L.has_step⟩
def ke (A B x y:Int):Int:=(yL (x*A+y*B) (vO A B)*yL (x*A+y*B) (vO A B)+yL (y*A - x*B) (vO A B)*yL (y*A - x*B) (vO A B))/vO A B
theorem zGC (d e a:Int) (h:a ∣ d - e):yL d a=yL e a:=by
  unfold yL
  rw [Int.emod_emod_of_dvd_sub h]
where
  Int.emod_emod_of_dvd_sub {d e a : Int} (h : a ∣ d - e) : d % a = e % a := Int.emod_eq_emod_iff_emod_sub_eq_zero.2 (Int.emod_eq_zero_of_dvd h)
theorem Jn (hn:1<=n): ∃c,(c=X/n\/c=X/n+1)/\(yL X n=X - n*c\/yL X n=n*c - X):=by
 have h1:=Int.mul_ediv_add_emod X n;have h2:=Yg X (show n≠0 by omega);have h3:=Ye X (show 0<n by omega);unfold yL;by_cases h:X % n<=n - X % n
 exact ⟨X/n,Or.inl rfl,Or.inl om⟩;refine ⟨X/n+1,Or.inr rfl,Or.inr ?_⟩;rw [Int.mul_add,Int.mul_one];omega
theorem Xa (h:x=y\/x=-y):x*x=y*y:=by
 rcases h with rfl | rfl
 rfl;rw [Int.neg_mul_neg]
theorem zBg (hn:1<=n):yL X n*yL X n<=(X - n*c)*(X - n*c):=by
 have h1:=Int.mul_ediv_add_emod X n;have h2:=Yg X (show n≠0 by omega);have h3:=Ye X (show 0<n by omega);obtain ⟨l,g1⟩:=jT (d:=X) hn
 have key:yL X n<=X - n*c\/yL X n<=-(X - n*c):=by
  by_cases h:c<=X/n
  left;have:=YA h (show 0<=n by omega);unfold yL;omega;right;have:=YA (show X/n+1<=c by omega) (show 0<=n by omega);rw [Int.mul_add,Int.mul_one] at this;unfold yL;omega
 rcases key with k | k
 exact Yr k k l om;have:=Yr k k l om;rwa [Int.neg_mul_neg] at this
theorem zEj (A B x y c d:Int):(A*A+B*B)*((x - c*A+d*B)*(x - c*A+d*B)+(y - c*B - d*A)*(y - c*B - d*A))=(x*A+y*B - (A*A+B*B)*c)*(x*A+y*B - (A*A+B*B)*c)+(y*A - x*B - (A*A+B*B)*d)*(y*A - x*B - (A*A+B*B)*d):=by
 obtain ⟨P,l⟩: ∃P,x - c*A+d*B=P:=⟨_,rfl⟩
 obtain ⟨Q,o⟩: ∃Q,y - c*B - d*A=Q:=⟨_,rfl⟩
 have z:x*A+y*B - (A*A+B*B)*c=P*A+Q*B:=by
  rw [<-l,<-o];simp only [Int.add_mul,Int.sub_mul,Yq];rw [show d*(B*A)=d*(A*B) by rw [Ys B A],show A*(A*c)=c*(A*A) by rw [<-Yq,Ys],show B*(B*c)=c*(B*B) by rw [<-Yq,Ys]];omega
 have C:y*A - x*B - (A*A+B*B)*d=Q*A - P*B:=by
  rw [<-l,<-o];simp only [Int.add_mul,Int.sub_mul,Yq];rw [show c*(B*A)=c*(A*B) by rw [Ys B A],show A*(A*d)=d*(A*A) by rw [<-Yq,Ys],show B*(B*d)=d*(B*B) by rw [<-Yq,Ys]];omega
 rw [l,o,z,C]
 have m: ∀u v s t:Int,(u*s+v*t)*(u*s+v*t)+(v*s - u*t)*(v*s - u*t)=(s*s+t*t)*(u*u+v*v):=by
  intro u v s t;simp only [Int.add_mul,Int.sub_mul,Int.mul_add,Int.mul_sub]
  rw [show u*s*(u*s)=s*s*(u*u) by simp only [Yq,Int.mul_left_comm,Ys],
   show v*t*(v*t)=t*t*(v*v) by simp only [Yq,Int.mul_left_comm,Ys],
   show v*s*(v*s)=s*s*(v*v) by simp only [Yq,Int.mul_left_comm,Ys],
   show u*t*(u*t)=t*t*(u*u) by simp only [Yq,Int.mul_left_comm,Ys],
   show u*s*(v*t)=v*s*(u*t) by simp only [Yq,Int.mul_left_comm,Ys],
   show v*t*(u*s)=u*t*(v*s) by simp only [Yq,Int.mul_left_comm,Ys],
   show u*t*(v*s)=v*s*(u*t) by simp only [Yq,Int.mul_left_comm,Ys]]
  omega
 exact (m P Q A B).symm
theorem Lat.near_n {p:Int} (L:Lat A B n g w a b p q) (x y:Int):n*ke A B x y=yL (x*A+y*B) n*yL (x*A+y*B) n+yL (y*A - x*B) n*yL (y*A - x*B) n:=by
 obtain ⟨c,_,hc⟩:=Jn (X:=x*A+y*B) L.n1;obtain ⟨d,_,hd⟩:=Jn (X:=y*A - x*B) L.n1;have h:=zEj A B x y c d;rw [L.area] at h;unfold ke;rw [L.hn,Xa (x:=yL (x*A+y*B) n) (y:=x*A+y*B - n*c) om,Xa (x:=yL (y*A - x*B) n) (y:=y*A - x*B - n*d) om,<-h,Int.mul_ediv_cancel_left _ (og L.n1)]
theorem Lat.near_nn {p:Int} (L:Lat A B n g w a b p q) (x y:Int):0<=ke A B x y:=by
 have h:=L.near_n x y;have h1:=Xb (jT (d:=x*A+y*B) L.n1).1;have h2:=Xb (jT (d:=y*A - x*B) L.n1).1;have hn:=L.n1;by_cases h3:0<=ke A B x y
 exact h3;exfalso;have:n*ke A B x y<=n*(-1):=YA om om;omega
theorem Lat.near_shift {p:Int} (L:Lat A B n g w a b p q) (hd:kF A B dx dy):ke A B (x+dx) (y+dy)=ke A B x y:=by
 obtain ⟨h1,h2⟩:=L.has.1 hd;unfold ke
 rw [L.hn,zGC ((x+dx)*A+(y+dy)*B) (x*A+y*B) n (by rw [show (x+dx)*A+(y+dy)*B - (x*A+y*B)=dx*A+dy*B by simp only [Int.add_mul];omega];exact h1),
  zGC ((y+dy)*A - (x+dx)*B) (y*A - x*B) n (by rw [show (y+dy)*A - (x+dx)*B - (y*A - x*B)=dy*A - dx*B by simp only [Int.add_mul];omega];exact h2)]
theorem Lat.near_mod {p:Int} (L:Lat A B n g w a b p q) (x y:Int):ke A B (x % n) (y % n)=ke A B x y:=by
 have hn:=L.n1;have d1:=Int.mul_ediv_add_emod x n;have d2:=Int.mul_ediv_add_emod y n
 have hd:kF A B (x - x % n) (y - y % n):=by
  rw [L.has];rw [show x - x % n=n*(x/n) by omega,show y - y % n=n*(y/n) by omega];refine ⟨?_,?_⟩;rw [Yq,Yq,<-Int.mul_add];exact Int.dvd_mul_right _ _;rw [Yq,Yq,<-Int.mul_sub];exact Int.dvd_mul_right _ _
 have:=L.near_shift (x:=x % n) (y:=y % n) hd;rw [show x % n+(x - x % n)=x by omega,show y % n+(y - y % n)=y by omega] at this;exact this.symm
theorem Lat.near_le {p:Int} (L:Lat A B n g w a b p q) (x y c d:Int):ke A B x y<=(x - c*A+d*B)*(x - c*A+d*B)+(y - c*B - d*A)*(y - c*B - d*A):=by
 have hn:=L.n1;have h:=zEj A B x y c d;rw [L.area] at h;have h1:=L.near_n x y;have h2:=zBg (X:=x*A+y*B) (c:=c) hn;have h3:=zBg (X:=y*A - x*B) (c:=d) hn;have h4:n*ke A B x y<=n*((x - c*A+d*B)*(x - c*A+d*B)+(y - c*B - d*A)*(y - c*B - d*A)):=om;exact Int.le_of_mul_le_mul_left h4 om
theorem Lat.near_at {p:Int} (L:Lat A B n g w a b p q) (x y:Int): ∃c d,(c=(x*A+y*B)/n\/c=(x*A+y*B)/n+1)/\(d=(y*A - x*B)/n\/d=(y*A - x*B)/n+1)/\ke A B x y=(x - c*A+d*B)*(x - c*A+d*B)+(y - c*B - d*A)*(y - c*B - d*A):=by
 have hn:=L.n1;obtain ⟨c,hc,l⟩:=Jn (X:=x*A+y*B) hn;obtain ⟨d,hd,o⟩:=Jn (X:=y*A - x*B) hn;refine ⟨c,d,hc,hd,?_⟩;have h:=zEj A B x y c d;rw [L.area] at h;have h1:=L.near_n x y;rw [Xa (x:=yL (x*A+y*B) n) (y:=x*A+y*B - n*c) om,Xa (x:=yL (y*A - x*B) n) (y:=y*A - x*B - n*d) om,<-h] at h1;exact Int.eq_of_mul_eq_mul_left om h1
end
end Go.Proofs.YtlenfgdjdianiaaGreatDoor
