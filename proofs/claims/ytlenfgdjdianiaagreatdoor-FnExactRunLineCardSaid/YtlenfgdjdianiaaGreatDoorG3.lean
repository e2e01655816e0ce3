/- Facts on which this claim rests, 3. -/
import Derived.BigQuiet
import Derived.Test.YtlenfgdjdianiaaGreatDoorG2
set_option linter.all false
set_option maxHeartbeats 6400000
namespace Go.Proofs.YtlenfgdjdianiaaGreatDoor
section
variable {H W dx dy v : Int} {b : Nat → Int} {f g : Nat → Nat} {k m n : Nat} {xs : List Int}
open Tq Go.Proofs.Tryz
def xO (W H:Int):Bool:=decide (1<=W/\W<=256/\1<=H/\H<=256/\W*H<=256)
def inR (xs:List Int) (n:Nat):Bool:=xs.all (fun v=>decide (0<=v/\v<(n:Int)))
def wD (xs:List Int):Bool:=inR xs xs.length && decide xs.Nodup
def yD (W H:Int) (xs:List Int):Bool:=xO W H && (decide ((xs.length:Int)=W*H) && wD xs)
theorem LG (W H:Int) (h1:1<=W) (h2:W<=256) (h3:1<=H) (h4:H<=256):1<=W*H/\W*H<=65536:=by
 constructor;have:=Yr h1 h3 om om;omega;have:=Yr h2 h4 om om;omega
theorem Gl (h1:1<=W) (h2:W<=256) (h3:1<=H) (h4:H<=256):xO W H=decide (W*H<=256):=by unfold xO;simp [h1,h2,h3,h4]
theorem Dp (c: ¬(1<=W/\W<=256/\1<=H/\H<=256)):xO W H=false:=by
 unfold xO;rw [decide_eq_false_iff_not];exact fun h=>c ⟨h.1,h.2.1,h.2.2.1,h.2.2.2.1⟩
theorem kI (h:xO W H=true):1<=W/\W<=256/\1<=H/\H<=256/\W*H<=256/\1<=W*H:=by
 unfold xO at h;have h:=of_decide_eq_true h;exact ⟨h.1,h.2.1,h.2.2.1,h.2.2.2.1,h.2.2.2.2,(LG W H h.1 h.2.1 h.2.2.1 h.2.2.2.1).1⟩
theorem QZ (h1:1<=W) (h3:1<=H) (l:W*H<=256):xO W H=true:=by
 have i:W*1<=W*H:=YA h3 om;have j:1*H<=W*H:=Yo h1 om;unfold xO;rw [decide_eq_true_iff];omega
theorem Oz (h:inR xs n=true) (k:Nat) (hk:k<xs.length):0<=xs[k]?.getD 0/\xs[k]?.getD 0<(n:Int):=by
 unfold inR at h;have:=List.all_eq_true.1 h xs[k] (List.getElem_mem hk);simpa [Ya hk] using this
theorem zDA (k:Nat) (hk:k<xs.length) (h: ¬(0<=xs[k]?.getD 0/\xs[k]?.getD 0<(n:Int))):inR xs n=false:=by
 unfold inR;rw [List.all_eq_false];refine ⟨xs[k],List.getElem_mem hk,?_⟩;simpa [Ya hk] using h
theorem iT (h: ∀k,k<xs.length->0<=xs[k]?.getD 0/\xs[k]?.getD 0<(n:Int)):inR xs n=true:=by
 unfold inR;rw [Yp];intro v hv;obtain ⟨k,hk,rfl⟩:=List.getElem_of_mem hv;have:=h k hk;simpa [Ya hk] using this
theorem PE (hk:k<xs.length) (h:inR (xs.take k) n=true) (i:0<=xs[k]?.getD 0) (h1:xs[k]?.getD 0<(n:Int)):inR (xs.take (k+1)) n=true:=by
 unfold inR at h⊢;rw [Ym hk,List.all_append,h];simp only [Ya hk,Yz] at i h1;simp [i,h1]
theorem Gy (hn:xs.length=n) (k:Nat) (hk:k<n) (h: ¬(0<=xs[k]?.getD 0/\xs[k]?.getD 0<(n:Int))):wD xs=false:=by
 unfold wD;rw [zDA k om (by rw [hn];exact h)];rfl
theorem mQ (h:wD xs=true):inR xs xs.length=true/\xs.Nodup:=by
 unfold wD at h;simpa using h
theorem Ba (hn:xs.length=n) (h:inR xs n=true) (h2:xs.Nodup):wD xs=true:=by
 unfold wD;rw [hn,h];simpa using h2
theorem Gx (h: ¬xs.Nodup):wD xs=false:=by
 unfold wD;simp [h]
theorem Ni (hk:k<xs.length) (h:xs[k]?.getD 0 ∈ xs.take k): ¬xs.Nodup:=by
 intro hd;have h2:(xs.take (k+1)).Nodup:=hd.sublist (List.take_sublist _ _);rw [Ym hk,List.nodup_append] at h2;simp only [Ya hk,Yz] at h;exact h2.2.2 _ h _ sI rfl
theorem Gp (hk:k<xs.length) (hd:(xs.take k).Nodup) (h: ¬xs[k]?.getD 0 ∈ xs.take k):(xs.take (k+1)).Nodup:=by
 rw [Ym hk,List.nodup_append];simp only [Ya hk,Yz] at h;refine ⟨hd,sI,?_⟩;intro a ha b hb;simp at hb;subst hb;intro e;subst e;exact h ha
theorem MZ (h:xO W H=false):yD W H xs=false:=by unfold yD;simp [h]
theorem Ma (hn:xs.length=n) (h: ¬(n:Int)=W*H):yD W H xs=false:=by unfold yD;rw [hn];simp [h]
theorem Ep (hn:xs.length=n) (h1:xO W H=true) (h:(n:Int)=W*H):yD W H xs=wD xs:=by unfold yD;rw [hn];simp [h,h1]
theorem jh (hn:xs.length=n) (h:yD W H xs=true):xO W H=true/\(n:Int)=W*H/\inR xs n=true/\xs.Nodup:=by
 unfold yD at h;simp only [Bool.and_eq_true,decide_eq_true_eq] at h;obtain ⟨h1,h2,h3⟩:=h;obtain ⟨h4,i⟩:=mQ h3;exact ⟨h1,by rw [<-hn];exact h2,by rw [<-hn];exact h4,i⟩
theorem Er (hn:xs.length=n) (h1:xO W H=true) (h2:(n:Int)=W*H) (h3:inR xs n=true) (h4:xs.Nodup):yD W H xs=true:=by
 rw [Ep hn h1 h2];exact Ba hn h3 h4
theorem vM (v x:Int) (xs:List Int):zZ v (x::xs)=(if x=v then 1 else 0)+zZ v xs:=by
 unfold zZ;by_cases h:x=v
 subst h;simp;omega;simp [h]
theorem au (h:v ∈ xs):1<=zZ v xs:=by
 unfold zZ;exact List.length_pos_of_mem (List.mem_filter.2 ⟨h,sI⟩)
theorem Gn (h: ∀v,zZ v xs<=1):xs.Nodup:=by
 induction xs with
 | nil=>exact List.nodup_nil
 | cons x xs i=>
  rw [List.nodup_cons];refine ⟨fun hm=>?_,i (fun v=>?_)⟩;have h1:=h x;rw [vM,if_pos rfl] at h1;have:=au hm;omega;have h1:=h v;rw [vM] at h1;omega
theorem Om (h:xs.Nodup) (v:Int):zZ v xs<=1:=by
 induction xs with
 | nil=>simp [zZ]
 | cons x xs l=>
  rw [List.nodup_cons] at h;rw [vM];by_cases e:x=v
  subst e
  have j:zZ x xs=0:=by
   unfold zZ;rw [List.length_eq_zero_iff,List.filter_eq_nil_iff];intro a ha i;simp at i;subst i;exact h.1 ha
  rw [if_pos rfl,j];omega;rw [if_neg e];have:=l h.2;omega
def qJ (f:Nat->Nat):Nat->Nat
 | 0=>0
 | n+1=>qJ f n+f n
theorem Tk (h: ∀r,r<n->f r=g r):qJ f n=qJ g n:=by
 induction n with
 | zero=>rfl
 | succ n i=>simp only [qJ];rw [i (fun r hr=>h r om),h n om]
theorem oF (f g:Nat->Nat) (n:Nat):qJ (fun r=>f r+g r) n=qJ f n+qJ g n:=by
 induction n with
 | zero=>rfl
 | succ n i=>simp only [qJ];rw [i];omega
theorem oG (x:Nat) (n:Nat):qJ (fun r=>if x=r then 1 else 0) n=if x<n then 1 else 0:=by
 induction n with
 | zero=>rfl
 | succ n i=>
  simp only [qJ];rw [i];by_cases h1:x<n
  rw [if_pos h1,if_neg om,if_pos om];by_cases h2:x=n
  rw [if_neg h1,if_pos h2,if_pos om];rw [if_neg h1,if_neg h2,if_neg om]
theorem zAs (h: ∀r,r<n->f r<=1):qJ f n<=n:=by
 induction n with
 | zero=>exact Nat.le_refl 0
 | succ n i=>
  simp only [qJ];have:=i (fun r hr=>h r om);have:=h n om;omega
theorem dV (h: ∀r,r<n->f r<=1) (i:qJ f n=n): ∀r,r<n->f r=1:=by
 induction n with
 | zero=>intro r hr;omega
 | succ n j=>
  simp only [qJ] at i;have h1:=zAs (f:=f) (n:=n) (fun r hr=>h r om);have h2:=h n om;intro r hr;by_cases e:r=n
  subst e;omega;exact j (fun r hr=>h r om) om r om
def below (n:Int) (xs:List Int):Nat:=(xs.filter (fun v=>decide (v<n))).length
theorem dX (h: ∀v,v ∈ xs->0<=v) (n:Nat):qJ (fun r=>zZ (r:Int) xs) n=below n xs:=by
 induction xs with
 | nil=>
  have: ∀n,qJ (fun _=>0) n=0:=by intro n;induction n with | zero=>rfl | succ n i=>simp only [qJ];omega
  simpa [zZ,below] using this n
 | cons x xs i=>
  have l:=h x sI
  have j:qJ (fun r=>zZ (r:Int) (x::xs)) n=qJ (fun r=>(if x.toNat=r then 1 else 0)+zZ (r:Int) xs) n:=by
   refine Tk (fun r hr=>?_);rw [vM];by_cases e:x=r
   rw [if_pos e,if_pos om];rw [if_neg e,if_neg om]
  rw [j,oF,oG,i (fun v hv=>h v (by simp [hv]))];unfold below;by_cases e:x<n
  rw [if_pos om];simp [e];omega;rw [if_neg om];simp [e]
theorem fT (h:inR xs n=true):below n xs=xs.length:=by
 unfold below;unfold inR at h;rw [List.filter_eq_self.2];intro a ha;have:=List.all_eq_true.1 h a ha;simp at this⊢;exact this.2
theorem Iz (h:inR xs n=true) (hv:v ∈ xs):0<=v/\v<(n:Int):=by
 unfold inR at h;have:=List.all_eq_true.1 h v hv;simpa using this
theorem TB (hn:xs.length=n) (h:inR xs n=true) (hd:xs.Nodup): ∀r,r<n->zZ (r:Int) xs=1:=by
 refine dV (fun r _=>Om hd _) ?_;rw [dX (fun v hv=>(Iz h hv).1) n,fT h,hn]
theorem GU (h:inR xs n=true) (v:Int) (hv: ¬(0<=v/\v<n)):zZ v xs=0:=by
 unfold zZ;rw [List.length_eq_zero_iff,List.filter_eq_nil_iff];intro a ha i;simp at i;subst i;exact hv (Iz h ha)
def Zz (xs:List Int) (k:Nat):List Int:=gen 256 (fun r=>(zZ (r:Int) (xs.take k):Int))
def qm (k:Nat):List Int:=gen 256 (fun i=>if i<k then 1 else 0)
theorem Ui (n:Nat) (f g:Nat->Int) (r:Nat) (v:Int) (hr:r<n) (hv:g r=v) (h: ∀i,i<n->i≠r->g i=f i):(gen n f).set r v=gen n g:=by
 refine jP n g _ (by simp [zk]) (fun k hk=>?_);rw [vS _ _ _ _ (by rw [zk];exact hr)];by_cases e:r=k
 subst e;rw [if_pos rfl,hv];rw [if_neg e,yY _ _ _ hk,h k hk om]
theorem MI {f g:Nat->Int} (h: ∀i,i<n->f i=g i):gen n f=gen n g:=by
 refine jP n g _ (by simp [zk]) (fun k hk=>?_);rw [yY _ _ _ hk,h k hk]
theorem SI (xs:List Int):Zz xs 0=List.replicate 256 0:=by
 unfold Zz;refine (jP 256 _ _ List.length_replicate (fun k hk=>?_)).symm;simp only [List.getD,List.getElem?_replicate,if_pos hk,Yz,List.take_zero];rfl
theorem Pj:qm 0=List.replicate 256 0:=by
 unfold qm;refine (jP 256 _ _ List.length_replicate (fun k hk=>?_)).symm;simp only [List.getD,List.getElem?_replicate,if_pos hk,Yz];rfl
theorem Lr (xs:List Int) (k r:Nat) (hr:r<256):(Zz xs k)[r]?.getD 0=(zZ (r:Int) (xs.take k):Int):=yY 256 _ r hr
theorem SH (xs:List Int) (k r:Nat) (hk:k<xs.length) (hr:r<256) (he:xs[k]?.getD 0=(r:Int)):(Zz xs k).set r ((zZ (r:Int) (xs.take k):Int)+1)=Zz xs (k+1):=by
 refine Ui 256 _ _ r _ hr ?_ (fun i hi j=>?_);rw [GY _ _ _ hk he];omega;rw [MP _ _ _ hk (by rw [he];omega)]
theorem Ph (k:Nat) (hk:k<256):(qm k).set k 1=qm (k+1):=by
 refine Ui 256 _ _ k _ hk ?_ (fun i hi j=>?_);rw [if_pos om];by_cases h:i<k
 rw [if_pos h,if_pos om];rw [if_neg h,if_neg om]
theorem zCT (hn:xs.length=n) (hm:n<=256) (h:inR xs n=true):decide (Zz xs n=qm n)=wD xs:=by
 have l:xs.take n=xs:=Yk om;by_cases hd:xs.Nodup
 rw [Ba hn h hd,decide_eq_true_iff];refine MI (fun r hr=>?_);rw [l];by_cases i:r<n
 rw [TB hn h hd r i,if_pos i];rfl;rw [GU h _ om,if_neg i];rfl;rw [Gx hd,decide_eq_false_iff_not];intro he;apply hd;apply Gn;intro v;by_cases hv:0<=v/\v<(n:Int)
 obtain ⟨r,rfl⟩: ∃r:Nat,v=r:=⟨v.toNat,om⟩
 have j:=Lr xs n r om;rw [he,l] at j;have q:(qm n)[r]?.getD 0=if r<n then 1 else 0:=yY 256 _ r om
 rw [q,if_pos om] at j;omega;rw [GU h v hv];omega
structure Mat where
 W:Int
 H:Int
 ranks:List Int
def qh:Mat:=⟨0,0,[]⟩
def vV (W H:Int) (xs:List Int) (x y:Int):Int:=xs.getD (y % H*W+x % W).toNat 0
def YQ (a b:Int):Int:=if a=0 then (if b=0 then 0 else 3) else (if b=0 then 2 else 1)
def ug (W H:Int) (xs:List Int) (i:Nat):Int:=4*vV W H xs ((i:Int) % (2*W)) ((i:Int)/(2*W))+YQ ((i:Int) % (2*W)/W) ((i:Int)/(2*W)/H)
def EP (m:Mat):Mat:=⟨2*m.W,2*m.H,gen (4*m.ranks.length) (ug m.W m.H m.ranks)⟩
def jK:Nat->Mat
 | 0=>⟨1,1,[0]⟩
 | k+1=>EP (jK k)
def kK (k:Int):Mat × Bool:=if 0<=k/\k<=4 then (jK k.toNat,true) else (qh,false)
def Za (W H:Int) (xs:List Int):Mat:=if yD W H xs=true then ⟨W,H,xs.map (fun v=>(xs.length:Int) - 1 - v)⟩ else qh
def vP (W H:Int) (xs:List Int) (dx dy:Int) (i:Nat):Int:=vV W H xs ((i:Int) % W - dx) ((i:Int)/W - dy)
def jF (W H:Int) (xs:List Int) (dx dy:Int):Mat:=if yD W H xs=true/\-1000<=dx/\dx<=1000/\-1000<=dy/\dy<=1000 then ⟨W,H,gen xs.length (vP W H xs dx dy)⟩ else qh
def YW (level v:Int):Int:=if v<level then 1 else 0
theorem JO (a:Int) {n:Int} (h:1<=n):0<=a % n/\a % n<n:=⟨Yg _ om,Ye _ om⟩
theorem KY (hn:(n:Int)=W*H) (j:1<=W) (i:1<=H) (x y:Int):0<=y % H*W/\0<=y % H*W+x % W/\y % H*W+x % W<(n:Int)/\(y % H*W+x % W).toNat<n:=by
 obtain ⟨l,q⟩:=JO x j;obtain ⟨s,t⟩:=JO y i;obtain ⟨u,z⟩:=wF l q s t;omega
theorem Bg (hl:xs.length=n) (hn:(n:Int)=W*H) (j:1<=W) (i:1<=H) (h:inR xs m=true) (x y:Int):0<=vV W H xs x y/\vV W H xs x y<(m:Int):=by
 unfold vV;obtain ⟨_,_,_,h3⟩:=KY hn j i x y;have:=Oz h (y % H*W+x % W).toNat om;simpa [List.getD] using this
theorem Wy (h: ¬yD W H xs=true):Za W H xs=qh:=by unfold Za;rw [if_neg h]
theorem FH (hn:xs.length=n) (h:yD W H xs=true):Za W H xs=⟨W,H,xs.map (fun v=>(n:Int) - 1 - v)⟩:=by unfold Za;rw [if_pos h,hn]
theorem Xd (h: ¬(yD W H xs=true/\-1000<=dx/\dx<=1000/\-1000<=dy/\dy<=1000)):jF W H xs dx dy=qh:=by unfold jF;rw [if_neg h]
theorem Hu (hn:xs.length=n) (h:yD W H xs=true) (h1:-1000<=dx) (h2:dx<=1000) (h3:-1000<=dy) (h4:dy<=1000):jF W H xs dx dy=⟨W,H,gen n (vP W H xs dx dy)⟩:=by
 unfold jF;rw [if_pos ⟨h,h1,h2,h3,h4⟩,hn]
theorem cZ (a b:Int):0<=YQ a b/\YQ a b<=3:=by
 unfold YQ;split <;>split <;>omega
theorem zBz {f:Nat->Int} (h: ∀i,i<n->0<=f i/\f i<(m:Int)):inR (gen n f) m=true:=by
 refine iT (fun k hk=>?_);rw [zk] at hk;have e:(gen n f)[k]?.getD 0=f k:=yY n f k hk;rw [e];exact h k hk
def VE (w:World) (R:Mat) (e:Ending) (w':World):Prop:=
 ∃a n c,e= .returned (.agg #[R.W,R.H, .slice a n c])/\OwnA w' w a n c R.ranks/\n<=1048576/\Go.RowKit.Below w w w'
def jq (w:World) (R:Mat × Bool) (e:Ending) (w':World):Prop:=
 ∃a n c,e= .returned (.tuple #[.agg #[R.1.W,R.1.H, .slice a n c], .bool R.2])/\OwnA w' w a n c R.1.ranks/\n<=1048576/\Go.RowKit.Below w w w'
def xG (L:List Pic):Bool:=decide (1<=L.length/\L.length<=4) && L.all (fun p=>zT p.W p.H p.ink 1 && decide (p.W=(L.getD 0 xF).W/\p.H=(L.getD 0 xF).H))
theorem Vi {L:List Pic} (h:xG L=true):1<=L.length/\L.length<=4/\ ∀k,k<L.length->zT (L.getD k xF).W (L.getD k xF).H (L.getD k xF).ink 1=true/\(L.getD k xF).W=(L.getD 0 xF).W/\(L.getD k xF).H=(L.getD 0 xF).H:=by
 unfold xG at h;simp only [Bool.and_eq_true,decide_eq_true_eq,Yp] at h;refine ⟨h.1.1,h.1.2,fun k hk=>?_⟩;have hm:L.getD k xF ∈ L:=by simp [List.getD,Ya hk]
 exact h.2 _ hm
theorem zAr {L:List Pic} (h1:1<=L.length) (h2:L.length<=4) (h: ∀k,k<L.length->zT (L.getD k xF).W (L.getD k xF).H (L.getD k xF).ink 1=true/\(L.getD k xF).W=(L.getD 0 xF).W/\(L.getD k xF).H=(L.getD 0 xF).H):xG L=true:=by
 unfold xG;simp only [Bool.and_eq_true,decide_eq_true_eq,Yp];refine ⟨⟨h1,h2⟩,fun p hp=>?_⟩;obtain ⟨k,hk,rfl⟩:=List.mem_iff_getElem.1 hp;have:=h k hk;simp only [List.getD,Ya hk,Yz] at this⊢;exact this
def vL (b:Nat->Int):Nat->Int
 | 0=>0
 | k+1=>vL b k+b k*2^k
theorem zAP (k:Nat):1<=(2:Int)^k:=by
 induction k with
 | zero=>simp
 | succ k i=>rw [Int.pow_succ];omega
theorem gB (h: ∀k,k<m->b k=0\/b k=1):0<=vL b m/\vL b m<2^m:=by
 induction m with
 | zero=>simp [vL]
 | succ m i=>
  have a:=i (fun k hk=>h k om);have p:=zAP m;unfold vL;rw [Int.pow_succ];rcases h m om with e | e <;>rw [e] <;>omega
def vZ (L:List Pic) (i:Nat):Int:=vL (fun k=>(L.getD k xF).ink.getD i 0) L.length
def Xk (f:Nat->Int) (r:Int):Nat->Int
 | 0=>0
 | n+1=>Xk f r n+(if f n=r then 1 else 0)
theorem Ia (f:Nat->Int) (r:Int) (n:Nat):0<=Xk f r n/\Xk f r n<=n:=by
 induction n with
 | zero=>simp [Xk]
 | succ n i=>unfold Xk;split <;>omega
def xw (L:List Pic):List Int:=if xG L=true then gen (2^L.length) (fun r=>Xk (vZ L) r (L.getD 0 xF).ink.length) else []
end
section
open Go.RowKit Tq Go.Proofs.Tryz
variable {B T cap g n : Nat} {Q : Exit → Act → World → Prop} {a b c e f h : Value} {ad : Option Addr} {cs : Array Value} {o : Oper} {ops : Array Oper} {w w' : World} {xs : List Int}
theorem Blk.c7 {d:Value} (k:Blk w g T #[a,b,c,d,e,f,h]):g<w.heap.size/\JB w g a b c (Jc w (g,3) d/\Jc w (g,4) e/\Jc w (g,5) f/\Jc w (g,6) h):=
 ⟨k.lt,by rw [k.cell];rfl,by rw [k.cell];rfl,by rw [k.cell];rfl,by rw [k.cell];rfl,by rw [k.cell];rfl,by rw [k.cell];rfl,by rw [k.cell];rfl⟩
theorem Blk.f7 (h:Blk w g T cs):w.frozen? g=false/\w.frozen? (g,1)=false/\w.frozen? (g,2)=false/\w.frozen? (g,3)=false/\w.frozen? (g,4)=false/\w.frozen? (g,5)=false/\w.frozen? (g,6)=false:=
 ⟨h.frozen 0,h.frozen 1,h.frozen 2,h.frozen 3,h.frozen 4,h.frozen 5,h.frozen 6⟩
section
variable {w : World} {g T : Nat} {a b c d e f h : Value}
theorem Blk.putP (k:Blk w g T #[a,b,c,d,e,f,h]) (x y z:Value):Blk (((w.setCell g x).setCell (g,1) y).setCell (g,2) z) g T #[x,y,z,d,e,f,h]:=by
 have:=((k.set 0 x).set 1 y).set 2 z;simpa using this
theorem Blk.putM (k:Blk w g T #[a,b,c,d,e,f,h]) (x y z:Value):Blk (((w.setCell (g,3) x).setCell (g,4) y).setCell (g,5) z) g T #[a,b,c,x,y,z,h]:=by
 have:=((k.set 3 x).set 4 y).set 5 z;simpa using this
theorem Blk.putR (k:Blk w g T #[a,b,c,d,e,f,h]) (z:Value):Blk (w.setCell (g,5) z) g T #[a,b,c,d,e,z,h]:=by
 have:=k.set 5 z;simpa using this
theorem Blk.putS (k:Blk w g T #[a,b,c,d,e,f,h]) (z:Value):Blk (w.setCell (g,6) z) g T #[a,b,c,d,e,f,z]:=by
 have:=k.set 6 z;simpa using this
theorem Blk.put7 (k:Blk w g T #[a,b,c,d,e,f,h]) (i j l q s t u:Value):Blk (((((((w.setCell g i).setCell (g,1) j).setCell (g,2) l).setCell (g,3) q).setCell (g,4) s).setCell (g,5) t).setCell (g,6) u) g T #[i,j,l,q,s,t,u]:=by
 have:=((((((k.set 0 i).set 1 j).set 2 l).set 3 q).set 4 s).set 5 t).set 6 u;simpa using this
end
structure Dsk where
 P:PV
 M:PV
 a:Option Addr
 n:Nat
 c:Nat
 ps:List PV
def JC (v:World) (a:Nat) (D:Dsk):Tq:=Tq.Z0
def JD (v:World) (a:Nat) (D:Dsk) (r:Prop):Tq:=Tq.Z0
instance (v:World) (a:Nat) (D:Dsk):CoeDep Tq (JC v a D) Prop:=⟨v.cell? ⟨a,0,none⟩=some (.int .i64 D.P.W)/\v.cell? ⟨a,1,none⟩=some (.int .i64 D.P.H)/\v.cell? ⟨a,2,none⟩=some (.slice D.P.a D.P.n D.P.c)/\v.cell? ⟨a,3,none⟩=some (.int .i64 D.M.W)/\v.cell? ⟨a,4,none⟩=some (.int .i64 D.M.H)/\v.cell? ⟨a,5,none⟩=some (.slice D.M.a D.M.n D.M.c)/\v.cell? ⟨a,6,none⟩=some (.slice D.a D.n D.c)⟩
instance (v:World) (a:Nat) (D:Dsk) (r:Prop):CoeDep Tq (JD v a D r) Prop:=⟨v.cell? ⟨a,0,none⟩=some (.int .i64 D.P.W)/\v.cell? ⟨a,1,none⟩=some (.int .i64 D.P.H)/\v.cell? ⟨a,2,none⟩=some (.slice D.P.a D.P.n D.P.c)/\v.cell? ⟨a,3,none⟩=some (.int .i64 D.M.W)/\v.cell? ⟨a,4,none⟩=some (.int .i64 D.M.H)/\v.cell? ⟨a,5,none⟩=some (.slice D.M.a D.M.n D.M.c)/\v.cell? ⟨a,6,none⟩=some (.slice D.a D.n D.c)/\r⟩
instance:Coe Dsk (Array Value):=⟨fun D=>#[.int .i64 D.P.W, .int .i64 D.P.H, .slice D.P.a D.P.n D.P.c, .int .i64 D.M.W, .int .i64 D.M.H, .slice D.M.a D.M.n D.M.c, .slice D.a D.n D.c]⟩
def Dsk.val (D:Dsk):Value:= .agg ↑D
def Dsk.cells (D:Dsk):Array Value:=↑D
def Dsk.dat (D:Dsk):Pic × Pic × List Pic:=(D.P.pic,D.M.pic,zS D.ps)
structure RdD (w:World) (D:Dsk):Prop where
 pl:D.P.ink.length=D.P.n
 pr:Rd w D.P.a D.P.ink
 ml:D.M.ink.length=D.M.n
 mr:Rd w D.M.a D.M.ink
 sl:D.ps.length=D.n
 sr:RdV w D.a D.ps
theorem RdD.below {w w':World} {D:Dsk} (h:RdD w D) (hb:Below w w w'):RdD w' D:=
 ⟨h.pl,h.pr.below hb,h.ml,h.mr.below hb,h.sl,h.sr.below hb⟩
theorem RdD.alloc {w:World} {D:Dsk} (h:RdD w D) (o:Obj):RdD (w.alloc o) D:=h.below (Joins.below_alloc1 w o)
structure vK (D:Dsk):Prop where
 p:D.P.n<=1048576
 m:D.M.n<=1048576
 n:D.n<=1048576
 s: ∀k,k<D.ps.length->(pv D.ps k).n<=1048576
theorem Sz (h:OwnA w B ad n cap xs) (hg:g<B) (j l s t x y z:Value):
 OwnA (((((((w.setCell g j).setCell (g,1) l).setCell (g,2) s).setCell (g,3) t).setCell (g,4) x).setCell (g,5) y).setCell (g,6) z) B ad n cap xs:=by
 have q: ∀ {u:World} (k:OwnA u B ad n cap xs) (i:Nat) (v:Value),OwnA (u.setCell (g,i) v) B ad n cap xs:=fun k i v=>k.zG (fun e=>by have:=k.bd _ e;simp at this;omega) v;exact q (q (q (q (q (q (q h 0 j) 1 l) 2 s) 3 t) 4 x) 5 y) 6 z
theorem yB (h:Below B w w') (hg:B<=g) (i j l q s t u:Value):
 Below B w (((((((w'.setCell g i).setCell (g,1) j).setCell (g,2) l).setCell (g,3) q).setCell (g,4) s).setCell (g,5) t).setCell (g,6) u):=
 ((((((h.setCell hg _).setCell hg _).setCell hg _).setCell hg _).setCell hg _).setCell hg _).setCell hg _
structure yQ (w:World) (B:Nat) (D:Dsk):Prop where
 p:OwnA w B D.P.a D.P.n D.P.c D.P.ink
 m:OwnA w B D.M.a D.M.n D.M.c D.M.ink
 s:OwnV w B D.a D.n D.c D.ps
 pm: ∀b,zO D.P.a=some b->zO D.M.a≠some b
 ps: ∀b,OwnV.blocks D.a D.ps b->zO D.P.a≠some b
 ms: ∀b,OwnV.blocks D.a D.ps b->zO D.M.a≠some b
theorem yQ.rd {w:World} {B:Nat} {D:Dsk} (h:yQ w B D):RdD w D:=
 ⟨h.p.len,h.p.rd,h.m.len,h.m.rd,h.s.len,h.s.rd⟩
theorem yQ.below {w w':World} {B:Nat} {D:Dsk} (h:yQ w B D) (hb:Below w w w'):yQ w' B D:=
 ⟨h.p.zA hb,h.m.zA hb,h.s.below hb,h.pm,h.ps,h.ms⟩
theorem yQ.mono {w:World} {B B':Nat} {D:Dsk} (h:yQ w B D) (i:B'<=B):yQ w B' D:=
 ⟨h.p.mono i,h.m.mono i,h.s.mono i,h.pm,h.ps,h.ms⟩
theorem yQ.alloc {w:World} {B:Nat} {D:Dsk} (h:yQ w B D) (o:Obj):yQ (w.alloc o) B D:=h.below (Joins.below_alloc1 w o)
theorem OwnV.other {L:List PV} (h:OwnV w B ad n cap L) {a:Addr} (ha:a.block<B) (u:Value):OwnV (w.setCell a u) B ad n cap L:=by
 have hk:KeepT (fun i=>i=a.block) w (w.setCell a u):=KeepT.set (S:=fun i=>i=a.block) (KeepT.refl _ w) rfl u;exact hk.ownV h (fun i hb e=>by have:=h.bd i hb;omega)
theorem yQ.other {w:World} {B:Nat} {D:Dsk} (h:yQ w B D) {a:Addr} (ha:a.block<B) (u:Value):yQ (w.setCell a u) B D:=
 ⟨h.p.zG (fun e=>by have:=h.p.bd _ e;omega) u,h.m.zG (fun e=>by have:=h.m.bd _ e;omega) u,h.s.other ha u,h.pm,h.ps,h.ms⟩
def Dsk.blocks (D:Dsk) (b:Nat):Prop:=zO D.P.a=some b\/zO D.M.a=some b\/OwnV.blocks D.a D.ps b
theorem yQ.bd {w:World} {B:Nat} {D:Dsk} (h:yQ w B D): ∀b,D.blocks b->B<=b/\b<w.heap.size:=by
 intro b hb;rcases hb with hb | hb | hb
 exact h.p.bd b hb;exact h.m.bd b hb;exact h.s.bd b hb
def xg (d:Pic × Pic × List Pic):Bool:=
 zT d.1.W d.1.H d.1.ink 255 && yD d.2.1.W d.2.1.H d.2.1.ink && (decide (d.2.2.length=0) || (xG d.2.2 && decide ((d.2.2.getD 0 xF).W=d.1.W/\(d.2.2.getD 0 xF).H=d.1.H)))
theorem OU {d:Pic × Pic × List Pic} (h: ¬zT d.1.W d.1.H d.1.ink 255=true):xg d=false:=by
 unfold xg;simp [h]
theorem OT {d:Pic × Pic × List Pic} (h: ¬yD d.2.1.W d.2.1.H d.2.1.ink=true):xg d=false:=by
 unfold xg;simp [h]
theorem OQ {d:Pic × Pic × List Pic} (h1:zT d.1.W d.1.H d.1.ink 255=true) (h2:yD d.2.1.W d.2.1.H d.2.1.ink=true) (h3:d.2.2.length=0):xg d=true:=by
 unfold xg;simp [h1,h2,h3]
theorem OV {d:Pic × Pic × List Pic} (h1:zT d.1.W d.1.H d.1.ink 255=true) (h2:yD d.2.1.W d.2.1.H d.2.1.ink=true) (h3: ¬d.2.2.length=0):
 xg d=(xG d.2.2 && decide ((d.2.2.getD 0 xF).W=d.1.W/\(d.2.2.getD 0 xF).H=d.1.H)):=by
 unfold xg;simp [h1,h2,h3]
theorem YN:(prog.info? 3).map (fun i=>(i.zero,i.size,i.bytes))=some (some ↑Z0,1,8):=zK
theorem uE (w:World) {rest:List Oper} {a:Act}
 (hg:o.guard=none) (l c:Operand) (q:o.op=Op.makeSlice 22 l c) (y x:IntKind) (L C:Int) (n:Nat) (hl:a.eval l= .int y L) (hc:a.eval c= .int x C) (hL:L=(n:Int)) (z:C=(n:Int)) (hn:n<=17592186044416)
 (hK: ∀M:Array Value,JX M n (List.replicate n 0)->wpList prog ops Q rest (a.put o.dst (.slice ↑w n n)) (w.alloc (.cells M 3))):
 wpList prog ops Q (o::rest) a w:=by
 obtain ⟨i,hi,s,t,u⟩:=info_parts YN;refine wpList_plain hg fun K j=>?_;subst hL;subst z;have hr:=run_make (P:=prog) w 22 3 i ↑Z0 underlying22 hi s y x n n om (Int.le_refl _) (by rw [u];omega) om;simp only [Yu,t,Nat.mul_one] at hr;have hm:=JX.zero n (by unfold maxLen;omega);unfold Oper.wp;simp only [Value.cells] at hr;simp [execOp,q,hl,hc,hr,Result.andThen];exact j _ _ (hK _ hm)
theorem zBf (ad:Option Addr) (n cap:Nat) (L:Int) (w:World) (h1:(n:Int)<=L) (h2:L<=1048576):
 Calls prog 43 #[.slice ad n cap,L] w fun e w'=>e= .returned (.int .i64 (L - n))/\w=w':=by
 go_in
 go_wp2
 go_ret;exact ⟨rfl,rfl⟩
theorem zBe (ad:Option Addr) (n cap:Nat) (L:Int) (w:World) (h1:L<(n:Int)) (i:0<=L) (h2:L<=1048576) (h3:n<=9223372036854775807):
 Calls prog 43 #[.slice ad n cap,L] w fun e w'=>e= .returned (.int .i64 (-1))/\w=w':=by
 go_in
 go_wp2
 go_ret;exact ⟨rfl,rfl⟩
theorem gy (a b:Option Addr) (n m c d:Nat) (xs ys:List Int) (w:World) (hn:xs.length=n) (hm:ys.length=m) (ha:Rd w a xs) (hb:Rd w b ys) (hl:n<=9223372036854775807) (J:m<=9223372036854775807):
 Calls prog 78 #[.slice a n c, .slice b m d] w fun e w'=>e= .returned (.bool (decide (xs=ys)))/\ ∃q,w'=w.drewN q:=by
 by_cases l:n=m
 case neg=>
  have H:Hd (¬xs=ys):=fun h=>l (by rw [<-hn,<-hm,h]);have P:((n:Int)==(m:Int))=false:=sO;have M:((n:Int) !=(m:Int))=true:=sO;obtain ⟨t,s,A,C⟩:=JG hn hm ha hb;clear hn hm l ha hb;go_in
  go_wp2
  go_ret;exact ⟨by simp [H.Z],0,rfl⟩
 subst l;obtain ⟨t,s,A,C⟩:=JG hn hm ha hb;clear hn hm ha hb;go_in
 go_wp2
 go_loopw [5] (fun i wr=> ∃k:Nat,k<=n/\i=↑k/\Hd (xs.take k=ys.take k)/\ ∃q,wr=w.drewN q) (fun i _=>n - (intOf i).toNat)
 exact ⟨0,nZ,rfl,rfl,0,rfl⟩;obtain ⟨k,hk,rfl,D,q,rfl⟩:=hrel;by_cases L:k<n
 . obtain ⟨E,N,y,G,u⟩:=A.Z.at (oh t)
   obtain ⟨F,O,z,I,x⟩:=C.Z.at (oh s);subst y z;have h1:w.cell? (E,N+k)=some ↑(xs.getD k 0):=u k (oh t);have h2:w.cell? (F,O+k)=some ↑(ys.getD k 0):=x k (oh s);clear u x
   go_wp2
   go_quiet (fail)
   go_wp2
   . have j:(xs[k]?.getD 0 !=ys[k]?.getD 0)=true:=aS
     go_ret;refine ⟨zV ?_,(by first | exact GJ _ _ | exact GK _ _ _)⟩;symm;rw [decide_eq_false_iff_not];intro h;subst h;simp at j
   have j:(xs[k]?.getD 0 !=ys[k]?.getD 0)=false:=aS;go_roundw
   . exact ⟨k+1,om,by go_num,CY (oh t) (oh s) D.Z (by simpa using j),(by first | exact GJ _ _ | exact GK _ _ _)⟩
   exact Jm
 go_wp2
 go_ret;refine ⟨zV ?_,_,rfl⟩;symm;rw [decide_eq_true_iff];have h:=D.Z;rwa [Yk (oh t),Yk (oh s)] at h
theorem oq (a:Option Addr) (n c:Nat) (xs:List Int) (w:World) (hn:xs.length=n) (ha:Rd w a xs) (hl:n<=17592186044416):
 Calls prog 67 #[.slice a n c] w fun e w'=>e= .returned (.slice ↑w n n)/\Own w' w n n xs/\Below w w w':=by
 have s:=Jh hn;have A:=Jh ha;clear hn ha;go_in;go_wp2_with (at_make;refine uE _ rfl _ _ rfl .i64 .i64 n n n rfl rfl rfl rfl hl ?_;intro M z);have C:=Jh z;clear z
 go_loopw [4] (fun i wr=> ∃k:Nat,k<=n/\i=↑k/\Own wr w n n (zy xs (List.replicate n 0) k)/\Below w w wr) (fun i _=>n - (intOf i).toNat)
 exact ⟨0,nZ,rfl,by rw [xB];exact C.Z.own _,nJ⟩;obtain ⟨k,hk,rfl,q,j⟩:=hrel;by_cases x:k<n
 . obtain ⟨E,G,t,u,l⟩:=A.Z.at (oh s)
   subst t;have h1:wr.cell? (E,G+k)=some ↑(xs.getD k 0):=(j.cell u).trans (l k (oh s));have h2:wr.cell? (w,k)=some ↑((zy xs (List.replicate n 0) k).getD k 0):=q.cell x;have h3:wr.frozen? (w,k)=false:=q.frozen k;have y:=q.set k (xs.getD k 0);rw [yx xs _ k _ (oh s) sO rfl] at y;have D:=Jh y;clear l y q
   go_wp2
   go_roundw
   . exact ⟨k+1,om,by go_num,by simpa using D.Z,j.setCell nI _⟩
   exact Jm
 go_wp2
 go_ret;refine ⟨rfl,?_,j⟩;obtain rfl:k=n:=om;have F:=s.Z;subst F;rwa [YL _ _ sI] at q
theorem zCI (g n cap:Nat) (s:Int) (xs:List Int) (w:World) (j:Own w g n cap xs) (x:0<=s) (hl:s+n<=17592186044416):
 Calls prog 79 #[.slice ↑g n cap,s] w fun e w'=>e= .returned (.int .i64 (s+n))/\Own w' g n cap (vC s n)/\w.grownBy w' (some g):=by
 have q:=Jh j;clear j;go_in
 go_wp2
 go_loopw [1,5] (fun v i wr=> ∃k:Nat,k<=n/\i=↑k/\v= .int .i64 (s+k)/\Own wr g n cap (zy (vC s n) xs k)/\w.grownBy wr (some g)) (fun _ i _=>n - (intOf i).toNat)
 exact ⟨0,nZ,rfl,sI,by rw [xB];exact q.Z,yU _ _⟩;obtain ⟨k,hk,rfl,rfl,j,hg⟩:=hrel;by_cases l:k<n
 . have h2:wr.cell? (g,k)=some ↑((zy (vC s n) xs k).getD k 0):=j.cell l
   have h3:wr.frozen? (g,k)=false:=j.frozen k;have t:=j.set k (s+k);rw [yx _ xs k _ (by rw [Xv];exact l) (og q.Z.len) (II s n k l)] at t;have u:=Jh t;clear t j
   go_wp2
   go_roundw
   . exact ⟨k+1,om,by go_num,by go_num,by simpa using u.Z,yX hg _⟩
   exact Jm
 go_wp2
 go_ret;obtain rfl:k=n:=om;refine ⟨rfl,?_,hg⟩
 have e:zy (vC s k) xs k=vC s k:=by
  have:=YL (vC s k) xs (by rw [Xv];exact q.Z.len);rwa [Xv] at this
 rwa [e] at j
theorem tK (ad:Option Addr) (cap:Nat) (s:Int) (w:World):
 Calls prog 79 #[.slice ad 0 cap,s] w fun e w'=>e= .returned ↑s/\w=w':=by
 go_in
 go_wp2
 refine wp_loop_rounds 1 ?_;rw [rounds_succ]
 go_wp2
 go_ret;exact ⟨rfl,rfl⟩
theorem En (B:Nat) (ad:Option Addr) (n cap:Nat) (s:Int) (xs:List Int) (w:World) (i:OwnA w B ad n cap xs) (j:0<=s) (hl:s+n<=17592186044416):
 Calls prog 79 #[.slice ad n cap,s] w fun e w'=>e= .returned (.int .i64 (s+n))/\OwnA w' B ad n cap (vC s n)/\w.grownBy w' (zO ad):=by
 rcases i with ⟨rfl,rfl,rfl,rfl⟩ | ⟨g,rfl,l,i⟩
 exact (tK none 0 s w).mono fun e w' ⟨h1,h2⟩=>⟨by rw [h1];simp,oN,by rw [<-h2];exact yU _ _⟩
 exact (zCI g n cap s xs w i j hl).mono fun e w' ⟨h1,h2,h3⟩=>⟨h1, .mk h2 l,h3⟩
theorem EW (ad:Option Addr) (n cap:Nat) (s:Int) (w:World) (ha:Rd w ad (vC s n)) (z:0<=s) (hl:s+n<=17592186044416):
 Calls prog 80 #[.slice ad n cap,s] w fun e w'=>e= .returned (.int .i64 (s+n))/\w=w':=by
 have t:=Jh ha;clear ha;go_in
 go_wp2
 go_loop [1,5] (fun v i=> ∃k:Nat,k<=n/\i=↑k/\v= .int .i64 (s+k)) (fun _ i=>n - (intOf i).toNat)
 exact ⟨0,nZ,rfl,sI⟩;obtain ⟨k,hk,rfl,rfl⟩:=hrel;by_cases l:k<n
 . obtain ⟨u,y,q,x,j⟩:=t.Z.at (by rw [Xv];omega)
   subst q;have h1:w.cell? (u,y+k)=some (.int .i64 (s+k)):=by rw [<-II s n k l];exact j k (by rw [Xv];exact l)
   clear j
   go_wp2
   go_round
   . exact ⟨k+1,om,by go_num,by go_num⟩
   exact Jm
 go_wp2
 go_ret;obtain rfl:k=n:=om;exact ⟨rfl,rfl⟩
theorem Qs (W H:Int) (ad:Option Addr) (n cap:Nat) (L:Int) (w:World) (h1:(n:Int)<=L) (h2:L<=1048576):
 Calls prog 14 #[.agg #[W,H, .slice ad n cap],L] w (zR (.int .i64 (L - n)) w):=by
 go_in;go_wp2_with (go_at_call 43;refine (zBf _ _ _ _ _ h1 h2).mono ?_;rintro e w' ⟨rfl,rfl⟩);go_ret;exact ⟨rfl,bR.alloc nI _⟩
theorem Rl (W H:Int) (ad:Option Addr) (n cap:Nat) (L:Int) (w:World) (h1:L<(n:Int)) (i:0<=L) (h2:L<=1048576) (h3:n<=9223372036854775807):
 Calls prog 14 #[.agg #[W,H, .slice ad n cap],L] w (zR (.int .i64 (-1)) w):=by
 go_in;go_wp2_with (go_at_call 43;refine (zBe _ _ _ _ _ h1 i h2 h3).mono ?_;rintro e w' ⟨rfl,rfl⟩);go_ret;exact ⟨rfl,bR.alloc nI _⟩
theorem zBi (W H:Int) (ad:Option Addr) (n cap:Nat) (xs:List Int) (w:World) (hn:xs.length=n) (ha:Rd w ad xs) (hl:n<=17592186044416):
 Calls prog 24 #[.agg #[W,H, .slice ad n cap]] w fun e w'=> ∃g,e= .returned (.agg #[W,H, .slice (some ⟨g,0,none⟩) n n])/\w.heap.size<=g/\Own w' g n n xs/\Below w w w':=by
 have s:=Jh hn;have l:=Jh ha;clear hn ha;go_in;go_wp2_with fail;refine (oq _ _ _ xs _ s.Z (l.Z.below ?_) hl).mono ?_
 . repeat (first | with_reducible exact bR | with_reducible refine Below.alloc ?_ (by simp;try omega) _)
 rintro e w1 ⟨rfl,i,hb⟩;obtain ⟨hc,hf⟩:=zBZ hb;have j:=hb.size;simp at hc hf j;have t:=Jh i;have q:=Jh hb;clear i hb
 go_wp2
 refine bodyPost_ret (v:= .agg #[W,H, .slice ↑(w.heap.size+3) n n]) (by simp [results,results24,go_sem,hc,j]) rfl ⟨w.heap.size+3,rfl,om,?_,?_⟩
 . have i:=t.Z
   simp at i
   repeat (first | with_reducible exact i | with_reducible refine Own.other ?_ (by simp;try omega) _)
 repeat (first | with_reducible exact bR | with_reducible refine Below.alloc ?_ (by simp;try omega) _ | with_reducible refine Below.setCell ?_ (by simp;try omega) _ | with_reducible refine Below.trans ?_ (Below.mono q.Z (by simp;try omega)))
theorem zBa (W H l i:Int) (a b:Option Addr) (n m c d:Nat) (xs ys:List Int) (w:World) (hn:xs.length=n) (hm:ys.length=m) (ha:Rd w a xs) (hb:Rd w b ys) (hl:n<=↑Zn) (t:m<=↑Zn):
 Calls prog 30 #[.agg #[W,H, .slice a n c], .agg #[l,i, .slice b m d]] w (zR (.bool (decide (W=l/\H=i/\xs=ys))) w):=by
 obtain ⟨A,z,x,y⟩:=JG hn hm ha hb;clear hn hm ha hb;by_cases h1:W=l
 case neg=>
  have C:(W==l)=false:=by simpa using h1
  have u:(W !=l)=true:=by simpa using h1
  go_in
  go_wp2
  go_ret;exact ⟨zV (by simp [h1]),nV⟩
 subst h1;by_cases h2:H=i
 case neg=>
  have C:(H==i)=false:=by simpa using h2
  have u:(H !=i)=true:=by simpa using h2
  go_in
  go_wp2
  go_ret;exact ⟨zV (by simp [h2]),nV⟩
 subst h2;go_in;go_wp2_with fail;refine (gy a b n m c d xs ys _ A.Z z.Z (x.Z.below nV) (y.Z.below nV) hl t).mono ?_;rintro e w1 ⟨rfl,q,rfl⟩;by_cases h3:xs=ys
 . have j:decide (xs=ys)=true:=by simpa using h3
   rw [j];have s:=Jh h3;clear h3 j
   go_wp2
   go_ret;exact ⟨zV (by simp [s.Z]),nV.trans (Joins.below_draws _ _ _)⟩
 have j:decide (xs=ys)=false:=by simpa using h3
 rw [j];have s:=Jh h3;clear h3 j
 go_wp2
 go_ret;exact ⟨zV (by simp [s.Z]),nV.trans (Joins.below_draws _ _ _)⟩
theorem zCJ (W H:Int) (B:Nat) (ad:Option Addr) (n cap:Nat) (s:Int) (xs:List Int) (w:World) (i:OwnA w B ad n cap xs) (t:0<=s) (hl:s+n<=17592186044416):
 Calls prog 33 #[.agg #[W,H, .slice ad n cap],s] w fun e w'=>e= .returned (.int .i64 (s+n))/\OwnA w' B ad n cap (vC s n)/\w.grownBy w' (zO ad):=by
 have q:=Jh i;clear i;go_in;go_wp2_with fail;refine (En B ad n cap s xs _ (q.Z.alloc _) t hl).mono ?_;rintro e w1 ⟨rfl,i,hg⟩;have j:=Jh i;have l:=Jh hg;clear i hg
 go_wp2
 go_ret;exact ⟨rfl,j.Z,zY (World.grownBy_alloc _ _ _) l.Z⟩
theorem zBy (W H:Int) (ad:Option Addr) (n cap:Nat) (s:Int) (w:World) (ha:Rd w ad (vC s n)) (j:0<=s) (hl:s+n<=17592186044416):
 Calls prog 36 #[.agg #[W,H, .slice ad n cap],s] w (zR (.int .i64 (s+n)) w):=by
 have i:=Jh ha;clear ha;go_in;go_wp2_with fail;refine (EW ad n cap s _ (i.Z.alloc _) j hl).mono ?_;rintro e w1 ⟨rfl,rfl⟩
 go_wp2
 go_ret;exact ⟨rfl,nJ⟩
end
end Go.Proofs.YtlenfgdjdianiaaGreatDoor
