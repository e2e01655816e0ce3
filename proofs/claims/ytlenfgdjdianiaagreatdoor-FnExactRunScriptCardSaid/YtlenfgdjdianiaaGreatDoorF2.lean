/- Facts on which this claim rests, 2. -/
import Derived.Test.YtlenfgdjdianiaaGreatDoorF1
set_option linter.all false
set_option maxHeartbeats 6400000
namespace Go.Proofs.YtlenfgdjdianiaaGreatDoor
section
variable {H W dx dy v : Int} {f g : Nat → Nat} {k m n : Nat} {xs : List Int}
open Tq Go.Proofs.Tryz
def yi (W H:Int):Bool:=decide (1<=W/\W<=256/\1<=H/\H<=256/\W*H<=256)
def inR (xs:List Int) (n:Nat):Bool:=xs.all (fun v=>decide (0<=v/\v<(n:Int)))
def vd (xs:List Int):Bool:=inR xs xs.length && decide xs.Nodup
def zq (W H:Int) (xs:List Int):Bool:=yi W H && (decide ((xs.length:Int)=W*H) && vd xs)
theorem zCL (W H:Int) (h1:1<=W) (h2:W<=256) (h3:1<=H) (h4:H<=256):1<=W*H/\W*H<=65536:=by
 constructor;have:=Yr h1 h3 om om;omega;have:=Yr h2 h4 om om;omega
theorem zBB (h1:1<=W) (h2:W<=256) (h3:1<=H) (h4:H<=256):yi W H=decide (W*H<=256):=by unfold yi;simp [h1,h2,h3,h4]
theorem QO (c: ¬(1<=W/\W<=256/\1<=H/\H<=256)):yi W H=false:=by
 unfold yi;rw [decide_eq_false_iff_not];exact fun h=>c ⟨h.1,h.2.1,h.2.2.1,h.2.2.2.1⟩
theorem xA (h:yi W H=true):1<=W/\W<=256/\1<=H/\H<=256/\W*H<=256/\1<=W*H:=by
 unfold yi at h;have h:=of_decide_eq_true h;exact ⟨h.1,h.2.1,h.2.2.1,h.2.2.2.1,h.2.2.2.2,(zCL W H h.1 h.2.1 h.2.2.1 h.2.2.2.1).1⟩
theorem JO (h1:1<=W) (h3:1<=H) (c:W*H<=256):yi W H=true:=by
 have b:W*1<=W*H:=YA h3 om;have e:1*H<=W*H:=Yo h1 om;unfold yi;rw [decide_eq_true_iff];omega
theorem zFB (h:inR xs n=true) (k:Nat) (hk:k<xs.length):0<=xs[k]?.getD 0/\xs[k]?.getD 0<(n:Int):=by
 unfold inR at h;have:=List.all_eq_true.1 h xs[k] (List.getElem_mem hk);simpa [Ya hk] using this
theorem zQY (k:Nat) (hk:k<xs.length) (h: ¬(0<=xs[k]?.getD 0/\xs[k]?.getD 0<(n:Int))):inR xs n=false:=by
 unfold inR;rw [List.all_eq_false];refine ⟨xs[k],List.getElem_mem hk,?_⟩;simpa [Ya hk] using h
theorem zKp (h: ∀k,k<xs.length->0<=xs[k]?.getD 0/\xs[k]?.getD 0<(n:Int)):inR xs n=true:=by
 unfold inR;rw [Yp];intro v hv;obtain ⟨k,hk,rfl⟩:=List.getElem_of_mem hv;have:=h k hk;simpa [Ya hk] using this
theorem zFC (hk:k<xs.length) (h:inR (xs.take k) n=true) (b:0<=xs[k]?.getD 0) (h1:xs[k]?.getD 0<(n:Int)):inR (xs.take (k+1)) n=true:=by
 unfold inR at h⊢;rw [Ym hk,List.all_append,h];simp only [Ya hk,Yz] at b h1;simp [b,h1]
theorem zBO (hn:xs.length=n) (k:Nat) (hk:k<n) (h: ¬(0<=xs[k]?.getD 0/\xs[k]?.getD 0<(n:Int))):vd xs=false:=by
 unfold vd;rw [zQY k om (by rw [hn];exact h)];rfl
theorem zLe (h:vd xs=true):inR xs xs.length=true/\xs.Nodup:=by
 unfold vd at h;simpa using h
theorem Vu (hn:xs.length=n) (h:inR xs n=true) (h2:xs.Nodup):vd xs=true:=by
 unfold vd;rw [hn,h];simpa using h2
theorem zBN (h: ¬xs.Nodup):vd xs=false:=by
 unfold vd;simp [h]
theorem zDu (hk:k<xs.length) (h:xs[k]?.getD 0 ∈ xs.take k): ¬xs.Nodup:=by
 intro hd;have h2:(xs.take (k+1)).Nodup:=hd.sublist (List.take_sublist _ _);rw [Ym hk,List.nodup_append] at h2;simp only [Ya hk,Yz] at h;exact h2.2.2 _ h _ sI rfl
theorem zBF (hk:k<xs.length) (hd:(xs.take k).Nodup) (h: ¬xs[k]?.getD 0 ∈ xs.take k):(xs.take (k+1)).Nodup:=by
 rw [Ym hk,List.nodup_append];simp only [Ya hk,Yz] at h;refine ⟨hd,sI,?_⟩;intro a ha b hb;simp at hb;subst hb;intro e;subst e;exact h ha
theorem zDF (h:yi W H=false):zq W H xs=false:=by unfold zq;simp [h]
theorem zDG (hn:xs.length=n) (h: ¬(n:Int)=W*H):zq W H xs=false:=by unfold zq;rw [hn];simp [h]
theorem Qt (hn:xs.length=n) (h1:yi W H=true) (h:(n:Int)=W*H):zq W H xs=vd xs:=by unfold zq;rw [hn];simp [h,h1]
theorem kI (hn:xs.length=n) (h:zq W H xs=true):yi W H=true/\(n:Int)=W*H/\inR xs n=true/\xs.Nodup:=by
 unfold zq at h;simp only [Bool.and_eq_true,decide_eq_true_eq] at h;obtain ⟨h1,h2,h3⟩:=h;obtain ⟨h4,b⟩:=zLe h3;exact ⟨h1,by rw [<-hn];exact h2,by rw [<-hn];exact h4,b⟩
theorem Qu (hn:xs.length=n) (h1:yi W H=true) (h2:(n:Int)=W*H) (h3:inR xs n=true) (h4:xs.Nodup):zq W H xs=true:=by
 rw [Qt hn h1 h2];exact Vu hn h3 h4
theorem kj (v x:Int) (xs:List Int):zV v (x::xs)=(if x=v then 1 else 0)+zV v xs:=by
 unfold zV;by_cases h:x=v
 subst h;simp;omega;simp [h]
theorem zIc (h:v ∈ xs):1<=zV v xs:=by
 unfold zV;exact List.length_pos_of_mem (List.mem_filter.2 ⟨h,sI⟩)
theorem zBE (h: ∀v,zV v xs<=1):xs.Nodup:=by
 induction xs with
 | nil=>exact List.nodup_nil
 | cons x xs b=>
  rw [List.nodup_cons];refine ⟨fun hm=>?_,b (fun v=>?_)⟩;have h1:=h x;rw [kj,if_pos rfl] at h1;have:=zIc hm;omega;have h1:=h v;rw [kj] at h1;omega
theorem zEq (h:xs.Nodup) (v:Int):zV v xs<=1:=by
 induction xs with
 | nil=>simp [zV]
 | cons x xs i=>
  rw [List.nodup_cons] at h;rw [kj];by_cases e:x=v
  subst e
  have c:zV x xs=0:=by
   unfold zV;rw [List.length_eq_zero_iff,List.filter_eq_nil_iff];intro a ha b;simp at b;subst b;exact h.1 ha
  rw [if_pos rfl,c];omega;rw [if_neg e];have:=i h.2;omega
def jz (f:Nat->Nat):Nat->Nat
 | 0=>0
 | n+1=>jz f n+f n
theorem zHN (h: ∀r,r<n->f r=g r):jz f n=jz g n:=by
 induction n with
 | zero=>rfl
 | succ n b=>simp only [jz];rw [b (fun r hr=>h r om),h n om]
theorem zMK (f g:Nat->Nat) (n:Nat):jz (fun r=>f r+g r) n=jz f n+jz g n:=by
 induction n with
 | zero=>rfl
 | succ n b=>simp only [jz];rw [b];omega
theorem zML (x:Nat) (n:Nat):jz (fun r=>if x=r then 1 else 0) n=if x<n then 1 else 0:=by
 induction n with
 | zero=>rfl
 | succ n b=>
  simp only [jz];rw [b];by_cases h1:x<n
  rw [if_pos h1,if_neg om,if_pos om];by_cases h2:x=n
  rw [if_neg h1,if_pos h2,if_pos om];rw [if_neg h1,if_neg h2,if_neg om]
theorem zOZ (h: ∀r,r<n->f r<=1):jz f n<=n:=by
 induction n with
 | zero=>exact Nat.le_refl 0
 | succ n b=>
  simp only [jz];have:=b (fun r hr=>h r om);have:=h n om;omega
theorem zJX (h: ∀r,r<n->f r<=1) (c:jz f n=n): ∀r,r<n->f r=1:=by
 induction n with
 | zero=>intro r hr;omega
 | succ n b=>
  simp only [jz] at c;have h1:=zOZ (f:=f) (n:=n) (fun r hr=>h r om);have h2:=h n om;intro r hr;by_cases e:r=n
  subst e;omega;exact b (fun r hr=>h r om) om r om
def below (n:Int) (xs:List Int):Nat:=(xs.filter (fun v=>decide (v<n))).length
theorem zJY (h: ∀v,v ∈ xs->0<=v) (n:Nat):jz (fun r=>zV (r:Int) xs) n=below n xs:=by
 induction xs with
 | nil=>
  have: ∀n,jz (fun _=>0) n=0:=by intro n;induction n with | zero=>rfl | succ n b=>simp only [jz];omega
  simpa [zV,below] using this n
 | cons x xs b=>
  have i:=h x sI
  have c:jz (fun r=>zV (r:Int) (x::xs)) n=jz (fun r=>(if x.toNat=r then 1 else 0)+zV (r:Int) xs) n:=by
   refine zHN (fun r hr=>?_);rw [kj];by_cases e:x=r
   rw [if_pos e,if_pos om];rw [if_neg e,if_neg om]
  rw [c,zMK,zML,b (fun v hv=>h v (by simp [hv]))];unfold below;by_cases e:x<n
  rw [if_pos om];simp [e];omega;rw [if_neg om];simp [e]
theorem zKA (h:inR xs n=true):below n xs=xs.length:=by
 unfold below;unfold inR at h;rw [List.filter_eq_self.2];intro a ha;have:=List.all_eq_true.1 h a ha;simp at this⊢;exact this.2
theorem zCI (h:inR xs n=true) (hv:v ∈ xs):0<=v/\v<(n:Int):=by
 unfold inR at h;have:=List.all_eq_true.1 h v hv;simpa using this
theorem zGr (hn:xs.length=n) (h:inR xs n=true) (hd:xs.Nodup): ∀r,r<n->zV (r:Int) xs=1:=by
 refine zJX (fun r _=>zEq hd _) ?_;rw [zJY (fun v hv=>(zCI h hv).1) n,zKA h,hn]
theorem zAn (h:inR xs n=true) (v:Int) (hv: ¬(0<=v/\v<n)):zV v xs=0:=by
 unfold zV;rw [List.length_eq_zero_iff,List.filter_eq_nil_iff];intro a ha b;simp at b;subst b;exact hv (zCI h ha)
def us (xs:List Int) (k:Nat):List Int:=gen 256 (fun r=>(zV (r:Int) (xs.take k):Int))
def vT (k:Nat):List Int:=gen 256 (fun i=>if i<k then 1 else 0)
theorem KU (n:Nat) (f g:Nat->Int) (r:Nat) (v:Int) (hr:r<n) (hv:g r=v) (h: ∀i,i<n->i≠r->g i=f i):(gen n f).set r v=gen n g:=by
 refine xk n g _ (by simp [zZ]) (fun k hk=>?_);rw [kw _ _ _ _ (by rw [zZ];exact hr)];by_cases e:r=k
 subst e;rw [if_pos rfl,hv];rw [if_neg e,yN _ _ _ hk,h k hk om]
theorem zCw {f g:Nat->Int} (h: ∀i,i<n->f i=g i):gen n f=gen n g:=by
 refine xk n g _ (by simp [zZ]) (fun k hk=>?_);rw [yN _ _ _ hk,h k hk]
theorem zGT (xs:List Int):us xs 0=List.replicate 256 0:=by
 unfold us;refine (xk 256 _ _ List.length_replicate (fun k hk=>?_)).symm;simp only [List.getD,List.getElem?_replicate,if_pos hk,Yz,List.take_zero];rfl
theorem zFP:vT 0=List.replicate 256 0:=by
 unfold vT;refine (xk 256 _ _ List.length_replicate (fun k hk=>?_)).symm;simp only [List.getD,List.getElem?_replicate,if_pos hk,Yz];rfl
theorem zCi (xs:List Int) (k r:Nat) (hr:r<256):(us xs k)[r]?.getD 0=(zV (r:Int) (xs.take k):Int):=yN 256 _ r hr
theorem zGS (xs:List Int) (k r:Nat) (hk:k<xs.length) (hr:r<256) (he:xs[k]?.getD 0=(r:Int)):(us xs k).set r ((zV (r:Int) (xs.take k):Int)+1)=us xs (k+1):=by
 refine KU 256 _ _ r _ hr ?_ (fun i hi b=>?_);rw [zAp _ _ _ hk he];omega;rw [zCz _ _ _ hk (by rw [he];omega)]
theorem zFO (k:Nat) (hk:k<256):(vT k).set k 1=vT (k+1):=by
 refine KU 256 _ _ k _ hk ?_ (fun i hi b=>?_);rw [if_pos om];by_cases h:i<k
 rw [if_pos h,if_pos om];rw [if_neg h,if_neg om]
theorem zPq (hn:xs.length=n) (hm:n<=256) (h:inR xs n=true):decide (us xs n=vT n)=vd xs:=by
 have c:xs.take n=xs:=Yk om;by_cases hd:xs.Nodup
 rw [Vu hn h hd,decide_eq_true_iff];refine zCw (fun r hr=>?_);rw [c];by_cases b:r<n
 rw [zGr hn h hd r b,if_pos b];rfl;rw [zAn h _ om,if_neg b];rfl;rw [zBN hd,decide_eq_false_iff_not];intro he;apply hd;apply zBE;intro v;by_cases hv:0<=v/\v<(n:Int)
 obtain ⟨r,rfl⟩: ∃r:Nat,v=r:=⟨v.toNat,om⟩
 have e:=zCi xs n r om;rw [he,c] at e;have i:(vT n)[r]?.getD 0=if r<n then 1 else 0:=yN 256 _ r om
 rw [i,if_pos om] at e;omega;rw [zAn h v hv];omega
structure Mat where
 W:Int
 H:Int
 ranks:List Int
def vQ:Mat:=⟨0,0,[]⟩
def jA (W H:Int) (xs:List Int) (x y:Int):Int:=xs.getD (y % H*W+x % W).toNat 0
def qF (a b:Int):Int:=if a=0 then (if b=0 then 0 else 3) else (if b=0 then 2 else 1)
def jg (W H:Int) (xs:List Int) (i:Nat):Int:=4*jA W H xs ((i:Int) % (2*W)) ((i:Int)/(2*W))+qF ((i:Int) % (2*W)/W) ((i:Int)/(2*W)/H)
def Qh (m:Mat):Mat:=⟨2*m.W,2*m.H,gen (4*m.ranks.length) (jg m.W m.H m.ranks)⟩
def xf:Nat->Mat
 | 0=>⟨1,1,[0]⟩
 | k+1=>Qh (xf k)
def xE (k:Int):Mat × Bool:=if 0<=k/\k<=4 then (xf k.toNat,true) else (vQ,false)
def uW (W H:Int) (xs:List Int):Mat:=if zq W H xs=true then ⟨W,H,xs.map (fun v=>(xs.length:Int) - 1 - v)⟩ else vQ
def kp (W H:Int) (xs:List Int) (dx dy:Int) (i:Nat):Int:=jA W H xs ((i:Int) % W - dx) ((i:Int)/W - dy)
def xb (W H:Int) (xs:List Int) (dx dy:Int):Mat:=if zq W H xs=true/\-1000<=dx/\dx<=1000/\-1000<=dy/\dy<=1000 then ⟨W,H,gen xs.length (kp W H xs dx dy)⟩ else vQ
def qP (level v:Int):Int:=if v<level then 1 else 0
theorem Ze (a:Int) {n:Int} (h:1<=n):0<=a % n/\a % n<n:=⟨Yg _ om,Ye _ om⟩
theorem ZA (hn:(n:Int)=W*H) (j:1<=W) (b:1<=H) (x y:Int):0<=y % H*W/\0<=y % H*W+x % W/\y % H*W+x % W<(n:Int)/\(y % H*W+x % W).toNat<n:=by
 obtain ⟨i,c⟩:=Ze x j;obtain ⟨e,l⟩:=Ze y b;obtain ⟨s,q⟩:=ve i c e l;omega
theorem Vz (hl:xs.length=n) (hn:(n:Int)=W*H) (c:1<=W) (b:1<=H) (h:inR xs m=true) (x y:Int):0<=jA W H xs x y/\jA W H xs x y<(m:Int):=by
 unfold jA;obtain ⟨_,_,_,h3⟩:=ZA hn c b x y;have:=zFB h (y % H*W+x % W).toNat om;simpa [List.getD] using this
theorem zIC (h: ¬zq W H xs=true):uW W H xs=vQ:=by unfold uW;rw [if_neg h]
theorem zAD (hn:xs.length=n) (h:zq W H xs=true):uW W H xs=⟨W,H,xs.map (fun v=>(n:Int) - 1 - v)⟩:=by unfold uW;rw [if_pos h,hn]
theorem qy (h: ¬(zq W H xs=true/\-1000<=dx/\dx<=1000/\-1000<=dy/\dy<=1000)):xb W H xs dx dy=vQ:=by unfold xb;rw [if_neg h]
theorem zBY (hn:xs.length=n) (h:zq W H xs=true) (h1:-1000<=dx) (h2:dx<=1000) (h3:-1000<=dy) (h4:dy<=1000):xb W H xs dx dy=⟨W,H,gen n (kp W H xs dx dy)⟩:=by
 unfold xb;rw [if_pos ⟨h,h1,h2,h3,h4⟩,hn]
theorem zJG (a b:Int):0<=qF a b/\qF a b<=3:=by
 unfold qF;split <;>split <;>omega
theorem zPa {f:Nat->Int} (h: ∀i,i<n->0<=f i/\f i<(m:Int)):inR (gen n f) m=true:=by
 refine zKp (fun k hk=>?_);rw [zZ] at hk;have e:(gen n f)[k]?.getD 0=f k:=yN n f k hk;rw [e];exact h k hk
def YK (w:World) (R:Mat) (e:Ending) (w':World):Prop:=
 ∃a n c,e= .returned (.agg #[R.W,R.H, .slice a n c])/\OwnA w' w a n c R.ranks/\n<=1048576/\Go.RowKit.Below w w w'
def kP (w:World) (R:Mat × Bool) (e:Ending) (w':World):Prop:=
 ∃a n c,e= .returned (.tuple #[.agg #[R.1.W,R.1.H, .slice a n c], .bool R.2])/\OwnA w' w a n c R.1.ranks/\n<=1048576/\Go.RowKit.Below w w w'
end
section
open Go.RowKit Tq Go.Proofs.Tryz
variable {B B' C T cap g n : Nat} {O : Obj} {Q : Exit → Act → World → Prop} {a : Act} {ad : Option Addr} {cs : Array Value} {o : Oper} {ops : Array Oper} {v : Value} {w w' w0 w1 wr : World} {xs : List Int}
def RdU (B:Nat) (w:World) (ad:Option Addr) (xs:List Int):Prop:=
 ∀k,k<xs.length->(0<=xs.getD k 0/\xs.getD k 0<=255)/\ ∃b off,ad=some ⟨b,off,none⟩/\b<B/\b<w.heap.size/\w.cell? ⟨b,off+k,none⟩=some (.int .u8 (xs.getD k 0))
theorem RdU.same (h:RdU B w ad xs) (hb: ∀b,b<B->b<w.heap.size->w'.heap[b]? =w.heap[b]?) (e:w.heap.size<=w'.heap.size):RdU B w' ad xs:=by
 intro k hk;obtain ⟨c,b,off,h1,h2,h3,h4⟩:=h k hk;exact ⟨c,b,off,h1,h2,om,(World.cell?_of_block (hb b h2 h3)).trans h4⟩
theorem RdU.mono (h:RdU B w ad xs) (e:B<=B'):RdU B' w ad xs:=by
 intro k hk;obtain ⟨c,b,off,h1,h2,h3,h4⟩:=h k hk;exact ⟨c,b,off,h1,om,h3,h4⟩
theorem RdU.below (h:RdU B w ad xs) (hb:Below B w w'):RdU B w' ad xs:=
 h.same (fun b h1 _=>hb.block b h1) hb.size
theorem jo (W H:Int) (w:World):
 Calls prog 113 #[W,H] w fun e w'=>e= .returned (.bool (yi W H))/\w=w':=by
 by_cases c:1<=W/\W<=256/\1<=H/\H<=256
 . obtain ⟨h1,h2,h3,h4⟩:=c
   rw [zBB h1 h2 h3 h4];obtain ⟨i,b⟩:=zCL W H h1 h2 h3 h4;go_in
   go_wp2
   all_goals (go_ret;exact ⟨rfl,rfl⟩)
 rw [QO c];go_in
 go_wp2
 all_goals (go_ret;first | exact ⟨rfl,rfl⟩ | (exfalso;exact c ⟨om,om,om,om⟩))
theorem UN (W H:Int) (w:World):
 Calls prog 85 #[W,H] w fun e w'=>e= .returned (.bool (yi W H))/\w=w':=by
 by_cases c:1<=W/\W<=256/\1<=H/\H<=256
 . obtain ⟨h1,h2,h3,h4⟩:=c
   rw [zBB h1 h2 h3 h4];obtain ⟨i,b⟩:=zCL W H h1 h2 h3 h4;go_in
   go_wp2
   all_goals (go_ret;exact ⟨rfl,rfl⟩)
 rw [QO c];go_in
 go_wp2
 all_goals (go_ret;first | exact ⟨rfl,rfl⟩ | (exfalso;exact c ⟨om,om,om,om⟩))
theorem Ka (W H:Int) (w:World) (h:yi W H=true):
 Calls prog 113 #[W,H] w fun e w'=>e= .returned (.bool true)/\w=w':=
 (jo W H w).mono fun e w' ⟨he,hw⟩=>⟨by rw [he,h],hw⟩
theorem JI (W H:Int) (w:World) (h: ¬yi W H=true):
 Calls prog 113 #[W,H] w fun e w'=>e= .returned (.bool false)/\w=w':=
 (jo W H w).mono fun e w' ⟨he,hw⟩=>⟨by rw [he];exact zX (by simpa using h),hw⟩
theorem qr (W H:Int) (w:World) (h:yi W H=true):
 Calls prog 85 #[W,H] w fun e w'=>e= .returned (.bool true)/\w=w':=
 (UN W H w).mono fun e w' ⟨he,hw⟩=>⟨by rw [he,h],hw⟩
theorem XZ (W H:Int) (w:World) (h: ¬yi W H=true):
 Calls prog 85 #[W,H] w fun e w'=>e= .returned (.bool false)/\w=w':=
 (UN W H w).mono fun e w' ⟨he,hw⟩=>⟨by rw [he];exact zX (by simpa using h),hw⟩
theorem zFz {a n:Int} (h:a<0) (hn:1<=n):-n<a.tmod n/\a.tmod n<=0/\(a.tmod n<0->a.tmod n+n=a % n)/\(¬a.tmod n<0->a.tmod n=a % n):=by
 obtain ⟨b,rfl⟩: ∃b:Int,a=-b:=⟨-a,om⟩
 have j:(-b).tmod n=-(b % n):=by rw [Int.neg_tmod,Yl om]
 have q:0<=b % n:=Yg _ om;have l:b % n<n:=Ye _ om;rw [j];refine ⟨om,om,fun h1=>?_,fun h1=>?_⟩
 have e:-b=(n - b % n)+n*(-(b/n) - 1):=by
  have:=Int.mul_ediv_add_emod b n;rw [Int.mul_sub,Int.mul_neg];omega
 have c:(-b) % n=n - b % n:=by
  rw [e,Int.add_mul_emod_self_left,Int.emod_eq_of_lt om om]
 rw [c];omega;have i:b % n=0:=om;have s:(-b) % n=0:=Int.emod_eq_zero_of_dvd (Int.dvd_neg.2 (Int.dvd_of_emod_eq_zero i));omega
theorem qC (a n:Int) (w:World) (h:1<=n) (h2:n<=9223372036854775807):
 Calls prog 235 #[a,n] w fun e w'=>e= .returned (.int .i64 (a % n))/\w=w':=by
 by_cases ha:0<=a
 . have l:0<=a % n:=Yg _ om
   have i:a % n<n:=Ye _ om;go_in
   go_wp2
   go_ret;exact ⟨rfl,rfl⟩
 obtain ⟨j,t2,t3,t4⟩:=zFz (a:=a) (n:=n) om h;have c:=Jh t3;have b:=Jh t4;clear t3 t4;by_cases hr:a.tmod n<0
 . go_in
   go_wp2
   go_ret;exact ⟨yf (c.Z hr),rfl⟩
 go_in
 go_wp2
 go_ret;exact ⟨yf (b.Z hr),rfl⟩
theorem wN (a n:Int) (w:World) (h:1<=n) (h2:n<=9223372036854775807):
 Calls prog 144 #[a,n] w fun e w'=>e= .returned (.int .i64 (a % n))/\w=w':=by
 by_cases ha:0<=a
 . have l:0<=a % n:=Yg _ om
   have i:a % n<n:=Ye _ om;go_in
   go_wp2
   go_ret;exact ⟨rfl,rfl⟩
 obtain ⟨j,t2,t3,t4⟩:=zFz (a:=a) (n:=n) om h;have c:=Jh t3;have b:=Jh t4;clear t3 t4;by_cases hr:a.tmod n<0
 . go_in
   go_wp2
   go_ret;exact ⟨yf (c.Z hr),rfl⟩
 go_in
 go_wp2
 go_ret;exact ⟨yf (b.Z hr),rfl⟩
theorem uf (W H:Int) (n:Nat) (w:World) (l:yi W H=true) (hn:(n:Int)=W*H):
 Calls prog 142 #[W,H] w fun e w'=> ∃g,e= .returned (.agg #[W,H, .slice (some ⟨g,0,none⟩) n n])/\w.heap.size<=g/\Own w' g n n (List.replicate n 0)/\Below w w w':=by
 obtain ⟨b1,b2,b3,s,t,q⟩:=xA l;have c:=Jh hn;have i:n<=256:=om;clear hn;go_in;go_wp2_with (at_make;refine jU _ rfl _ _ rfl .i64 .i64 (W*H) (W*H) n rfl rfl c.Z.symm c.Z.symm om ?_;intro M b);have j:=Jh b;clear b;refine bodyPost_ret (v:= .agg #[W,H, .slice ↑(w.heap.size+1) n n]) (Jr results142) rfl ⟨w.heap.size+1,rfl,om,?_,?_⟩;exact j.Z.own' _ sI;exact nV
theorem uO (W H:Int) (ad:Option Addr) (n cap:Nat) (xs:List Int) (x y:Int) (w:World) (hl:xs.length=n) (ha:Rd w ad xs) (hn:(n:Int)=W*H) (j:1<=W) (l:1<=H) (hm:n<=256) (s:W<=256) (hH2:H<=256):
 Calls prog 194 #[.agg #[W,H, .slice ad n cap],x,y] w fun e w'=>e= .returned ↑(jA W H xs x y)/\Below w w w':=by
 obtain ⟨z,i2,i3,i4⟩:=ZA hn j l x y;obtain ⟨A,u⟩:=Ze x j;obtain ⟨E,D⟩:=Ze y l;obtain ⟨t,I,i,c,b⟩:=(ha.alloc (.cells #[W,H, .slice ad n cap] 32)).at om;have hc:=b (y % H*W+x % W).toNat om;have q:t<w.heap.size+1:=by simpa using c
 subst i;have F:=Jh hn;have G:=Jh hl;clear b ha hn hl c;go_in;go_wp2_with fail
 go_quiet ((refine Calls.quiet_of_same ((qC _ _ _ ?_ ?_).mono (fun e w' h=>⟨h.1,h.2.symm⟩)) <;>omega))
 go_wp2_with fail;go_ret;exact ⟨rfl,nJ.trans (Joins.below_draws _ _ _)⟩
theorem vG (W H:Int) (ad:Option Addr) (n cap:Nat) (xs:List Int) (x y:Int) (w:World) (hl:xs.length=n) (ha:Rd w ad xs) (hn:(n:Int)=W*H) (j:1<=W) (l:1<=H) (hm:n<=256) (s:W<=256) (hH2:H<=256):
 Calls prog 88 #[.agg #[W,H, .slice ad n cap],x,y] w fun e w'=>e= .returned ↑(jA W H xs x y)/\Below w w w':=by
 obtain ⟨z,i2,i3,i4⟩:=ZA hn j l x y;obtain ⟨A,u⟩:=Ze x j;obtain ⟨E,D⟩:=Ze y l;obtain ⟨t,I,i,c,b⟩:=(ha.alloc (.cells #[W,H, .slice ad n cap] 32)).at om;have hc:=b (y % H*W+x % W).toNat om;have q:t<w.heap.size+1:=by simpa using c
 subst i;have F:=Jh hn;have G:=Jh hl;clear b ha hn hl c;go_in;go_wp2_with fail
 go_quiet ((refine Calls.quiet_of_same ((wN _ _ _ ?_ ?_).mono (fun e w' h=>⟨h.1,h.2.symm⟩)) <;>omega))
 go_wp2_with fail;go_ret;exact ⟨rfl,nJ.trans (Joins.below_draws _ _ _)⟩
theorem OwnA.toRow (h:OwnA w B ad n cap xs):w.ownsRow B 3 1 (.slice ad n cap) n (xs.map (Value.int .i64)):=by
 rcases h with ⟨rfl,rfl,rfl,rfl⟩ | ⟨g,rfl,c,hl,b,hg,h1,h2,h3,h4⟩
 exact ⟨rfl, .inl ⟨rfl,rfl⟩⟩;exact ⟨by simp [hl], .inr ⟨g,cap,b,rfl,c,hg,h1,h2,om,by rw [Nat.mul_one];exact h4⟩⟩
theorem OwnA.ofRow (h:w.ownsRow B 3 1 v n (xs.map (Value.int .i64))): ∃ad cap,v= .slice ad n cap/\OwnA w B ad n cap xs:=by
 obtain ⟨hl,h⟩:=h;simp at hl;rcases h with ⟨rfl,rfl⟩ | ⟨g,cap,b,rfl,c,hg,h1,h2,h3,h4⟩
 obtain rfl:xs=[]:=List.eq_nil_of_length_eq_zero hl;exact ⟨Option.none,0,rfl,oN⟩;exact ⟨_,cap,rfl, .inr ⟨g,rfl,c,hl,b,hg,h1,h2,om,by rw [Nat.mul_one] at h4;exact h4⟩⟩
theorem ud (ad:Option Addr) (n cap:Nat):(Value.slice ad n cap).ownBlock=zL ad:=by cases ad <;>rfl
theorem vH (w:World) {rest:List Oper}
 (l:o.guard=none) (s x:Operand) (t:o.op= .call {callee:= .builtin .append,args:=#[s,x],argTypes:=#[22,22]})
 (B n cap:Nat) (ad:Option Addr) (xs:List Int) (J:a.eval s= .slice ad n cap) (F:OwnA w B ad n cap xs) (g:Nat) (v:Int) (E:a.eval x= .slice ↑g 1 1)
 (hc:w.cell? g=some ↑v) (hn:n<=1048576) (D:B<=w.heap.size)
 (hK: ∀c b w',OwnA w' B c (n+1) b (xs++ [v])->w.grownBy w' (zL ad)->wpList prog ops Q rest (a.put o.dst (.slice c (n+1) b)) w'):
 wpList prog ops Q (o::rest) a w:=by
 obtain ⟨i,hi,z,q,y⟩:=info_parts qD;refine wpList_append_own w l s x 22 t B 3 i ↑Z0 1 8 underlying22 hi z q y rfl dC _ n (xs.map (Value.int .i64)) J F.toRow ↑g 1 1 [↑v] E rfl ?_ ?_ (by unfold maxLen;omega) om D ?_;intro j u e
 match j,e with
 | 0,e=>simp at e;subst e;simpa [Addr.add] using hc
 intro u A;simp at A;subst A;rfl;intro I w' h2 h3 _;have h4:w'.ownsRow B 3 1 I (n+1) ((xs++ [v]).map (Value.int .i64)):=by simpa using h2
 obtain ⟨c,b,rfl,G⟩:=OwnA.ofRow h4;rw [ud] at h3;exact hK c b w' G h3
theorem OwnA.other {w:World} {B n cap:Nat} {ad:Option Addr} {xs:List Int} (h:OwnA w B ad n cap xs) {a:Addr} (ha:a.block<B) (u:Value):OwnA (w.setCell a u) B ad n cap xs:=by
 rcases h with h | ⟨g,h1,h2,h⟩
 exact .inl h;exact .inr ⟨g,h1,h2,h.other om u⟩
theorem jI (e:OwnA wr B ad n cap xs) (hg:(wr.alloc O).grownBy w1 (zL ad)) (hb:Blk wr g T cs) (h:g<B):Blk w1 g T cs:=
 (hb.alloc O).zG hg (fun b c=>by have:=e.bd b c;omega)
theorem vV (b:OwnA wr B ad n cap xs) (hg:(wr.alloc O).grownBy w1 (zL ad)) (hb:Below C w0 wr) (h:C<B) (c:C<=wr.heap.size):Below C w0 w1:=
 (hb.alloc c O).grown hg sO (fun k hk=>by have:=b.bd k hk;omega)
theorem jG (n:Nat) (f:Nat->Int):gen n f++ [f n]=gen (n+1) f:=by
 simp [gen,List.range_succ]
def zGN:Array Value:=(List.replicate 256 (Value.int .i64 0)).toArray
theorem zFb (w:World):(Instr.alloc 165 true (.tuple #[])).run prog w= .ok (.pointer ↑w) (w.alloc (.cells zGN 165)):=zK
theorem Qc (w:World) {rest:List Oper}
 (hg:o.guard=none) (b:o.op=Op.alloc 165)
 (hK: ∀C:Array Value,C=((List.replicate 256 0).map (Value.int .i64)).toArray->wpList prog ops Q rest (a.put o.dst (.pointer ↑w)) (w.alloc (.cells C 165))):
 wpList prog ops Q (o::rest) a w:=by
 refine wpList_plain hg fun K c=>?_;have hr:=zFb w;unfold Oper.wp;simp [execOp,b,hr,Result.andThen];exact c _ _ (hK _ (by unfold zGN;rw [List.map_replicate]))
section
variable {P : Program} (w : World)
open Op in
theorem zAH (d N:Nat) (t e:TypeId) (xs ys:List Int) (i:TypeInfo) (ht:P.underlying t=some (.array N e)) (he:P.underlying e=some (.int .i64)) (hi:P.info? e=some i) (hs:i.size=1)
 (hx:xs.length=N) (hy:ys.length=N):
 (Op.equalIn (d+2) t (.agg (xs.map (Value.int .i64)).toArray) (.agg (ys.map (Value.int .i64)).toArray)).run P w= .ok (decide (xs=ys)) w:=by
 have hone: ∀(x y:Int) (w:World),(Op.equalIn (d+1) e ↑x ↑y).run P w= .ok (x==y) w:=by
  intro x y w;simp [Op.equalIn,run_underlying he]
 have hsz: ∀w:World,(sizeOf e).run P w= .ok 1 w:=by
  intro w;simp [sizeOf,typeInfo,hi,hs]
 have hag: ∀w:World,(isAgg e).run P w= .ok false w:=by
  intro w;simp [isAgg,run_underlying he]
 have hp: ∀(zs:List Int) (j:Nat) (w:World),j<zs.length->(part e (zs.map (Value.int .i64)).toArray (j*1)).run P w= .ok ↑(zs.getD j 0) w:=by
  intro zs j w hj;simp [part,hag,hj]
 have key: ∀(k s:Nat),s+k=N->xs.take s=ys.take s->
  (forIn (List.range' s k) ((none,()):Option Bool × Unit) (fun i (_:Option Bool × Unit)=>(do
   let a<-part e (xs.map (Value.int .i64)).toArray (i*1)
   let b<-part e (ys.map (Value.int .i64)).toArray (i*1)
   let c<-equalIn (d+1) e a b
   if (!c)=true then pure (ForInStep.done (some false,())) else pure (ForInStep.yield (none,())):Sem (ForInStep (Option Bool × Unit))))).run P w= .ok (if xs=ys then (none,()) else (some false,())) w:=by
  intro k
  induction k with
  | zero=>
   intro s hs ht
   have e1:xs=ys:=by
    rwa [Yk om,Yk om] at ht
   rw [if_pos e1];simp
  | succ k ih=>
   intro s hs ht;rw [List.range'_succ,List.forIn_cons];simp only [Sem.run_bind,hp xs s _ om,hp ys s _ om,Result.andThen_ok,hone];by_cases h:xs.getD s 0=ys.getD s 0
   rw [beq_iff_eq.2 h];simp only [Bool.not_true,Bool.false_eq_true,if_false,Sem.run_pure,Result.andThen_ok];exact ih (s+1) om (zFx om om ht h);have h2:(xs.getD s 0==ys.getD s 0)=false:=by simpa using h
   rw [h2];have h3: ¬xs=ys:=fun he=>h (by rw [he]);rw [if_neg h3];simp
 rw [Op.equalIn];simp only [Sem.run_bind,run_underlying ht,Result.andThen_ok,hsz];simp only [Std.Legacy.Range.forIn_eq_forIn_range',Std.Legacy.Range.size,Nat.sub_zero,Nat.add_sub_cancel,Nat.div_one];have hk:=key N 0 om rfl;rw [hk];by_cases h:xs=ys
 simp [h];simp [h]
end
def qq (zs:List Int):Array Value:=(zs.map (Value.int .i64)).toArray
theorem zDX (b:List Int):(qq b).size=b.length:=by simp [qq]
theorem zFZ (b:List Int) (j:Nat) (v:Int):(qq b).setIfInBounds j ↑v=qq (b.set j v):=by
 unfold qq;rw [List.setIfInBounds_toArray,List.map_set]
theorem zIF (b:List Int) (j:Nat) (h:j<b.length):(qq b)[j]? =some (.int .i64 (b[j]?.getD 0)):=by
 simp [qq,h]
theorem zAQ:prog.underlying 165=some (.array 256 3):=zK
theorem zHq:(prog.info? 165).map (·.size)=some 256:=zK
theorem zJv (xs c:List Int) (j:xs.length=256) (e:c.length=256) (b:Bool) (hb:decide (xs=c)=b): ∀w,(Op.equalIn 10000 165 (.agg (qq xs)) (.agg (qq c))).run prog w= .ok b w:=by
 intro w;obtain ⟨i,hi,_,l,_⟩:=info_parts qD;rw [<-hb];exact zAH w 9998 256 165 3 xs c i zAQ underlying3 hi l j e
theorem Kw (xs:List Int) (k:Nat):(us xs k).length=256:=zZ _ _
theorem Xm (k:Nat):(vT k).length=256:=zZ _ _
theorem zKj (ad:Option Addr) (n cap:Nat) (xs:List Int) (w:World) (hn:xs.length=n) (ha:Rd w ad xs) (hm:n<=256):
 Calls prog 114 #[.slice ad n cap] w (zR (.bool (vd xs)) w):=by
 have b:=Jh hn;have HA:=Jh ha;clear hn ha;go_in
 iterate 11 go_step
 refine Qc _ rfl rfl ?_;intro X l;refine Qc _ rfl rfl ?_;intro M t;have E:Hd (X=qq (us xs 0)):=Jh (by rw [zGT];exact l);have z:Hd (M=qq (vT 0)):=Jh (by rw [zFP];exact t);clear l t;go_wp2_with fail
 go_loopw [9] (fun i wr=> ∃k:Nat,k<=n/\i=↑k/\Hd (inR (xs.take k) n=true)/\Blk wr w 165 (qq (us xs k))/\Blk wr (w.heap.size+1) 165 (qq (vT k))/\Below w w wr) (fun i _=>n - (intOf i).toNat)
 case atStart=>exact ⟨0,nZ,rfl,rfl,by rw [<-E.Z];exact (Blk.new _ _ _).alloc _,by rw [<-z.Z];exact Blk.zD _ _ sI,nV⟩
 obtain ⟨k,hk,rfl,J,q,e,hw⟩:=hrel;have u:=Jh q;have s:=Jh e;have x:=Jh hw;have z1:=u.Z.lt;have z2:=s.Z.lt;clear q e hw;by_cases D:k<n
 . obtain ⟨R,U,y,Y,j⟩:=(HA.Z.below x.Z).at (oh b)
   subst y;have h1:=j k (oh b);clear j;by_cases hv:0<=xs[k]?.getD 0/\xs[k]?.getD 0<(n:Int)
   . obtain ⟨r,hr⟩: ∃r:Nat,xs[k]?.getD 0=(r:Int):=⟨(xs[k]?.getD 0).toNat,om⟩
     have V:wr.cell? (R,U+k)=some ↑(r:Int):=by rw [<-hr];simpa [List.getD] using h1
     have A:=Jh hr;have N:(r:Int)<n:=om;have c:r<256:=om;clear h1 hr hv;have t2:=KW (r:Int) xs k
     have c1:wr.cell? (w,r)=some ↑(zV (r:Int) (xs.take k):Int):=by
      rw [u.Z.cell,zIF _ _ (by rw [Kw];omega),zCi _ _ _ c]
     have f1:=u.Z.frozen r
     have c2:wr.cell? (w.heap.size+1,k)=some (.int .i64 ((vT k)[k]?.getD 0)):=by
      rw [s.Z.cell,zIF _ _ (by rw [Xm];omega)]
     have f2:=s.Z.frozen k;go_wp2_with fail;go_roundw
     case rel=>
      refine ⟨k+1,om,by go_num,zFC (oh b) J.Z (by rw [A.Z];omega) (by rw [A.Z];omega),?_,?_,(x.Z.setCell sI _).setCell sI _⟩;have h:=(u.Z.set r (.int .i64 ((zV (r:Int) (xs.take k):Int)+1))).other (a:=↑(w.heap.size+1,k)) sI ↑Z1;rw [zFZ,zGS _ _ _ (oh b) c A.Z] at h;exact h;have h:=(s.Z.other (a:=↑(w,r)) sI (.int .i64 ((zV (r:Int) (xs.take k):Int)+1))).set k ↑Z1;rw [zFZ,zFO _ om] at h;exact h
     exact Jm
   have L:=Jh (zBO b.Z k D hv);go_wp2_with fail
   all_goals (go_ret;first | exact ⟨zX L.Z.symm,x.Z⟩ | (exfalso;exact hv ⟨om,om⟩))
 obtain rfl:n=k:=om
 have F:Hd (inR xs n=true):=by
  have h:=J.Z;rw [Yk (oh b)] at h;exact h
 have he:=zJv (us xs n) (vT n) (Kw _ _) (Xm _) _ (zPq b.Z hm F.Z);have I:(prog.info? 165).map (·.size)=some (qq (us xs n)).size:=by rw [zDX,Kw];exact zHq
 have G:(prog.info? 165).map (·.size)=some (qq (vT n)).size:=by rw [zDX,Xm];exact zHq
 have E1:=Jh I;have E2:=Jh G;clear I G;go_wp2_with (first | (refine wpList_load_row rfl 165 (.tmp 3) rfl w rfl 165 _ (0,0) _ u.Z zAQ rfl E1.Z ?_) | (refine wpList_load_row rfl 165 (.tmp 4) rfl (w.heap.size+1) rfl 165 _ (0,0) _ s.Z zAQ rfl E2.Z ?_));go_ret;exact ⟨rfl,x.Z⟩
theorem yn (W H:Int) (ad:Option Addr) (n cap:Nat) (xs:List Int) (w:World) (hn:xs.length=n) (ha:Rd w ad xs) (hl:n<=9223372036854775807):
 Calls prog 71 #[.agg #[W,H, .slice ad n cap]] w (zR (.bool (zq W H xs)) w):=by
 have l:=Jh hn;have s:=Jh ha;clear hn ha;by_cases c:yi W H=true
 case neg=>
  have i:yi W H=false:=by simpa using c
  rw [zDF i];clear c;go_in;go_wp2_with (go_at_call 113;refine (jo _ _ _).mono ?_;rintro e w' ⟨rfl,rfl⟩);go_ret;exact ⟨rfl,nJ⟩
 obtain ⟨b1,b2,b3,x,y,u⟩:=xA c;by_cases b:(n:Int)=W*H
 case neg=>
  rw [zDG l.Z b];have q:((n:Int)==W*H)=false:=by simpa using b
  clear b;go_in;go_wp2_with (go_at_call 113;refine (jo _ _ _).mono ?_;rintro e w' ⟨rfl,rfl⟩);go_ret;exact ⟨rfl,nJ⟩
 rw [Qt l.Z c b];have j:n<=256:=om;have q:((n:Int)==W*H)=true:=by simpa using b
 clear b;go_in;go_wp2_with (go_at_call 113;refine (jo _ _ _).mono ?_;rintro e w' ⟨rfl,rfl⟩);refine (zKj _ _ _ xs _ l.Z (s.Z.below nJ) j).mono ?_;rintro e w1 ⟨rfl,hb⟩;have t:=Jh (zI nJ hb);clear hb;go_wp2_with fail;go_ret;exact ⟨rfl,t.Z⟩
def JY (bs:List Bool):Array Value:=(bs.map Value.bool).toArray
theorem zOJ (b:List Bool) (j:Nat) (v:Bool):(JY b).setIfInBounds j (.bool v)=JY (b.set j v):=by
 unfold JY;rw [List.setIfInBounds_toArray,List.map_set]
theorem zNR:(prog.info? 4).map (fun i=>(i.zero,i.size,i.bytes))=some (some (.bool false),1,1):=zK
theorem zOl (w:World) {rest:List Oper}
 (hg:o.guard=none) (l c:Operand) (e:o.op=Op.makeSlice 112 l c) (u t:IntKind) (L C:Int) (n:Nat) (hl:a.eval l= .int u L) (hc:a.eval c= .int t C) (hL:L=(n:Int)) (x:C=(n:Int)) (hn:n<=17592186044416)
 (hK: ∀M:Array Value,M=JY (List.replicate n false)->wpList prog ops Q rest (a.put o.dst (.slice ↑w n n)) (w.alloc (.cells M 4))):
 wpList prog ops Q (o::rest) a w:=by
 obtain ⟨i,hi,s,q,j⟩:=info_parts zNR;refine wpList_plain hg fun K b=>?_;subst hL;subst x;have hr:=run_make (P:=prog) w 112 4 i (.bool false) underlying112 hi s u t n n om (Int.le_refl _) (by rw [j];omega) om;simp only [Yu,q,Nat.mul_one] at hr
 have hm:madeCells #[.bool false] n=JY (List.replicate n false):=by
  apply Array.ext';rw [toList_madeCells_one];simp [JY]
 unfold Oper.wp;simp only [Value.cells] at hr;simp [execOp,e,hl,hc,hr,Result.andThen];exact b _ _ (hK _ hm)
def qx (xs:List Int) (n k:Nat):List Bool:=(List.range n).map (fun (r:Nat)=>decide ((r:Int) ∈ xs.take k))
theorem zFf (xs:List Int) (n:Nat):qx xs n 0=List.replicate n false:=by
 unfold qx;apply List.ext_getElem?;intro i;by_cases h:i<n
 simp [h];simp [h]
theorem zJK (xs:List Int) (n k r:Nat) (h:r<n):(JY (qx xs n k))[r]? =some (.bool (decide ((r:Int) ∈ xs.take k))):=by
 simp [JY,qx,h]
theorem zFe (xs:List Int) (n k r:Nat) (hk:k<xs.length) (he:xs[k]?.getD 0=(r:Int)):(qx xs n k).set r true=qx xs n (k+1):=by
 simp only [Ya hk,Yz] at he;unfold qx;apply List.ext_getElem?;intro i;rw [List.getElem?_set,Ym hk,he];by_cases h:r=i
 subst h;by_cases h2:r<n
 simp [h2];simp [h2];rw [if_neg h];by_cases h2:i<n
 have: ¬(i:Int)=(r:Int):=om;simp [h2,this];simp [h2]
theorem xW (W H:Int) (ad:Option Addr) (n cap:Nat) (xs:List Int) (w:World) (hn:xs.length=n) (ha:Rd w ad xs) (hl:n<=9223372036854775807):
 Calls prog 46 #[.agg #[W,H, .slice ad n cap]] w (zR (.bool (zq W H xs)) w):=by
 have j:=Jh hn;have HA:=Jh ha;clear hn ha;by_cases t:yi W H=true
 case neg=>
  have E:yi W H=false:=by simpa using t
  rw [zDF E];go_in;go_wp2_with (go_at_call 85;refine (XZ _ _ _ t).mono ?_;rintro e w' ⟨rfl,rfl⟩);go_ret;exact ⟨rfl,nJ⟩
 obtain ⟨b1,b2,b3,b4,b5,b6⟩:=xA t;by_cases s:(n:Int)=W*H
 case neg=>
  rw [zDG j.Z s];have J:((n:Int) !=W*H)=true:=by simpa using s
  clear s;go_in;go_wp2_with (go_at_call 85;refine (qr _ _ _ t).mono ?_;rintro e w' ⟨rfl,rfl⟩);go_ret;exact ⟨rfl,nJ⟩
 rw [Qt j.Z t s];have Y:n<=256:=om;have b0:1<=n:=om;have J:((n:Int) !=W*H)=false:=by simpa using s
 clear s;go_in;go_wp2_with (first | (go_at_call 85;refine (qr _ _ _ t).mono ?_;rintro e w' ⟨rfl,rfl⟩) | (at_make;refine zOl _ rfl _ _ rfl .i64 .i64 n n n rfl rfl rfl rfl om ?_;intro M hM))
 go_loopw [30] (fun i wr=> ∃k:Nat,k<=n/\i=↑k/\Hd (inR (xs.take k) n=true)/\Hd ((xs.take k).Nodup)/\Blk wr (w.heap.size+1) 4 (JY (qx xs n k))/\Below (w.heap.size+1) (w.alloc (.cells #[W,H, .slice ad n cap] 32)) wr) (fun i _=>n - (intOf i).toNat)
 case atStart=>exact ⟨0,nZ,rfl,rfl,List.nodup_nil,by rw [zFf];exact Blk.zD _ _ sI,by exact bR.alloc (by first | exact nI | simp) _⟩
 obtain ⟨k,hk,rfl,N,L,y,hw⟩:=hrel;have A:=Jh y;have D:=Jh hw;have z1:=A.Z.lt;have KP:=Jh ((Blk.new w 32 #[W,H, .slice ad n cap]).below D.Z sI);obtain ⟨l1,c0,c1,c2⟩:=KP.Z.c3;have l:=Jh ((Joins.below_alloc1 w _).trans (D.Z.mono sI));clear y hw;by_cases I:k<n
 . obtain ⟨U,V,G,b7,u⟩:=(HA.Z.below l.Z).at (oh j)
   subst G;have h1:=u k (oh j);clear u;by_cases hv:0<=xs[k]?.getD 0/\xs[k]?.getD 0<(n:Int)
   . obtain ⟨r,hr⟩: ∃r:Nat,xs[k]?.getD 0=(r:Int):=⟨(xs[k]?.getD 0).toNat,om⟩
     have X:wr.cell? (U,V+k)=some ↑(r:Int):=by rw [<-hr];simpa [List.getD] using h1
     have z:=Jh hr;have R:(r:Int)<n:=om;have x:r<n:=om;have b:decide (0<=(r:Int)/\(r:Int)<=(n:Int) - 1)=true:=by rw [decide_eq_true_iff];omega
     clear h1 hr hv;have d1:=(A.Z.cell r).trans (zJK xs n k r x);have f1:=A.Z.frozen r;by_cases hm:(r:Int) ∈ xs.take k
     . have c:decide ((r:Int) ∈ xs.take k)=true:=by simpa using hm
       rw [c] at d1;have q:=Jh hm;clear hm c;go_wp2_with fail;refine (uy _ _ _ _).mono ?_;rintro e w' ⟨rfl,rfl⟩;rw [b];clear b;go_wp2_with fail;go_ret;exact ⟨zX (zBN (zDu (k:=k) (oh j) (by rw [z.Z];exact q.Z))).symm,l.Z⟩
     have c:decide ((r:Int) ∈ xs.take k)=false:=by simpa using hm
     rw [c] at d1;have q:=Jh hm;clear hm c;go_wp2_with fail;refine (uy _ _ _ _).mono ?_;rintro e w' ⟨rfl,rfl⟩;rw [b];clear b;go_wp2_with fail;go_roundw
     case rel=>
      refine ⟨k+1,om,by go_num,zFC (oh j) N.Z (by rw [z.Z];omega) (by rw [z.Z];omega),zBF (oh j) L.Z (by rw [z.Z];exact q.Z),?_,D.Z.setCell sI _⟩;have h:=A.Z.set r (.bool true);rw [zOJ,zFe _ _ _ _ (oh j) z.Z] at h;exact h
     exact Jm
   have F:=Jh (zBO j.Z k I hv);have b:decide (0<=xs[k]?.getD 0/\xs[k]?.getD 0<=(n:Int) - 1)=false:=by rw [decide_eq_false_iff_not];omega
   clear hv;go_wp2_with fail;refine (uy _ _ _ _).mono ?_;rintro e w' ⟨rfl,rfl⟩;rw [b];clear b;go_wp2_with fail;go_ret;exact ⟨zX F.Z.symm,l.Z⟩
 obtain rfl:n=k:=om
 have F:Hd (vd xs=true):=by
  have h:=N.Z;have h2:=L.Z;rw [Yk (oh j)] at h h2;exact Jh (Vu j.Z h h2)
 go_wp2_with fail;go_ret;exact ⟨zX F.Z.symm,l.Z⟩
end
end Go.Proofs.YtlenfgdjdianiaaGreatDoor
