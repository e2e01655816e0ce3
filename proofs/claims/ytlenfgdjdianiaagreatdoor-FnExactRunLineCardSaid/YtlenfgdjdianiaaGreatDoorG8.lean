/- Facts on which this claim rests, 8. -/
import Derived.Deep.DeepCutAuto
import Derived.Test.YtlenfgdjdianiaaGreatDoorG6
set_option linter.all false
set_option maxHeartbeats 6400000
namespace Go.Proofs.YtlenfgdjdianiaaGreatDoor
section
variable {H W a b b' u v x : Int} {c c' : Nat → Int} {i k m n : Nat} {xs : List Int}
open Tq Go.Proofs.Tryz
def yT (d a:Int):Int:=min (d % a) (a - d % a)
def ZM (W H:Int) (i k:Nat):Int:=yT ((i:Int) % W - (k:Int) % W) W*yT ((i:Int) % W - (k:Int) % W) W+yT ((i:Int)/W - (k:Int)/W) H*yT ((i:Int)/W - (k:Int)/W) H
theorem uR {d:Int} (ha:1<=a):0<=yT d a/\yT d a<=a:=by
 have h1:=Yg d (show a≠0 by omega);have h2:=Ye d (show 0<a by omega);unfold yT;omega
theorem Rq {d:Int} (ha:1<=a):yT (-d) a=yT d a:=by
 have h1:=Yg d (show a≠0 by omega);have h2:=Ye d (show 0<a by omega);have h3:=Yg (-d) (show a≠0 by omega);have h4:=Ye (-d) (show 0<a by omega)
 have e:(d % a+(-d) % a) % a=0:=by
  rw [<-Int.add_emod];simp [Int.add_right_neg]
 have g:d % a+(-d) % a=0\/d % a+(-d) % a=a:=by
  by_cases h:d % a+(-d) % a<a
  left;rw [Int.emod_eq_of_lt om h] at e;exact e;right;have f:(d % a+(-d) % a - a) % a=0:=by rw [Int.sub_emod_right];exact e
  rw [Int.emod_eq_of_lt om om] at f;omega
 unfold yT;omega
theorem ME (g:1<=W) (f:1<=H) (i k:Nat):ZM W H i k=ZM W H k i:=by
 unfold ZM;rw [show (i:Int) % W - (k:Int) % W=-((k:Int) % W - (i:Int) % W) by omega,Rq g,show (i:Int)/W - (k:Int)/W=-((k:Int)/W - (i:Int)/W) by omega,Rq f]
theorem UA (h:0<=x):0<=x*x:=Int.mul_nonneg h h
def wtG (W H:Int) (i k:Nat):Int:=4096/(1+ZM W H i k)
def jI (W H:Int) (xs:List Int) (i:Nat):Nat->Int
 | 0=>0
 | k+1=>jI W H xs i k+(if xs.getD k 0=1 then wtG W H i k else 0)
def yK (W H:Int) (xs:List Int) (i:Nat):Int:=jI W H xs i xs.length
def zx (W H:Int) (xs:List Int):Bool:=zT W H xs 1 && decide (xs.length<=256)
def xk (xs:List Int) (v:Int) (c:Nat->Int):Nat->Int
 | 0=>-1
 | k+1=>if xs.getD k 0=v/\(xk xs v c k<0\/c k<c (xk xs v c k).toNat) then (k:Int) else xk xs v c k
def qC (W H:Int) (xs:List Int):Int:=xk xs 1 (fun j=>-(1*yK W H xs j)) xs.length
def wH (W H:Int) (xs:List Int):Int:=xk xs 0 (fun j=>-(-1*yK W H xs j)) xs.length
def jw (W H:Int) (xs:List Int):List Int:=xs.set (qC W H xs).toNat 0
def Zu (W H:Int) (xs:List Int):List Int:=xs.set (wH W H xs).toNat 1
def kJ (W H:Int) (xs:List Int):List Int × Bool:=
 if qC W H xs<0 then (xs,false) else (Zu W H (jw W H xs),decide (wH W H (jw W H xs)≠qC W H xs))
def jB (W H:Int):Nat->List Int->List Int × Nat
 | 0,xs=>(xs,0)
 | m+1,xs=>if (kJ W H xs).2=true then ((jB W H m (kJ W H xs).1).1,(jB W H m (kJ W H xs).1).2+1) else (xs,0)
def xA (W H:Int) (xs:List Int) (d:Nat) (rs:List Int):Nat->List Int × List Int
 | 0=>(xs,rs)
 | k+1=>(jw W H (xA W H xs d rs k).1,(xA W H xs d rs k).2.set (qC W H (xA W H xs d rs k).1).toNat ((d:Int) - 1 - k))
def upG (W H:Int) (xs:List Int) (d:Nat) (rs:List Int):Nat->List Int × List Int
 | 0=>(xs,rs)
 | k+1=>(Zu W H (upG W H xs d rs k).1,(upG W H xs d rs k).2.set (wH W H (upG W H xs d rs k).1).toNat ((d:Int)+k))
def uO (W H:Int) (xs:List Int):List Int:=
 (upG W H xs (zZ 1 xs) (xA W H xs (zZ 1 xs) (List.replicate xs.length 0) (zZ 1 xs)).2 (xs.length - zZ 1 xs)).2
def Ri (W H:Int) (xs:List Int):Pic × Bool:=if zx W H xs=true then (⟨W,H,(kJ W H xs).1⟩,(kJ W H xs).2) else (⟨W,H,xs⟩,false)
def vY (W H:Int) (xs:List Int) (m:Int):Pic × Int:=if zx W H xs=true/\0<=m/\m<=64 then (⟨W,H,(jB W H m.toNat xs).1⟩,((jB W H m.toNat xs).2:Int)) else (⟨W,H,xs⟩,0)
def uM (W H:Int) (xs:List Int):Mat × Bool:=if zx W H xs=true then (⟨W,H,uO W H xs⟩,true) else (qh,false)
def yO (W H e:Int):Pic × Bool:=if yV W H=true/\W*H<=256/\1<=e/\e<=100 then (⟨W,H,gen (W*H).toNat (fun i=>if (i:Int)*7 % e=0 then 1 else 0)⟩,true) else (xF,false)
theorem jR (hn:xs.length=n) (h:zx W H xs=true):1<=W/\W<=64/\1<=H/\H<=64/\(n:Int)=W*H/\n<=256/\1<=n/\xM xs 1=true/\yV W H=true:=by
 unfold zx at h;simp only [Bool.and_eq_true,decide_eq_true_eq] at h;obtain ⟨h1,h2⟩:=h;obtain ⟨f,j,hi⟩:=yu hn h1;obtain ⟨b1,b2,b3,g,l,q⟩:=yP f;exact ⟨b1,b2,b3,g,j,om,om,hi,f⟩
theorem sF (hn:xs.length=n) (g:yV W H=true) (f:(n:Int)=W*H) (hi:xM xs 1=true) (h:n<=256):zx W H xs=true:=by
 unfold zx;rw [KU hn g f,hi];simp;omega
def Xg (xs:List Int):Prop:= ∀k,k<xs.length->xs.getD k 0=0\/xs.getD k 0=1
theorem wX (h:xM xs 1=true):Xg xs:=fun k hk=>by
 have:=jY h k hk;simp only [Yh];omega
theorem pI (h:Xg xs):xM xs 1=true:=by
 unfold xM;rw [Yp];intro v hv;obtain ⟨k,hk,rfl⟩:=List.mem_iff_getElem.1 hv;have:=h k hk;simp only [List.getD,Ya hk,Yz] at this;simp;omega
theorem jo (h:i<xs.length) (v:Int):(xs.set i v).getD i 0=v:=by
 simp [List.getD,List.getElem?_set,h]
theorem jf (h:i≠k) (v:Int):(xs.set i v).getD k 0=xs.getD k 0:=by
 simp [List.getD,List.getElem?_set,h]
theorem Xg.set {xs:List Int} (h:Xg xs) (i:Nat) {v:Int} (hv:v=0\/v=1):Xg (xs.set i v):=fun k hk=>by
 rw [List.length_set] at hk;by_cases e:i=k
 subst e;rw [jo hk];exact hv;rw [jf e];exact h k hk
theorem Am (h:zx W H xs=true) (i:Nat) (hv:v=0\/v=1):zx W H (xs.set i v)=true:=by
 obtain ⟨_,_,_,_,f,g,_,j,l⟩:=jR rfl h;exact sF (n:=xs.length) sI l f (pI ((wX j).set i hv)) g
theorem iB (g:1<=W) (f:1<=H) (i k:Nat):0<=ZM W H i k:=by
 unfold ZM;have:=UA (uR (d:=(i:Int) % W - (k:Int) % W) g).1;have:=UA (uR (d:=(i:Int)/W - (k:Int)/W) f).1;omega
theorem IU (g:1<=W) (f:1<=H) (i k:Nat):0<=wtG W H i k/\wtG W H i k<=4096:=by
 have h:=iB g f i k;unfold wtG;exact ⟨Yw om om,Int.ediv_le_self _ om⟩
theorem zCi (g:1<=W) (f:1<=H) (i k:Nat):wtG W H i k=wtG W H k i:=by unfold wtG;rw [ME g f]
theorem Fw (g:1<=W) (f:1<=H) (xs:List Int) (i k:Nat):0<=jI W H xs i k/\jI W H xs i k<=4096*k:=by
 induction k with
 | zero=>simp [jI]
 | succ k j=>
  have:=IU g f i k;unfold jI;split <;>omega
theorem Ai (hn:xs.length=n) (h:zx W H xs=true) (i:Nat):0<=yK W H xs i/\yK W H xs i<=1048576:=by
 obtain ⟨b1,_,b3,_,_,f,_⟩:=jR hn h;have:=Fw b1 b3 xs i xs.length;unfold yK;omega
theorem DW (v:Int) (j k:Nat) (h:k<=i):jI W H (xs.set i v) j k=jI W H xs j k:=by
 induction k with
 | zero=>rfl
 | succ k f=>
  unfold jI;rw [f om,jf om]
theorem SL (j k:Nat) (hi:i<xs.length) (f:xs.getD i 0=0) (h:i<k):jI W H (xs.set i 1) j k=jI W H xs j k+wtG W H j i:=by
 induction k with
 | zero=>omega
 | succ k g=>
  unfold jI;by_cases e:k=i
  subst e;rw [DW _ _ _ om,jo hi,f,if_pos rfl,if_neg dC];omega;rw [g om,jf om];omega
theorem OM (j k:Nat) (hi:i<xs.length) (f:xs.getD i 0=1) (h:i<k):jI W H (xs.set i 0) j k=jI W H xs j k - wtG W H j i:=by
 induction k with
 | zero=>omega
 | succ k g=>
  unfold jI;by_cases e:k=i
  subst e;rw [DW _ _ _ om,jo hi,f,if_pos rfl,if_neg dC];omega;rw [g om,jf om];omega
theorem gY (j:Nat) (hi:i<xs.length) (f:xs.getD i 0=0):yK W H (xs.set i 1) j=yK W H xs j+wtG W H j i:=by
 unfold yK;rw [List.length_set];exact SL j _ hi f hi
theorem aR (j:Nat) (hi:i<xs.length) (f:xs.getD i 0=1):yK W H (xs.set i 0) j=yK W H xs j - wtG W H j i:=by
 unfold yK;rw [List.length_set];exact OM j _ hi f hi
def JH (n:Nat) (xs:List Int) (v:Int) (c:Nat->Int) (b:Int):Prop:=
 (b=-1/\ ∀j,j<n->xs.getD j 0≠v)\/ ∃i:Nat,b=(i:Int)/\i<n/\xs.getD i 0=v/\ ∀j,j<n->xs.getD j 0=v->c i<=c j/\(j<i->c i<c j)
theorem Co (xs:List Int) (v:Int) (c:Nat->Int) (n:Nat):JH n xs v c (xk xs v c n):=by
 induction n with
 | zero=>exact Or.inl ⟨rfl,fun j h=>om⟩
 | succ k l=>
  unfold xk;rcases l with ⟨h1,h2⟩ | ⟨i,h1,h2,h3,h4⟩
  rw [h1];by_cases e:xs.getD k 0=v
  rw [if_pos ⟨e,Or.inl om⟩];refine Or.inr ⟨k,rfl,om,e,fun j g hv=>?_⟩;by_cases f:j=k
  subst f;exact ⟨Int.le_refl _,fun h=>om⟩;exact absurd hv (h2 j om);rw [if_neg (fun h=>e h.1)];refine Or.inl ⟨rfl,fun j g=>?_⟩;by_cases f:j=k
  subst f;exact e;exact h2 j om;rw [h1];simp only [Yu];by_cases e:xs.getD k 0=v/\((i:Int)<0\/c k<c i)
  rw [if_pos e];have hc:c k<c i:=by rcases e.2 with h | h;omega;exact h
  refine Or.inr ⟨k,rfl,om,e.1,fun j g hv=>?_⟩;by_cases f:j=k
  subst f;exact ⟨Int.le_refl _,fun h=>om⟩;have:=h4 j om hv;exact ⟨om,fun _=>om⟩;rw [if_neg e];refine Or.inr ⟨i,rfl,om,h3,fun j g hv=>?_⟩;by_cases f:j=k
  subst f;have: ¬c j<c i:=fun h=>e ⟨hv,Or.inr h⟩;exact ⟨om,fun h=>om⟩;exact h4 j om hv
theorem JH.one (h:JH n xs v c b) (f:JH n xs v c b'):b=b':=by
 rcases h with ⟨h1,h2⟩ | ⟨i,h1,h2,h3,h4⟩
 rcases f with ⟨g1,g2⟩ | ⟨k,g1,g2,g3,g4⟩
 rw [h1,g1];exact absurd g3 (h2 k g2);rcases f with ⟨g1,g2⟩ | ⟨k,g1,g2,g3,g4⟩
 exact absurd h3 (g2 i h2);have a1:=h4 k g2 g3;have a2:=g4 i h2 h3
 have:i=k:=by
  rcases Nat.lt_trichotomy i k with h | h | h
  have:=a2.2 h;omega;exact h;have:=a1.2 h;omega
 rw [h1,g1,this]
theorem JH.congr (h:JH n xs v c b) (e: ∀j,j<n->c j=c' j):JH n xs v c' b:=by
 rcases h with h | ⟨i,h1,h2,h3,h4⟩
 exact Or.inl h;exact Or.inr ⟨i,h1,h2,h3,fun j f hv=>by rw [<-e i h2,<-e j f];exact h4 j f hv⟩
theorem Uy (xs:List Int) (v:Int) (c:Nat->Int) (n:Nat):(xk xs v c n=-1/\ ∀j,j<n->xs.getD j 0≠v)\/ ∃i:Nat,xk xs v c n=i/\i<n/\xs.getD i 0=v:=by
 rcases Co xs v c n with h | ⟨i,h1,h2,h3,_⟩
 exact Or.inl h;exact Or.inr ⟨i,h1,h2,h3⟩
theorem XE (W H:Int) (xs:List Int):(qC W H xs=-1/\ ∀j,j<xs.length->xs.getD j 0≠1)\/ ∃i:Nat,qC W H xs=i/\i<xs.length/\xs.getD i 0=1:=Uy _ _ _ _
theorem Qx (W H:Int) (xs:List Int):(wH W H xs=-1/\ ∀j,j<xs.length->xs.getD j 0≠0)\/ ∃i:Nat,wH W H xs=i/\i<xs.length/\xs.getD i 0=0:=Uy _ _ _ _
theorem RH (hi:i<xs.length) (h:xs.getD i 0=v):(xs.set i u).set i v=xs:=by
 rw [List.set_set];apply List.ext_getElem?;intro k;rw [List.getElem?_set];by_cases e:i=k
 subst e;rw [if_pos rfl,if_pos hi,Ya hi];simp only [List.getD,Ya hi,Yz] at h;rw [h];rw [if_neg e]
theorem Qw (hi:i<xs.length): ∃k:Nat,wH W H (xs.set i 0)=k/\k<xs.length/\(xs.set i 0).getD k 0=0:=by
 rcases Qx W H (xs.set i 0) with ⟨_,h⟩ | ⟨k,h1,h2,h3⟩
 exact absurd (jo hi 0) (h i (by simpa using hi));exact ⟨k,h1,by simpa using h2,h3⟩
theorem oL (h:(kJ W H xs).2=false):(kJ W H xs).1=xs:=by
 unfold kJ at h⊢;rcases XE W H xs with ⟨h1,h2⟩ | ⟨i,h1,h2,h3⟩
 rw [if_pos om];have e: ¬qC W H xs<0:=om;rw [if_neg e] at h⊢;simp only [decide_eq_false_iff_not,Decidable.not_not,ne_eq] at h;unfold Zu;rw [h];unfold jw;rw [h1];simp only [Yu];exact RH h2 h3
theorem oK (hd:Xg xs) (h:wH W H xs<0):kJ W H xs=(xs,false):=by
 unfold kJ;rcases XE W H xs with ⟨h1,h2⟩ | ⟨i,h1,h2,h3⟩
 rw [if_pos om];rw [if_neg om]
 have hv: ∀j,j<xs.length->xs.getD j 0≠0:=by
  rcases Qx W H xs with ⟨_,g⟩ | ⟨k,g1,_,_⟩
  exact g;omega
 obtain ⟨k,k1,k2,k3⟩:=Qw (W:=W) (H:=H) h2
 have e:k=i:=by
  by_cases e:i=k
  exact e.symm;rw [jf e] at k3;exact absurd k3 (hv k k2)
 subst e;unfold Zu jw;rw [h1];simp only [Yu,k1,RH h2 h3];simp
theorem UD (W H:Int) (xs:List Int):(jw W H xs).length=xs.length:=by simp [jw]
theorem Rs (W H:Int) (xs:List Int):(Zu W H xs).length=xs.length:=by simp [Zu]
theorem Ki (h:zx W H xs=true):zx W H (jw W H xs)=true:=Am h _ (Or.inl rfl)
theorem DX (h:zx W H xs=true):zx W H (Zu W H xs)=true:=Am h _ (Or.inr rfl)
theorem QO (h:zx W H xs=true):zx W H (kJ W H xs).1=true:=by
 unfold kJ;split;exact h;exact DX (Ki h)
theorem Rj (W H:Int) (xs:List Int):(kJ W H xs).1.length=xs.length:=by
 unfold kJ;split;rfl;rw [Rs,UD]
theorem WT (m:Nat) (h:(kJ W H xs).2=false):jB W H m xs=(xs,0):=by
 cases m with
 | zero=>rfl
 | succ m=>unfold jB;rw [if_neg (by rw [h];decide)]
theorem Oc (h:(kJ W H xs).2=true):jB W H (m+1) xs=((jB W H m (kJ W H xs).1).1,(jB W H m (kJ W H xs).1).2+1):=by
 rw [jB,if_pos h]
theorem aT (m:Nat) (h:zx W H xs=true):zx W H (jB W H m xs).1=true:=by
 induction m generalizing xs with
 | zero=>exact h
 | succ m f=>
  unfold jB;split;exact f (QO h);exact h
theorem rz (W H:Int) (m:Nat) (xs:List Int):(jB W H m xs).1.length=xs.length:=by
 induction m generalizing xs with
 | zero=>rfl
 | succ m f=>
  unfold jB;split;rw [f,Rj];rfl
theorem GX (hi:i<xs.length) (v u:Int):zZ v (xs.set i u)+(if xs.getD i 0=v then 1 else 0)=zZ v xs+(if u=v then 1 else 0):=by
 induction xs generalizing i with
 | nil=>simp at hi
 | cons a r f=>
  cases i with
  | zero=>
   rw [List.set_cons_zero,vM,vM];simp only [List.getD_cons_zero];omega
  | succ i=>
   rw [List.set_cons_succ,vM,vM];have:=f (i:=i) (by simpa using hi);simp only [List.getD_cons_succ];omega
theorem Dc (h: ∀j,j<xs.length->xs.getD j 0≠v):zZ v xs=0:=by
 unfold zZ;rw [List.length_eq_zero_iff,List.filter_eq_nil_iff];intro a ha;obtain ⟨k,hk,rfl⟩:=List.mem_iff_getElem.1 ha;have:=h k hk;simp only [List.getD,Ya hk,Yz] at this;simpa using this
theorem GH (h:Xg xs):zZ 0 xs+zZ 1 xs=xs.length:=by
 induction xs with
 | nil=>rfl
 | cons a r f=>
  rw [vM,vM];have h0:=h 0 sI;have hr:Xg r:=fun k hk=>by have:=h (k+1) (by simpa using hk);simpa using this
  have:=f hr;simp only [List.getD_cons_zero] at h0;simp only [List.length_cons];rcases h0 with h0 | h0 <;>subst h0 <;>simp <;>omega
theorem SQ (h1:qC W H xs=i) (h2:i<xs.length) (h3:xs.getD i 0=1):zZ 1 (jw W H xs)+1=zZ 1 xs:=by
 unfold jw;rw [h1];have:=GX h2 1 0;rw [h3] at this;simpa using this
theorem SS (h1:wH W H xs=i) (h2:i<xs.length) (h3:xs.getD i 0=0):zZ 1 (Zu W H xs)=zZ 1 xs+1:=by
 unfold Zu;rw [h1];have:=GX h2 1 1;rw [h3] at this;simpa using this
theorem Jw (h:0<zZ 1 xs): ∃i:Nat,qC W H xs=i/\i<xs.length/\xs.getD i 0=1:=by
 rcases XE W H xs with ⟨_,h2⟩ | h2
 have:=Dc h2;omega;exact h2
theorem UE (hd:Xg xs) (h:zZ 1 xs<xs.length): ∃i:Nat,wH W H xs=i/\i<xs.length/\xs.getD i 0=0:=by
 rcases Qx W H xs with ⟨_,h2⟩ | h2
 have:=Dc h2;have:=GH hd;omega;exact h2
theorem ZL (h:zx W H xs=true) (rs:List Int) (k:Nat) (hk:k<=zZ 1 xs):
 zx W H (xA W H xs (zZ 1 xs) rs k).1=true/\(xA W H xs (zZ 1 xs) rs k).1.length=xs.length/\zZ 1 (xA W H xs (zZ 1 xs) rs k).1+k=zZ 1 xs/\(xA W H xs (zZ 1 xs) rs k).2.length=rs.length:=by
 induction k with
 | zero=>exact ⟨h,rfl,rfl,rfl⟩
 | succ k g=>
  obtain ⟨h1,h2,h3,h4⟩:=g om;obtain ⟨i,f,i2,i3⟩:=Jw (W:=W) (H:=H) (xs:=(xA W H xs (zZ 1 xs) rs k).1) om;have:=SQ f i2 i3;unfold xA;exact ⟨Ki h1,by rw [UD];exact h2,by simp only [];omega,by simp only [List.length_set];exact h4⟩
theorem Xw (h:zx W H xs=true) (d:Nat) (rs:List Int) (k:Nat) (hk:zZ 1 xs+k<=xs.length):
 zx W H (upG W H xs d rs k).1=true/\(upG W H xs d rs k).1.length=xs.length/\zZ 1 (upG W H xs d rs k).1=zZ 1 xs+k/\(upG W H xs d rs k).2.length=rs.length:=by
 induction k with
 | zero=>exact ⟨h,rfl,rfl,rfl⟩
 | succ k g=>
  obtain ⟨h1,h2,h3,h4⟩:=g om;obtain ⟨i,f,i2,i3⟩:=UE (W:=W) (H:=H) (xs:=(upG W H xs d rs k).1) (wX (jR rfl h1).2.2.2.2.2.2.2.1) om;have:=SS f i2 i3;unfold upG;exact ⟨DX h1,by rw [Rs];exact h2,by simp only [];omega,by simp only [List.length_set];exact h4⟩
theorem Vo (v:Int) (xs:List Int):zZ v xs<=xs.length:=List.length_filter_le _ _
theorem iY (h:Xg xs):xE xs=(zZ 1 xs:Int):=by
 induction xs with
 | nil=>rfl
 | cons a r f=>
  rw [vM];have h0:=h 0 sI;have hr:Xg r:=fun k hk=>by have:=h (k+1) (by simpa using hk);simpa using this
  have:=f hr;simp only [List.getD_cons_zero] at h0;unfold xE;rcases h0 with h0 | h0 <;>subst h0 <;>simp <;>omega
end
section
open Go.RowKit Tq Go.Proofs.Tryz
variable {B cap n : Nat} {E b c : Prop} {H W m : Int} {K : Act → World → Prop} {Q : Exit → Act → World → Prop} {a : Act} {ad : Option Addr} {e : Ending} {o : Oper} {ops : Array Oper} {w w' : World} {xs : List Int}
theorem Ei:(prog.info? 3).map (fun i=>(i.zero,i.size,i.bytes))=some (some ↑Z0,1,8):=zK
theorem RowA.toOwn6 (h:RowA w 3 1 B ad n cap xs):OwnA w B ad n cap xs:=by
 rcases h with h | ⟨g,h1,h2,h3,f,h4,l,q,s,j⟩
 exact .inl h;exact .inr ⟨g,h1,h2,om,f,h4,l,q,om,by rw [Nat.mul_one] at j;exact j⟩
theorem qO (w:World) (T f:Nat):RowT (w.alloc (.cells #[] T)) T f w 0 0 []:=⟨sI,#[],heap_alloc_new w _,nI,by unfold maxLen;omega,sI,sI⟩
theorem Tj (w:World)
 (t:o.guard=none) (s x:Operand) (z:o.op= .call {callee:= .builtin .append,args:=#[s,x],argTypes:=#[22,22]})
 (B cap:Nat) (ad:Option Addr) (J:a.eval s= .slice ad 0 cap) (I:RowA w 3 1 B ad 0 cap []) (b off m c:Nat) (l:List Int) (M:a.eval x= .slice (some ↑(b,off)) m c)
 (hv:l.length=m) (hc: ∀j,j<m->w.cell? ⟨b,off+j,none⟩=some (.int .i64 (l.getD j 0))) (hn:m<=1048576) (G:B<=w.heap.size)
 (hK: ∀g f w',RowA w' 3 1 B g m f l->w.grownBy w' (zO ad)->K (a.put o.dst (.slice g m f)) w'):
 if Region.wanted o (yielded ops a.tmps)=true then Oper.wp prog o a w K Q else E:=by
 have hw:Region.wanted o (yielded ops a.tmps)=true:=by simp [Region.wanted,t]
 rw [if_pos hw];obtain ⟨i,hi,A,C,D⟩:=info_parts Ei;refine wp_append_own w s x 22 z B 3 i ↑Z0 1 8 underlying22 hi A C D rfl om _ 0 (([]:List Int).map (Value.int .i64)) J I.toRow ↑(b,off) m c (l.map (Value.int .i64)) M (by simp [hv]) ?_ ?_ (by unfold maxLen;omega) (by rw [Nat.zero_add];omega) G ?_;intro j u q;by_cases y:j<m
 have:=hc j y;rw [List.getElem?_map,Ya om] at q;simp only [Option.map_some,Option.some.injEq] at q;subst q;rw [show (Addr.mk b off none).add j=⟨b,off+j,none⟩ by rw [Addr.add_lit],this];simp [List.getD,Ya (show j<l.length by omega)];rw [Yv sO] at q;cases q;intro u L;obtain ⟨x,_,rfl⟩:=List.mem_map.1 L;rfl;intro v' w' h2 h3 _;rw [Nat.zero_add] at h2;have h4:w'.ownsRow B 3 1 v' m (l.map (Value.int .i64)):=by simpa using h2
 obtain ⟨g,f,rfl,F⟩:=RowA.ofRow h4;rw [jO] at h3;exact hK g f w' F h3
theorem pq (w:World) {rest:List Oper}
 (t:o.guard=none) (s x:Operand) (z:o.op= .call {callee:= .builtin .append,args:=#[s,x],argTypes:=#[22,22]})
 (B cap:Nat) (ad:Option Addr) (J:a.eval s= .slice ad 0 cap) (I:RowA w 3 1 B ad 0 cap []) (b off m c:Nat) (l:List Int) (M:a.eval x= .slice (some ↑(b,off)) m c)
 (hv:l.length=m) (hc: ∀j,j<m->w.cell? ⟨b,off+j,none⟩=some (.int .i64 (l.getD j 0))) (hn:m<=1048576) (G:B<=w.heap.size)
 (hK: ∀g f w',RowA w' 3 1 B g m f l->w.grownBy w' (zO ad)->wpList prog ops Q rest (a.put o.dst (.slice g m f)) w'):
 wpList prog ops Q (o::rest) a w:=by
 obtain ⟨i,hi,A,C,D⟩:=info_parts Ei;refine wpList_append_own w t s x 22 z B 3 i ↑Z0 1 8 underlying22 hi A C D rfl om _ 0 (([]:List Int).map (Value.int .i64)) J I.toRow ↑(b,off) m c (l.map (Value.int .i64)) M (by simp [hv]) ?_ ?_ (by unfold maxLen;omega) (by rw [Nat.zero_add];omega) G ?_;intro j u q;by_cases y:j<m
 have:=hc j y;rw [List.getElem?_map,Ya om] at q;simp only [Option.map_some,Option.some.injEq] at q;subst q;rw [show (Addr.mk b off none).add j=⟨b,off+j,none⟩ by rw [Addr.add_lit],this];simp [List.getD,Ya (show j<l.length by omega)];rw [Yv sO] at q;cases q;intro u L;obtain ⟨x,_,rfl⟩:=List.mem_map.1 L;rfl;intro v' w' h2 h3 _;rw [Nat.zero_add] at h2;have h4:w'.ownsRow B 3 1 v' m (l.map (Value.int .i64)):=by simpa using h2
 obtain ⟨g,f,rfl,F⟩:=RowA.ofRow h4;rw [jO] at h3;exact hK g f w' F h3
def Ch (w:World) (W H:Int) (n:Nat) (xs:List Int) (e:Ending) (w':World):Prop:=
 ∃a c,e= .returned (.agg #[W,H, .slice a n c])/\OwnA w' w a n c xs/\Below w w w'
def XK (W H:Int) (xs:List Int):List Int × Bool:=if zx W H xs=true then kJ W H xs else (xs,false)
theorem zAt (h: ¬zx W H xs=true):XK W H xs=(xs,false):=by unfold XK;rw [if_neg h]
theorem UC (h:zx W H xs=true):XK W H xs=kJ W H xs:=by unfold XK;rw [if_pos h]
theorem oJ (W H:Int) (xs:List Int):Ri W H xs=(⟨W,H,(XK W H xs).1⟩,(XK W H xs).2):=by
 unfold Ri XK;split <;>rfl
def IY (w:World) (W H:Int) (n:Nat) (R:List Int × Bool) (e:Ending) (w':World):Prop:=
 ∃a c,e= .returned (.tuple #[.agg #[W,H, .slice a n c], .bool R.2])/\OwnA w' w a n c R.1/\Below w w w'
theorem IY.Z (h:IY w W H n (XK W H xs) e w') (hl:n<=1048576):KE w (Ri W H xs) e w':=by
 rw [oJ];obtain ⟨a,c,h1,h2,h3⟩:=h;exact ⟨a,n,c,h1,h2,hl,h3⟩
def uL (W H:Int) (xs:List Int) (m:Int):List Int × Int:=if zx W H xs=true/\0<=m/\m<=64 then ((jB W H m.toNat xs).1,((jB W H m.toNat xs).2:Int)) else (xs,0)
theorem ru (W H:Int) (xs:List Int) (m:Int):vY W H xs m=(⟨W,H,(uL W H xs m).1⟩,(uL W H xs m).2):=by
 unfold vY uL;split <;>rfl
def Ci (w:World) (W H:Int) (n:Nat) (R:List Int × Int) (e:Ending) (w':World):Prop:=
 ∃a c,e= .returned (.tuple #[.agg #[W,H, .slice a n c],R.2])/\OwnA w' w a n c R.1/\Below w w w'
def WJ (w:World) (R:Pic × Int) (e:Ending) (w':World):Prop:=
 ∃a n c,e= .returned (.tuple #[.agg #[R.1.W,R.1.H, .slice a n c],R.2])/\OwnA w' w a n c R.1.ink/\n<=1048576/\Below w w w'
theorem Ci.Z (h:Ci w W H n (uL W H xs m) e w') (hl:n<=1048576):WJ w (vY W H xs m) e w':=by
 rw [ru];obtain ⟨a,c,h1,h2,h3⟩:=h;exact ⟨a,n,c,h1,h2,hl,h3⟩
section
set_option maxRecDepth 100000
theorem DU (b off n cap:Nat) (xs:List Int) (w:World) (hn:xs.length=n) (ha:Rd w (some ↑(b,off)) xs) (hl:n<=1048576):
 Calls prog 69 #[.slice (some ↑(b,off)) n cap] w fun e w'=> ∃a c,e= .returned (.slice a n c)/\OwnA w' w a n c xs/\Below w w w':=by
 have q:=Jh hn;have A:=Jh ha;clear hn ha;have z:=fun v:World=>Lib.run_eql_slice_nil (P:=prog) v (t:=22) (e:=3) (a:=some ↑(b,off)) n cap 0 0 underlying22;go_in;go_wp2_with (at_builtin;refine pq _ rfl (.tmp 5) (.tmp 6) rfl w 0 _ rfl (RowA.mk (qO w 3 1) nI) b off n cap xs rfl q.Z (fun j F=>by obtain ⟨b2,G,h3,h4,D⟩:=(A.Z.alloc (.cells #[] 3)).at (oh q);cases h3;exact D j (oh q)) hl sI ?_;intro C y I g f);have l:=Jh ((Joins.below_alloc1 w (.cells #[] 3)).grown f sI (fun k hk=>by simp [zO] at hk;omega));have s:=Jh g.toOwn6;clear g f;go_ret;exact ⟨_,_,rfl,s.Z,l.Z⟩
theorem Zq (W H:Int) (b off n cap:Nat) (xs:List Int) (w:World) (hn:xs.length=n) (ha:Rd w (some ↑(b,off)) xs) (hl:n<=1048576):
 Calls prog 44 #[.agg #[W,H, .slice (some ↑(b,off)) n cap]] w (Ch w W H n xs):=by
 have M:=Jh hn;have HA:=Jh ha;clear hn ha;go_in;go_upto_region 1 with fail;obtain ⟨V,O,y,X⟩:=JG ((Blk.new w 31 #[W,H, .slice (some ↑(b,off)) n cap]).alloc (.cells ↑Zp 31)) (Blk.zD (g:=w.heap.size+1) (w:=w.alloc (.cells #[W,H, .slice (some ↑(b,off)) n cap] 31)) 31 ↑Zp sI) (zM (zM (Below.refl w w) (.cells #[W,H, .slice (some ↑(b,off)) n cap] 31)) (.cells ↑Zp 31)) ((HA.Z.alloc (.cells #[W,H, .slice (some ↑(b,off)) n cap] 31)).alloc (.cells ↑Zp 31));obtain ⟨q,t⟩:=zN ((w.alloc (.cells #[W,H, .slice (some ↑(b,off)) n cap] 31)).alloc (.cells ↑Zp 31):World);have I:Hd (q.heap.size=w.heap.size+1+1):=Jh (by rw [t];simp);rw [<-t] at V O y X⊢;clear t;obtain ⟨U,o0,o1,Y⟩:=V.Z.c3;have A:Hd (∀v,BelowL q v->Jc v w W/\Jc v (w,1) H/\Jc v (w,2) (.slice (some ↑(b,off)) n cap)/\BelowL q v):=Jh (fun v J=>⟨(J.Z.cell U).trans o0,(J.Z.cell U).trans o1,(J.Z.cell U).trans Y,J⟩);refine yA 9 A zK (A.Z _ lS) ?_;intro f;have T:=Xo f;refine zP 0 ?_;refine zP 1 ?_;refine zP 2 ?_;refine zP 3 ?_;refine zP 5 ?_;refine zP 6 ?_;refine zf 4 (fun K hK=>?_);go_simp;have s:=BelowL.alloc T (.cells #[] 3);refine hK.out _ _ (fun _=>Jd (A.Z _ s)) (fun hH2=>?_);clear hK K f;refine zf 7 (fun K hK=>?_);refine Tj _ rfl (.tmp 7) (.tmp 9) rfl q.drew.heap.size 0 _ rfl (RowA.mk (qO q.drew 3 1) nI) b off n cap xs rfl M.Z (fun j hj=>by obtain ⟨b2,Y,h3,h4,h5⟩:=(X.Z.drew.alloc (.cells #[] 3)).at (oh M);cases h3;exact h5 j (oh M)) hl sI ?_;intro P C w5 F D;have l:Hd (Below q q w5):=Jh (s.Z.grown D s.Z.size (fun k hk=>by simp [zO] at hk;omega));obtain ⟨N,z,L⟩:=JF F.toOwn6 (O.Z.below l.Z O.Z.lt) (zL y.Z l.Z);clear F D;obtain ⟨z0,r0,r1,r2⟩:=z.Z.c3;obtain ⟨f0,f1,f2⟩:=z.Z.f3;refine hK.out _ _ (fun _=>Jd (A.Z _ (BelowL.mk l.Z))) (fun hH2=>?_);clear hK K;refine zf 8 (fun K hK=>?_);go_simp;refine hK.out _ _ (fun _=>Jd (A.Z _ (BelowL.mk l.Z))) (fun hH2=>?_);clear hK K;refine zf 9 (fun K hK=>?_);go_simp;refine hK.out _ _ (fun h=>absurd h dC) (fun hH2=>?_);clear hK K hH2;refine yG zK ?_ _;(try go_simp)
 go_wp2
 exact bodyPost_ret (v:= .agg #[W,H, .slice P n C]) (by simp [results,results44,go_sem,r0,r1,r2]) rfl
  ⟨_,_,rfl,(((N.Z.other (by simp;(try have:=I.Z);omega) _).other (by simp;(try have:=I.Z);omega) _).other (by simp;(try have:=I.Z);omega) _).mono (by have:=I.Z;show w.heap.size<=q.heap.size;omega),
   ((L.Z.setCell sD _).setCell sD _).setCell sD _⟩
theorem wZ (W H:Int) (b off n cap:Nat) (xs:List Int) (w:World) (hn:xs.length=n) (ha:Rd w (some ↑(b,off)) xs) (hl:n<=1048576):
 Calls prog 68 #[.agg #[W,H, .slice (some ↑(b,off)) n cap]] w (Ch w W H n xs):=by
 have V:=Jh hn;have U:=Jh ha;clear hn ha;go_in;go_upto_region 1 with fail;obtain ⟨P,L,q,T⟩:=JG ((Blk.new w 31 #[W,H, .slice (some ↑(b,off)) n cap]).alloc (.cells ↑Zp 31)) (Blk.zD (g:=w.heap.size+1) (w:=w.alloc (.cells #[W,H, .slice (some ↑(b,off)) n cap] 31)) 31 ↑Zp sI) (zM (zM (Below.refl w w) (.cells #[W,H, .slice (some ↑(b,off)) n cap] 31)) (.cells ↑Zp 31)) ((U.Z.alloc (.cells #[W,H, .slice (some ↑(b,off)) n cap] 31)).alloc (.cells ↑Zp 31));obtain ⟨F,l⟩:=zN ((w.alloc (.cells #[W,H, .slice (some ↑(b,off)) n cap] 31)).alloc (.cells ↑Zp 31):World);have C:Hd (F.heap.size=w.heap.size+1+1):=Jh (by rw [l];simp);rw [<-l] at P L q T⊢;clear l;obtain ⟨O,X,Y,o2⟩:=P.Z.c3;have A:Hd (∀v,BelowL F v->Jc v w W/\Jc v (w,1) H/\Jc v (w,2) (.slice (some ↑(b,off)) n cap)/\BelowL F v):=Jh (fun v D=>⟨(D.Z.cell O).trans X,(D.Z.cell O).trans Y,(D.Z.cell O).trans o2,D⟩);refine yA 8 A zK (A.Z _ lS) ?_;intro f;have y:=Xo f;refine zP 0 ?_;refine zP 1 ?_;refine zP 2 ?_;refine zP 3 ?_;refine zP 4 ?_;refine zP 5 ?_;refine zf 6 (fun K hK=>?_);go_simp
 go_at_call 69
 ((with_reducible refine (DU b off n cap xs _ V.Z (by exact T.Z.below y.Z) hl).mono ?_);rintro e v1 ⟨M,t,rfl,z,N⟩);have j:=BelowL.call y N;go_wp2_with fail;refine hK.out _ _ (fun _=>Jd (A.Z _ j)) (fun hH2=>?_);clear hK K f;obtain ⟨J,s,I⟩:=JF z (L.Z.below j.Z L.Z.lt) (zL q.Z j.Z);clear z;obtain ⟨z0,r0,r1,r2⟩:=s.Z.c3;obtain ⟨f0,f1,f2⟩:=s.Z.f3;refine zf 7 (fun K hK=>?_);go_simp;refine hK.out _ _ (fun _=>Jd (A.Z _ j)) (fun hH2=>?_);clear hK K;refine zf 8 (fun K hK=>?_);go_simp;refine hK.out _ _ (fun h=>absurd h dC) (fun hH2=>?_);clear hK K hH2;refine yG zK ?_ _;(try go_simp)
 go_wp2
 exact bodyPost_ret (v:= .agg #[W,H, .slice M n t]) (by simp [results,results68,go_sem,r0,r1,r2]) rfl
  ⟨_,_,rfl,(((J.Z.other (by simp;(try have:=C.Z);omega) _).other (by simp;(try have:=C.Z);omega) _).other (by simp;(try have:=C.Z);omega) _).mono (by have:=C.Z;show w.heap.size<=F.heap.size;omega),
   ((I.Z.setCell sD _).setCell sD _).setCell sD _⟩
end
def BelowH (w v:World):Prop:=Hd (Below w w v)
namespace BelowH
variable {w v v' : World}
theorem Z (h:BelowH w v):Below w w v:=Hd.Z h
theorem mk (h:Below w w v):BelowH w v:=Jh h
theorem start (w:World):BelowH w w.drew:=mk bR.drew
theorem alloc (h:BelowH w v) (o:Obj):BelowH w (v.alloc o):=mk (zM h.Z o)
theorem call (h:BelowH w v) (f:Below v v v'):BelowH w v':=mk (zL h.Z f)
theorem le (h:BelowH w v):w.heap.size<=v.heap.size:=h.Z.size
theorem set (h:BelowH w v) {a:Addr} (ha:w.heap.size<=a.block) (u:Value):BelowH w (v.setCell a u):=mk (h.Z.setCell ha u)
end BelowH
theorem zDr {a d:Prop} (h:a/\b/\c/\d):d:=h.2.2.2
def Ad (w wx:World) (T:Nat) (W H:Int) (xs:List Int) (s:Value):Prop:=
 ∃gb a n c,s= .pointer (some ⟨gb,0,none⟩)/\Blk wx gb T #[W,H, .slice a n c]/\w.heap.size<=gb/\OwnA wx w a n c xs/\
  (∀b,zO a=some b->w.heap.size<=b/\b<wx.heap.size/\b≠gb)/\n<=1048576/\Below w w wx
end
end Go.Proofs.YtlenfgdjdianiaaGreatDoor
