/- Facts on which this claim rests, 37. -/
import Derived.Test.YtlenfgdjdianiaaGreatDoorF36
set_option linter.all false
set_option maxHeartbeats 6400000
namespace Go.Proofs.YtlenfgdjdianiaaGreatDoor
section
variable {H W m : Int} {i j n : Nat} {t : Nat → Nat} {xs : List Int}
open Tq Go.Proofs.Tryz
theorem wn (c:yM W H=true) (hn:xs.length=n) (b:(n:Int)=W*H) (hw:yY xs m=true):zP W H xs m=true:=by
 rw [wm hn c b];exact hw
theorem zLp (hl:xs.length=n) (mk:zq W H xs=true):
 uW W H xs=⟨W,H,xs.map (fun v=>(n:Int) - 1 - v)⟩/\zq W H (xs.map (fun v=>(n:Int) - 1 - v))=true/\(xs.map (fun v=>(n:Int) - 1 - v)).map (fun v=>(n:Int) - 1 - v)=xs:=by
 obtain ⟨c,e,g,k⟩:=kI hl mk;refine ⟨zAD hl mk,Qu (by simpa using hl) c e ?_ ?_,?_⟩;unfold inR;rw [Yp];intro v hv;obtain ⟨u,b,rfl⟩:=List.mem_map.1 hv;have:=zCI g b;simp;omega;unfold List.Nodup;rw [List.pairwise_map];exact k.imp (fun h=>om);rw [List.map_map];have:((fun v=>(n:Int) - 1 - v) ∘ fun v=>(n:Int) - 1 - v)=id:=by funext v;simp only [Function.comp,id];omega
 rw [this,List.map_id]
theorem zNi (h:xs.Nodup) (hi:i<xs.length) (b:j<xs.length) (e:xs.getD i 0=xs.getD j 0):i=j:=by
 unfold List.Nodup at h;rw [List.pairwise_iff_getElem] at h;simp only [List.getD,Ya hi,Ya b,Yz] at e;rcases Nat.lt_trichotomy i j with hlt | rfl | hlt
 exact absurd e (h i j hi b hlt);rfl;exact absurd e.symm (h j i b hi hlt)
theorem zLV (h:xs.Nodup) (k: ∀i,i<n->t i<xs.length) (hi: ∀i j,i<n->j<n->t i=t j->i=j):(gen n (fun i=>xs.getD (t i) 0)).Nodup:=by
 unfold gen List.Nodup;rw [List.pairwise_map];refine List.Pairwise.imp_of_mem (R:=(·<·)) ?_ List.pairwise_lt_range;intro a b ha hb s e;have c:=List.mem_range.1 ha;have g:=List.mem_range.1 hb;have:=hi a b c g (zNi h (k a c) (k b g) e);omega
theorem zOQ (hl:xs.length=n) (mk:zq W H xs=true) (a b:Int):zq W H (gen n (kp W H xs a b))=true:=by
 obtain ⟨G,c,O,P⟩:=kI hl mk;obtain ⟨b1,b2,b3,b4,b5,b6⟩:=xA G;refine Qu (zZ _ _) G c (zPa (fun i hi=>Vz hl c b1 b3 O _ _)) ?_;refine zLV (t:=fun i=>(((i:Int)/W - b) % H*W+((i:Int) % W - a) % W).toNat) P (fun i hi=>?_) (fun i j hi hj e=>?_);rw [hl];exact (ZA c b1 b3 _ _).2.2.2;obtain ⟨i0,i1,i2,i3⟩:=ZA c b1 b3 ((i:Int) % W - a) ((i:Int)/W - b);obtain ⟨j0,j1,j2,j3⟩:=ZA c b1 b3 ((j:Int) % W - a) ((j:Int)/W - b);have L:((i:Int)/W - b) % H*W+((i:Int) % W - a) % W=((j:Int)/W - b) % H*W+((j:Int) % W - a) % W:=om;obtain ⟨R,T⟩:=Ze ((i:Int) % W - a) b1;obtain ⟨U,V⟩:=Ze ((j:Int) % W - a) b1;obtain ⟨d1,d2⟩:=wj (q:=((i:Int)/W - b) % H) R T;obtain ⟨d3,d4⟩:=wj (q:=((j:Int)/W - b) % H) U V;rw [L] at d1 d2;have E:((i:Int) % W - a) % W=((j:Int) % W - a) % W:=by rw [<-d2,d4]
 have F:((i:Int)/W - b) % H=((j:Int)/W - b) % H:=by rw [<-d1,d3]
 obtain ⟨x,y,X,Y,y0,y1,ei,g,k⟩:=Ji (i:=(i:Int)) (W:=W) (H:=H) b1 om om;obtain ⟨I,J,z,A,C,D,ej,s,u⟩:=Ji (i:=(j:Int)) (W:=W) (H:=H) b1 om om;rw [g,s] at E;rw [k,u] at F
 have M:x=I:=by
  have h1:(x - a+a) % W=(I - a+a) % W:=by rw [Int.add_emod,E,<-Int.add_emod]
  rw [Int.sub_add_cancel,Int.sub_add_cancel,Int.emod_eq_of_lt X Y,Int.emod_eq_of_lt z A] at h1;exact h1
 have N:y=J:=by
  have h1:(y - b+b) % H=(J - b+b) % H:=by rw [Int.add_emod,F,<-Int.add_emod]
  rw [Int.sub_add_cancel,Int.sub_add_cancel,Int.emod_eq_of_lt y0 y1,Int.emod_eq_of_lt C D] at h1;exact h1
 subst M N;omega
end
section
open Go.RowKit Tq Go.Proofs.Tryz
variable {B B' cap n : Nat} {Q : Exit → Act → World → Prop} {a : Act} {ad : Option Addr} {alt : Bool} {f : Nat → Int} {l : List UInt8} {m x y : Int} {o : Oper} {ops : Array Oper} {q : Pic} {v : Value} {w w' : World} {xs : List Int}
structure OkD (d:Dat):Prop where
 p:zP d.1.W d.1.H d.1.ink 255=true
 m:zq d.2.1.W d.2.1.H d.2.1.ink=true
 n:d.2.2.length<=4
 s: ∀q,q ∈ d.2.2->zP q.W q.H q.ink 1=true/\q.W=d.1.W/\q.H=d.1.H
theorem zKd {L:List Pic} (h:1<=L.length):L.getD 0 yb ∈ L:=by
 rw [Yh,Ya om];exact List.getElem_mem _
theorem jJ (d:Dat):yX d=true↔OkD d:=by
 unfold yX;simp only [Bool.and_eq_true,Bool.or_eq_true,decide_eq_true_eq];constructor;rintro ⟨⟨hp,hm⟩,b⟩;refine ⟨hp,hm,?_,?_⟩;rcases b with b | ⟨b,_⟩
 omega;exact (XF b).2.1;intro q c;rcases b with b | ⟨b,h1,h2⟩
 have:=List.length_pos_of_mem c;omega;obtain ⟨_,_,h⟩:=XF b;obtain ⟨k,hk,rfl⟩:=List.getElem_of_mem c;have:=h k hk;rw [show d.2.2.getD k yb=d.2.2[k] by rw [Yh,Ya hk];rfl] at this;exact ⟨this.1,this.2.1.trans h1,this.2.2.trans h2⟩;intro h;refine ⟨⟨h.p,h.m⟩,?_⟩;by_cases e:d.2.2.length=0
 exact .inl e;have hg:=h.s _ (zKd (L:=d.2.2) om);refine .inr ⟨?_,hg.2.1,hg.2.2⟩;unfold yc;simp only [Bool.and_eq_true,decide_eq_true_eq,Yp];exact ⟨⟨om,h.n⟩,fun q c=>⟨(h.s q c).1,(h.s q c).2.1.trans hg.2.1.symm,(h.s q c).2.2.trans hg.2.2.symm⟩⟩
theorem ZV (h: ∀i,i<n->0<=f i/\f i<=m):yY (gen n f) m=true:=by
 unfold yY gen;rw [Yp];intro x b;simp only [List.mem_map,List.mem_range] at b;obtain ⟨i,hi,rfl⟩:=b;have:=h i hi;simp only [Bool.and_eq_true,decide_eq_true_eq];omega
def Qe (F:Dat->Dat × List UInt8):Prop:= ∀d,OkD d->OkD (F d).1
theorem zFF (p:Pic):Qe (jP p):=by
 intro d h;unfold jP;split;rename_i hp;exact ⟨hp,h.m,sI,sI⟩;exact h
theorem wk (f:Pic->Pic):Qe (xC f):=by
 intro d h;unfold xC;split;rename_i hp;exact ⟨h.p,hp,h.n,h.s⟩;exact h
theorem zIg (i:Int):Qe (vJ i):=fun d h=>h
theorem wJ (f:Dat->Pic × List UInt8) (hf: ∀d,OkD d->zP (f d).1.W (f d).1.H (f d).1.ink 1=true/\(f d).1.W=d.1.W/\(f d).1.H=d.1.H):Qe (yg f):=by
 intro d h;unfold yg;split;exact h;rename_i hl;refine ⟨h.p,h.m,?_,?_⟩;have:=h.n;simp only [Yn,List.length_singleton];omega;intro q hq;rcases List.mem_append.1 hq with hq | hq
 exact h.s q hq;rw [List.mem_singleton.1 hq];exact hf d h
theorem vY (F:Dat->Pic->Dat × List UInt8) (b: ∀d q,OkD d->q ∈ d.2.2->OkD (F d q).1):Qe (yS F):=by
 intro d h;unfold yS;split;exact h;rename_i hl;exact b d _ h (by rw [Yh,Ya om];exact List.getElem_mem _)
theorem Xl (f:Pic->Pic) (hf: ∀q:Pic,zP q.W q.H q.ink 1=true->zP (f q).W (f q).H (f q).ink 1=true/\(f q).W=q.W/\(f q).H=q.H): ∀d q,OkD d->q ∈ d.2.2->OkD (yp f d q).1:=by
 intro d q h c;refine ⟨h.p,h.m,by simp only [yp,List.length_set];exact h.n,?_⟩;intro r hr;rcases List.mem_or_eq_of_mem_set hr with hr | rfl
 exact h.s r hr;have a:=h.s q c;have b:=hf q a.1;exact ⟨b.1,b.2.1.trans a.2.1,b.2.2.trans a.2.2⟩
theorem zKw: ∀d q,OkD d->q ∈ d.2.2->OkD (vt d q).1:=by
 intro d q h b;refine ⟨h.p,h.m,?_,fun r hr=>h.s r (List.mem_of_mem_take hr)⟩;have:=h.n;simp only [vt,Yj];omega
theorem zAm (m:Nat): ∀q:Pic,zP q.W q.H q.ink 1=true->zP (kZ m q).W (kZ m q).H (kZ m q).ink 1=true/\(kZ m q).W=q.W/\(kZ m q).H=q.H:=by
 intro q h;unfold kZ;rw [VZ rfl h];exact ⟨zIZ h,rfl,rfl⟩
theorem zQO (h:yY xs 1=true) (k:Nat):0<=xs.getD k 0/\xs.getD k 0<=1:=by
 unfold yY at h;rw [Yp] at h;by_cases hk:k<xs.length
 have:=h (xs.getD k 0) (by rw [Yh,Ya hk];exact List.getElem_mem hk);simp only [Bool.and_eq_true,decide_eq_true_eq] at this;omega;rw [Yh,Yv om];simp
theorem zLS: ∀q:Pic,zP q.W q.H q.ink 1=true->zP (vw q).W (vw q).H (vw q).ink 1=true/\(vw q).W=q.W/\(vw q).H=q.H:=by
 intro q h;obtain ⟨c,b,hw⟩:=yH rfl h;unfold vw;rw [Qw (JT h) b];exact ⟨wn c (zZ _ _) b (ZV (fun i _=>zQO hw _)),rfl,rfl⟩
theorem zDw: ∀d,OkD d->zP (xV d).1.W (xV d).1.H (xV d).1.ink 1=true/\(xV d).1.W=d.1.W/\(xV d).1.H=d.1.H:=by
 intro d h;obtain ⟨c,b,hw⟩:=yH rfl h.p;unfold xV qG;rw [if_pos ⟨h.m,h.p⟩];exact ⟨wn c (zZ _ _) b (ZV (fun i _=>by unfold vn;split <;>omega)),rfl,rfl⟩
theorem ZP {ks:List Prt} (hk:xF ks=true): ∀d,OkD d->zP (yU ks alt d).1.W (yU ks alt d).1.H (yU ks alt d).1.ink 1=true/\(yU ks alt d).1.W=d.1.W/\(yU ks alt d).1.H=d.1.H:=by
 intro d h;obtain ⟨e,c,hw⟩:=yH rfl h.p;unfold yU;rw [XM rfl hk h.p];have r:xz alt ks d.1.W d.1.H d.1.ink d.1.ink.length:=xz.of rfl hk h.p;obtain ⟨_,_,_,_,_,b⟩:=Kg r d.1.ink.length nI;have hl:(yC alt ks d.1.W d.1.H d.1.ink d.1.ink.length).dots.length=d.1.ink.length:=(ZE d.1.ink.length).1;exact ⟨wn e hl c b,rfl,rfl⟩
theorem zIh {F:Dat->Dat × List UInt8} (b:jY l=some F):Qe F:=by
 unfold jY at b;by_cases h:l=[101,114,114,111,114]
 rw [if_pos h] at b;cases b;exact vY _ (fun d q h c=>h);rw [if_neg h] at b;clear h;by_cases h:l=[99,111,117,110,116,115]
 rw [if_pos h] at b;cases b;exact vY _ (fun d q h c=>h);rw [if_neg h] at b;clear h;by_cases h:l=[109,101,97,110]
 rw [if_pos h] at b;cases b;exact vY _ (fun d q h c=>h);rw [if_neg h] at b;clear h;by_cases h:l=[114,117,110,115]
 rw [if_pos h] at b;cases b;exact vY _ (fun d q h c=>h);rw [if_neg h] at b;clear h;by_cases h:l=[115,104,111,119]
 rw [if_pos h] at b;cases b;exact vY _ (fun d q h c=>h);rw [if_neg h] at b;clear h;by_cases h:l=[100,114,111,112]
 rw [if_pos h] at b;cases b;exact vY _ zKw;rw [if_neg h] at b;clear h;by_cases h:l=[109,105,114,114,111,114]
 rw [if_pos h] at b;cases b;exact vY _ (Xl _ zLS);rw [if_neg h] at b;clear h;by_cases h:l=[115,104,114,105,110,107]
 rw [if_pos h] at b;cases b;exact vY _ (Xl _ (zAm _));rw [if_neg h] at b;clear h;by_cases h:l=[103,114,111,119]
 rw [if_pos h] at b;cases b;exact vY _ (Xl _ (zAm _));rw [if_neg h] at b;clear h;by_cases h:l=[100,105,102,102,117,115,101,32,112,108,97,105,110,32,98,111,116,104]
 rw [if_pos h] at b;cases b;exact wJ _ (ZP dC);rw [if_neg h] at b;clear h;by_cases h:l=[100,105,102,102,117,115,101,32,112,108,97,105,110,32,108,101,102,116]
 rw [if_pos h] at b;cases b;exact wJ _ (ZP dC);rw [if_neg h] at b;clear h;by_cases h:l=[100,105,102,102,117,115,101,32,115,116,101,105,110,32,98,111,116,104]
 rw [if_pos h] at b;cases b;exact wJ _ (ZP dC);rw [if_neg h] at b;clear h;by_cases h:l=[100,105,102,102,117,115,101,32,115,116,101,105,110,32,108,101,102,116]
 rw [if_pos h] at b;cases b;exact wJ _ (ZP dC);rw [if_neg h] at b;clear h;by_cases h:l=[115,99,114,101,101,110]
 rw [if_pos h] at b;cases b;exact wJ _ zDw;rw [if_neg h] at b;clear h;by_cases h:l=[114,101,118,101,114,115,101]
 rw [if_pos h] at b;cases b;exact wk _;rw [if_neg h] at b;clear h;cases b
theorem zNW {F:Dat->Dat × List UInt8} (b:kx l xs=some F):Qe F:=by
 unfold kx at b;by_cases h:l=[102,108,97,116]/\xs.length=3
 rw [if_pos h] at b;cases b;exact zFF _;rw [if_neg h] at b;clear h;by_cases h:l=[114,97,109,112]/\xs.length=2
 rw [if_pos h] at b;cases b;exact zFF _;rw [if_neg h] at b;clear h;by_cases h:l=[98,97,121,101,114]/\xs.length=1
 rw [if_pos h] at b;cases b;exact wk _;rw [if_neg h] at b;clear h;by_cases h:l=[115,112,105,114,97,108]/\xs.length=1
 rw [if_pos h] at b;cases b;exact wk _;rw [if_neg h] at b;clear h;by_cases h:l=[115,112,111,116]/\xs.length=2
 rw [if_pos h] at b;cases b;exact wk _;rw [if_neg h] at b;clear h;by_cases h:l=[114,97,110,107]/\xs.length=3
 rw [if_pos h] at b;cases b;exact wk _;rw [if_neg h] at b;clear h;by_cases h:l=[115,104,105,102,116]/\xs.length=2
 rw [if_pos h] at b;cases b;exact wk _;rw [if_neg h] at b;clear h;by_cases h:l=[108,101,118,101,108]/\xs.length=1
 rw [if_pos h] at b;cases b;exact zIg _;rw [if_neg h] at b;clear h;cases b
theorem zLt {d:Dat} (s:ByteArray) (h:yX d=true):yX (kW d s).1=true:=by
 rw [jJ] at h⊢;unfold kW;split;split;exact h;split;rename_i F b;unfold qd at b;split at b;rename_i G c;cases b;exact zIh c d h;split at b;exact zNW b d h;cases b;exact h;exact h
theorem zHd {D:Dsk} (h:RdD w D) (hk:yX D.dat=true):UY D:=by
 have o:=(jJ _).1 hk
 have q: ∀(W H m:Int) (a:Option Addr) (xs:List Int),zP W H xs m=true->Rd w a xs-> ∃b off,a=some ⟨b,off,none⟩:=by
  intro W H m a xs hp hr;obtain ⟨b,off,e,_,_⟩:=hr.at (og (qo hp).1);exact ⟨b,off,e⟩
 refine ⟨q _ _ _ _ _ o.p h.pr,?_,fun k c=>?_⟩;have hm:=o.m;unfold zq at hm;simp only [Bool.and_eq_true,decide_eq_true_eq] at hm;have u:=xA hm.1;have hl:(D.M.ink.length:Int)=D.M.W*D.M.H:=hm.2.1;have z:1<=D.M.W*D.M.H:=u.2.2.2.2.2;obtain ⟨b,off,e,_,_⟩:=h.mr.at om;exact ⟨b,off,e⟩;have hp:=(o.s _ (zCO c)).1;obtain ⟨b,off,_,_,_,_,_,hl,g⟩:=h.sr k c;exact q _ _ _ _ _ hp g
theorem zDn (D:Dsk) (s:ByteArray) (w:World) (hr:RdD w D) (b:jX D) (ha:UY D) (c:s.size<=1048576) (hL:jt w):
 Calls prog 8 #[D.val, .string s] w (zBn w (kW D.dat s)):=zEv D s w hr b ha c hL uJ
theorem UC: ∀(k:Nat) (s:List UInt8),(Lib.replaceK [10] [47] k s).length<=s.length+k
 | 0,s=>nI
 | k+1,s=>by
  unfold Lib.replaceK;split;omega;have b:=UC k (s.drop ((Lib.index s [10]).toNat+1));simp only [Yn,Yj,List.length_drop,List.length_singleton] at b⊢;omega
theorem zOS {d:Dat} (h:(kD q.W q.H q.ink).length<=1048576):(ur d q).2.length<=4194304:=by
 unfold ur Lib.replaceAll Lib.replace;have h2:=zGA (kD q.W q.H q.ink) [10];dsimp only;split;omega;have h3:=UC (Lib.replaceNum (Lib.trimSuffix (kD q.W q.H q.ink) [10]) [10] (-1)) (Lib.trimSuffix (kD q.W q.H q.ink) [10]);have h4:=Lib.count_le (Lib.trimSuffix (kD q.W q.H q.ink) [10]) [10];have b:Lib.replaceNum (Lib.trimSuffix (kD q.W q.H q.ink) [10]) [10] (-1)=Lib.count (Lib.trimSuffix (kD q.W q.H q.ink) [10]) [10]:=by unfold Lib.replaceNum;rw [if_pos (.inl om)]
 omega
theorem zMT (h: ∀x,x ∈ xs->yK x):(xI xs).length<=22*xs.length:=by
 unfold xI
 have:=JL [32] sI (xs.map Lib.itoa) (fun x b=>by
  obtain ⟨v,hv,rfl⟩:=List.mem_map.1 b
  exact Lib.itoa_length_le v (h v hv).1 (h v hv).2)
 rwa [List.length_map] at this
theorem zEI (h:xs.length<=4096/\ ∀x,x ∈ xs->yK x):(xI xs).length<=4194304:=by
 have:=zMT h.2;omega
theorem Uo (h:yK x):(xI [x]).length<=4194304:=zEI ⟨sI,fun y b=>by rw [List.mem_singleton.1 b];exact h⟩
theorem zRW (h:yK x/\yK y):(xI [x,y]).length<=4194304:=zEI ⟨sI,fun z b=>by
 simp only [List.mem_cons,List.mem_nil_iff,or_false] at b;rcases b with rfl | rfl
 exact h.1
 exact h.2⟩
def TL (F:Dat->Dat × List UInt8):Prop:= ∀d,OkD d->(F d).2.length<=4194304
theorem zMW (p:Pic):TL (jP p):=fun d h=>by unfold jP;split <;>simp [jM,vq]
theorem Km (f:Pic->Pic):TL (xC f):=fun d h=>by unfold xC;split <;>simp [jM,vq]
theorem zOi (i:Int):TL (vJ i):=fun d h=>by
 unfold vJ;dsimp only;split;simp [vq];have:=YW d.2.1.W d.2.1.H d.2.1.ink i;exact Uo ⟨om,om⟩
theorem XH (f:Dat->Pic × List UInt8) (hf: ∀d,OkD d->(f d).2.length<=4194304):TL (yg f):=fun d h=>by
 unfold yg;split;simp [KE];exact hf d h
theorem qJ (F:Dat->Pic->Dat × List UInt8) (b: ∀d q,OkD d->q ∈ d.2.2->(F d q).2.length<=4194304):TL (yS F):=fun d h=>by
 unfold yS;split;simp [KH];rename_i hl;exact b d _ h (by rw [Yh,Ya om];exact List.getElem_mem _)
theorem zOj {F:Dat->Dat × List UInt8} (b:jY l=some F):TL F:=by
 unfold jY at b;by_cases h:l=[101,114,114,111,114]
 rw [if_pos h] at b;cases b;exact qJ _ (fun d q h c=>Uo ((uJ ((jJ d).2 h)).err q c));rw [if_neg h] at b;clear h;by_cases h:l=[99,111,117,110,116,115]
 rw [if_pos h] at b;cases b;exact qJ _ (fun d q h c=>zEI (uJ ((jJ d).2 h)).counts);rw [if_neg h] at b;clear h;by_cases h:l=[109,101,97,110]
 rw [if_pos h] at b;cases b;exact qJ _ (fun d q h c=>zRW ((uJ ((jJ d).2 h)).mean q c));rw [if_neg h] at b;clear h;by_cases h:l=[114,117,110,115]
 rw [if_pos h] at b;cases b;exact qJ _ (fun d q h c=>zEI ((uJ ((jJ d).2 h)).runs q c));rw [if_neg h] at b;clear h;by_cases h:l=[115,104,111,119]
 rw [if_pos h] at b;cases b;exact qJ _ (fun d q h c=>zOS ((uJ ((jJ d).2 h)).text q c));rw [if_neg h] at b;clear h;by_cases h:l=[100,114,111,112]
 rw [if_pos h] at b;cases b;exact qJ _ (fun d q h c=>by simp [vt,jM]);rw [if_neg h] at b;clear h;by_cases h:l=[109,105,114,114,111,114]
 rw [if_pos h] at b;cases b;exact qJ _ (fun d q h c=>by simp [yp,jM]);rw [if_neg h] at b;clear h;by_cases h:l=[115,104,114,105,110,107]
 rw [if_pos h] at b;cases b;exact qJ _ (fun d q h c=>by simp [yp,jM]);rw [if_neg h] at b;clear h;by_cases h:l=[103,114,111,119]
 rw [if_pos h] at b;cases b;exact qJ _ (fun d q h c=>by simp [yp,jM]);rw [if_neg h] at b;clear h;by_cases h:l=[100,105,102,102,117,115,101,32,112,108,97,105,110,32,98,111,116,104]
 rw [if_pos h] at b;cases b;exact XH _ (fun d h=>Uo ((uJ ((jJ d).2 h)).plain _));rw [if_neg h] at b;clear h;by_cases h:l=[100,105,102,102,117,115,101,32,112,108,97,105,110,32,108,101,102,116]
 rw [if_pos h] at b;cases b;exact XH _ (fun d h=>Uo ((uJ ((jJ d).2 h)).plain _));rw [if_neg h] at b;clear h;by_cases h:l=[100,105,102,102,117,115,101,32,115,116,101,105,110,32,98,111,116,104]
 rw [if_pos h] at b;cases b;exact XH _ (fun d h=>Uo ((uJ ((jJ d).2 h)).stein _));rw [if_neg h] at b;clear h;by_cases h:l=[100,105,102,102,117,115,101,32,115,116,101,105,110,32,108,101,102,116]
 rw [if_pos h] at b;cases b;exact XH _ (fun d h=>Uo ((uJ ((jJ d).2 h)).stein _));rw [if_neg h] at b;clear h;by_cases h:l=[115,99,114,101,101,110]
 rw [if_pos h] at b;cases b;exact XH _ (fun d h=>by simp [xV,jM]);rw [if_neg h] at b;clear h;by_cases h:l=[114,101,118,101,114,115,101]
 rw [if_pos h] at b;cases b;exact Km _;rw [if_neg h] at b;clear h;cases b
theorem zQn {F:Dat->Dat × List UInt8} (b:kx l xs=some F):TL F:=by
 unfold kx at b;by_cases h:l=[102,108,97,116]/\xs.length=3
 rw [if_pos h] at b;cases b;exact zMW _;rw [if_neg h] at b;clear h;by_cases h:l=[114,97,109,112]/\xs.length=2
 rw [if_pos h] at b;cases b;exact zMW _;rw [if_neg h] at b;clear h;by_cases h:l=[98,97,121,101,114]/\xs.length=1
 rw [if_pos h] at b;cases b;exact Km _;rw [if_neg h] at b;clear h;by_cases h:l=[115,112,105,114,97,108]/\xs.length=1
 rw [if_pos h] at b;cases b;exact Km _;rw [if_neg h] at b;clear h;by_cases h:l=[115,112,111,116]/\xs.length=2
 rw [if_pos h] at b;cases b;exact Km _;rw [if_neg h] at b;clear h;by_cases h:l=[114,97,110,107]/\xs.length=3
 rw [if_pos h] at b;cases b;exact Km _;rw [if_neg h] at b;clear h;by_cases h:l=[115,104,105,102,116]/\xs.length=2
 rw [if_pos h] at b;cases b;exact Km _;rw [if_neg h] at b;clear h;by_cases h:l=[108,101,118,101,108]/\xs.length=1
 rw [if_pos h] at b;cases b;exact zOi _;rw [if_neg h] at b;clear h;cases b
theorem zAF {d:Dat} (s:ByteArray) (h:yX d=true):(kW d s).2.length<=4194304:=by
 have c:=(jJ d).1 h;unfold kW;rw [if_pos h];split;simp;split;rename_i F b;unfold qd at b;split at b;rename_i G e;cases b;exact zOj e d c;split at b;exact zQn b d c;cases b;simp [jc]
def xm (w:World) (B:Nat) (ad:Option Addr) (n cap:Nat) (L:List ByteArray):Prop:=w.ownsRow B 9 1 (.slice ad n cap) n (L.map Value.string)
theorem xm.none (w:World) (B:Nat):xm w B none 0 0 []:=⟨sI, .inl ⟨rfl,rfl⟩⟩
theorem xm.len {L:List ByteArray} (h:xm w B ad n cap L):L.length=n:=by
 have:=h.1;simpa using this
theorem xm.block {L:List ByteArray} (h:xm w B ad n cap L): ∀b,zL ad=some b->B<=b/\b<w.heap.size:=by
 intro b hb;rcases h.2 with ⟨h1,_⟩ | ⟨g,c,e,h1,k,hg,_⟩
 obtain ⟨rfl,_⟩:ad=Option.none/\_:=by simpa using h1
 cases hb;obtain ⟨rfl,_⟩:ad=some ⟨g,0,Option.none⟩/\_:=by simpa using h1
 cases hb;refine ⟨k,?_⟩;rcases Nat.lt_or_ge g w with h | h
 exact h;rw [Array.getElem?_eq_none om] at hg;cases hg
theorem xm.keep {L:List ByteArray} (h:xm w B ad n cap L) (hk: ∀b,zL ad=some b->w'.heap[b]? =w.heap[b]?):xm w' B ad n cap L:=by
 obtain ⟨hl,h⟩:=h;refine ⟨hl,?_⟩;rcases h with h | ⟨g,c,e,h1,k,hg,h2⟩
 exact .inl h;obtain ⟨rfl,_⟩:ad=some ⟨g,0,Option.none⟩/\_:=by simpa using h1
 exact .inr ⟨g,c,e,h1,k,(hk g rfl).trans hg,h2⟩
theorem xm.below {L:List ByteArray} (h:xm w B ad n cap L) (hb:Below w w w'):xm w' B ad n cap L:=
 h.keep (fun b c=>hb.block b (h.block b c).2)
theorem xm.alloc {w:World} {B n cap:Nat} {ad:Option Addr} {L:List ByteArray} (h:xm w B ad n cap L) (o:Obj):xm (w.alloc o) B ad n cap L:=h.below (Joins.below_alloc1 w o)
theorem xm.rd {L:List ByteArray} (h:xm w B ad n cap L):RdS w ad L:=by
 intro k hk;have hl:=h.len;have b:=h.block;rcases h.2 with ⟨_,s⟩ | ⟨g,c,e,h1,u,hg,_⟩
 omega;obtain ⟨rfl,rfl⟩:ad=some ⟨g,0,Option.none⟩/\cap=c:=by simpa using h1
 refine ⟨g,0,rfl,(b g rfl).2,?_⟩;have:=World.ownsRow.cellAt (show w.ownsRow B 9 1 (.slice (some ⟨g,0,Option.none⟩) n cap) n (L.map Value.string) from h) k om;rw [Nat.zero_add,this,List.getElem?_map,Ya hk];rfl
theorem vM (w:World) {rest:List Oper}
 (A:o.guard=none) (s x:Operand) (C:o.op= .call {callee:= .builtin .append,args:=#[s,x],argTypes:=#[50,50]})
 (B n cap:Nat) (ad:Option Addr) (L:List ByteArray) (O:a.eval s= .slice ad n cap) (N:xm w B ad n cap L) (g:Nat) (v:ByteArray) (R:a.eval x= .slice ↑g 1 1)
 (hc:w.cell? g=some (.string v)) (hn:n<=1048576) (J:B<=w.heap.size)
 (hK: ∀e b w',xm w' B e (n+1) b (L++ [v])->w.grownBy w' (zL ad)->wpList prog ops Q rest (a.put o.dst (.slice e (n+1) b)) w'):
 wpList prog ops Q (o::rest) a w:=by
 obtain ⟨i,hi,D,E,F⟩:=info_parts zHr;refine wpList_append_own w A s x 50 C B 9 i (.string ByteArray.empty) 1 16 underlying50 hi D E F (by simp [Value.cells]) om _ n (L.map Value.string) O N ↑g 1 1 [Value.string v] R sI ?_ ?_ (by unfold maxLen;omega) om J ?_;intro j u k
 match j,k with
 | 0,k=>
  simp at k;subst k;rw [show (Addr.mk g 0 none).add 0=↑g by rw [Addr.add_lit],hc]
 | j+1,k=>simp at k
 intro u P;obtain rfl:=List.mem_singleton.1 P;rfl;intro G w' h2 h3 h4
 have M:G≠ .slice none 0 0:=by
  rintro rfl;rcases h2.2 with ⟨_,I⟩ | ⟨g,c,z,h1,_⟩
  omega;cases h1
 obtain ⟨e,b,rfl⟩: ∃e b,G= .slice e (n+1) b:=by
  rcases h2.2 with ⟨_,I⟩ | ⟨g,c,z,h1,_⟩
  omega;exact ⟨_,_,h1⟩
 rw [xj] at h3;exact hK e b w' (by unfold xm;simpa using h2) h3
theorem Uv (s:ByteArray) (pos:Nat): ∀k,1<=k->k<(Utf8.decode s pos).2->pos+k<s.size/\(s.get! (pos+k)).toNat/64=2:=by
 intro k h1 h2;simp only [Utf8.decode] at h2
 repeat' (split at h2)
 all_goals (try (exfalso;simp at h2;omega))
 all_goals (
  rename_i hc _;simp only [Bool.and_eq_true,decide_eq_true_eq,beq_iff_eq] at hc;dsimp only at h2;have hk:k=1\/k=2\/k=3:=om
  rcases hk with e | e | e)
 all_goals (subst e;first | (exfalso;omega;done) | (constructor <;>omega))
theorem XR (s:ByteArray) (pos:Nat) (h:pos<s.size):((Utf8.decode s pos).1=10↔(s[pos]'h).toNat=10)/\1<=(Utf8.decode s pos).2/\((Utf8.decode s pos).1=10->(Utf8.decode s pos).2=1):=by
 by_cases ha:(s[pos]'h).toNat<128
 rw [decode_ascii s pos h ha];exact ⟨Iff.rfl,nI,fun _=>rfl⟩;obtain ⟨a,b⟩:=decode_high s pos h om;refine ⟨⟨fun e=>om,fun e=>om⟩,b,fun e=>om⟩
theorem zIk (s:ByteArray) (pos:Nat) (h:pos<s.size):pos+(Utf8.decode s pos).2<=s.size:=by
 have h1:=(XR s pos h).2.1;by_cases e:(Utf8.decode s pos).2=1
 omega;have:=(Uv s pos ((Utf8.decode s pos).2 - 1) om om).1;omega
def zg (s:ByteArray):Nat->List ByteArray × Nat
 | 0=>([],0)
 | k+1=>if (s.get! k).toNat=10 then ((zg s k).1++ [s.extract (zg s k).2 k],k+1) else zg s k
def yw (s:ByteArray):List ByteArray:=
 if 40<(zg s s.size).1.length then (zg s s.size).1.take 41 else if (zg s s.size).2<s.size then (zg s s.size).1++ [s.extract (zg s s.size).2 s.size] else (zg s s.size).1
theorem uv (s:ByteArray) (k:Nat):zg s (k+1)=if (s.get! k).toNat=10 then ((zg s k).1++ [s.extract (zg s k).2 k],k+1) else zg s k:=rfl
theorem Zo (s:ByteArray): ∀k,(zg s k).2<=k
 | 0=>nI
 | k+1=>by
  unfold zg;split;exact nI;exact Nat.le_succ_of_le (Zo s k)
theorem QM (s:ByteArray): ∀k,(zg s k).1.length<=k
 | 0=>nI
 | k+1=>by
  have:=QM s k;unfold zg;split;simp only [Yn,List.length_singleton];omega;omega
theorem vK (s:ByteArray): ∀k l,l ∈ (zg s k).1->l.size<=s.size
 | 0,l,h=>by simp [zg] at h
 | k+1,l,h=>by
  unfold zg at h;split at h;rcases List.mem_append.1 h with h | h
  exact vK s k l h;rw [List.mem_singleton.1 h,ByteArray.size_extract];omega;exact vK s k l h
theorem QN (s:ByteArray) (k:Nat): ∀m,∃T,(zg s (k+m)).1=(zg s k).1++T
 | 0=>⟨[],sI⟩
 | m+1=>by
  obtain ⟨T,h⟩:=QN s k m;rw [show k+(m+1)=(k+m)+1 by omega,uv];split;exact ⟨T++ [s.extract (zg s (k+m)).2 (k+m)],by dsimp only;rw [h,List.append_assoc]⟩;exact ⟨T,h⟩
theorem Vp (s:ByteArray) (p:Nat): ∀w,(∀k,k<w->(s.get! (p+k)).toNat≠10)->zg s (p+w)=zg s p
 | 0,_=>rfl
 | w+1,h=>by
  have b:=Vp s p w (fun k hk=>h k om);rw [show p+(w+1)=(p+w)+1 by omega,uv,if_neg (h w om),b]
theorem zGo (s:ByteArray) (p:Nat) (h:p<s.size) (hr:(Utf8.decode s p).1=10):(Utf8.decode s p).2=1/\zg s (p+1)=((zg s p).1++ [s.extract (zg s p).2 p],p+1):=by
 obtain ⟨h1,h2,h3⟩:=XR s p h;refine ⟨h3 hr,?_⟩;have e:=h1.1 hr;rw [<-get_at s p h,Yy] at e;rw [uv,if_pos e]
theorem zBA (s:ByteArray) (p:Nat) (h:p<s.size) (hr:(Utf8.decode s p).1≠10):zg s (p+(Utf8.decode s p).2)=zg s p:=by
 obtain ⟨h1,h2,h3⟩:=XR s p h;refine Vp s p _ (fun k hk=>?_);by_cases b:k=0
 subst b;rw [get_at s p h];exact fun e=>hr (h1.2 e);have:=(Uv s p k om hk).2;omega
theorem zGm (s:ByteArray) (p:Nat) (hp:p<=s.size) (h:(zg s p).1.length=41):yw s=(zg s p).1:=by
 obtain ⟨T,e⟩:=QN s p (s.size - p);rw [show p+(s.size - p)=s.size by omega] at e;unfold yw;rw [if_pos (by rw [e,Yn];omega),e,<-h,List.take_left]
theorem xm.mono {L:List ByteArray} (h:xm w B ad n cap L) (e:B'<=B):xm w B' ad n cap L:=by
 obtain ⟨hl,h⟩:=h;refine ⟨hl,?_⟩;rcases h with h | ⟨g,c,b,h1,h2,h3⟩
 exact .inl h;exact .inr ⟨g,c,b,h1,Yx e h2,h3⟩
set_option maxRecDepth 100000 in
theorem zEy (s:ByteArray) (w:World) (hz:s.size<=1048576):
 Calls prog 41 #[.string s] w fun e w'=> ∃ad n c,e= .returned (.slice ad n c)/\xm w' w ad n c (yw s)/\Below w w w':=by
 go_in;go_wp2_with fail
 go_loopw [3,4] (fun l t wr=> ∃(p n c:Nat) (ad:Option Addr),p<=s.size/\wr.heap[w.heap.size]? =some (.stringIter s p)/\l= .slice ad n c/\t=↑((zg s p).2:Nat)/\xm wr (w.heap.size+1) ad n c (zg s p).1/\n<=40/\Below w w wr) (fun _ _ wr=>s.size - wr.iterPos w)
 case atStart=>exact ⟨0,0,0,none,nZ,World.iter_heap w s 0,rfl,rfl,xm.none _ _,om,zJ bR _⟩
 obtain ⟨p,n,c,ad,hp,T,rfl,rfl,N,hn,hb⟩:=hrel;have HI:=Jh T;have HR:=Jh N;have HB:=Jh hb;have L:Hd (wr.iterPos w.heap.size=p):=Jh (by unfold World.iterPos;rw [T]);clear T N hb;have b3:=Zo s p;by_cases z:p<s.size
 . have X:=fun ty=>Lib.run_next_any_at (P:=prog) wr w s p ty HI.Z z
   have Y:=zIk s p z;have b6:=(XR s p z).2.1;obtain ⟨O,A⟩:=zN (wr.iterAt w s (p+(Utf8.decode s p).2));have F:Hd (O.heap[w.heap.size]? =some (.stringIter s (p+(Utf8.decode s p).2))):=Jh (by rw [A];exact Lib.iterAt_heap wr _ s p _ HI.Z);have u:Hd (xm O (w.heap.size+1) ad n c (zg s p).1):=Jh (by rw [A];exact HR.Z.keep (fun b b5=>Lib.iterAt_other wr _ b s _ (og (HR.Z.block b b5))));have k:Hd (Below w w O):=Jh (by rw [A];exact Lib.below_iterAt HB.Z nI s _)
   have R:Hd (w.heap.size+1<=O.heap.size):=Jh (by
    have:=(Array.getElem?_eq_some_iff.1 F.Z).1
    omega)
   rw [<-A] at X;by_cases hr:(Utf8.decode s p).1=10
   . obtain ⟨b0,b1⟩:=zGo s p z hr
     have J:=Jh b1;rw [b0] at F Y A;rw [hr] at X;obtain ⟨st,C⟩: ∃st,(zg s p).2=st:=⟨_,rfl⟩
     rw [C] at b3 J⊢;clear b0 b1 hr b6 A;by_cases b4:n=40
     . subst b4
       go_wp2_with (at_builtin;refine vM _ rfl (.tmp 15) (.tmp 20) rfl (w.heap.size+1) 40 c ad (zg s p).1 rfl (u.Z.alloc _) O.heap.size (s.extract st p) rfl (by go_simp) om (oS R.Z) ?_;intro G g w5 I D);have b2:=u.Z.len;have e1:yw s=(zg s p).1++ [s.extract st p]:=by rw [zGm s (p+1) Y (by rw [J.Z];simp [b2]),J.Z]
       go_ret;exact ⟨G,41,g,rfl,by rw [e1];exact I.mono om,((k.Z.alloc k.Z.size _).grown D (oS k.Z.size) (fun b hb=>by have:=u.Z.block b hb;omega))⟩
     have b8:n<40:=om;go_wp2_with (at_builtin;refine vM _ rfl (.tmp 15) (.tmp 20) rfl (w.heap.size+1) n c ad (zg s p).1 rfl (u.Z.alloc _) O.heap.size (s.extract st p) rfl (by go_simp) om (oS R.Z) ?_;intro G g w5 I D)
     have M:w5.heap[w.heap.size]? =some (.stringIter s (p+1)):=by
      have hs:=R.Z;rw [D.block w sO (fun e=>by have:=u.Z.block w e.symm;omega),Below.heap_alloc O _ w om];exact F.Z
     refine ⟨⟨p+1,n+1,g,G,Y,M,rfl,by rw [J.Z];go_num,by rw [J.Z];exact I,om,((k.Z.alloc k.Z.size _).grown D (oS k.Z.size) (fun b hb=>by have:=u.Z.block b hb;omega))⟩,?_⟩;have e1:w5.iterPos w.heap.size=p+1:=by unfold World.iterPos;rw [M]
     rw [L.Z,e1];omega
   have c0: ¬((Utf8.decode s p).1:Int)=10:=om;clear A;go_wp2_with fail;go_roundw
   case rel=>exact ⟨p+(Utf8.decode s p).2,n,c,ad,om,F.Z,rfl,by rw [zBA s p z hr],by rw [zBA s p z hr];exact u.Z,hn,k.Z⟩
   have e1:O.iterPos w.heap.size=p+(Utf8.decode s p).2:=by unfold World.iterPos;rw [F.Z]
   rw [L.Z,e1];omega
 have X:=fun ty=>Lib.run_next_end_at (P:=prog) wr w s p ty HI.Z z;obtain rfl:p=s.size:=om;have U:=HR.Z.len;have c1:=HB.Z.size;have c4:w.heap.size<wr.heap.size:=(Array.getElem?_eq_some_iff.1 HI.Z).1;by_cases V:(zg s s.size).2<s.size
 . have E:yw s=(zg s s.size).1++ [s.extract (zg s s.size).2 s.size]:=by
    unfold yw;rw [if_neg om,if_pos V]
   have J:=Jh E;have b7:=Jh U;clear E U;obtain ⟨st,C⟩: ∃st,(zg s s.size).2=st:=⟨_,rfl⟩
   rw [C] at b3 J V⊢;clear C;go_wp2_with (at_builtin;refine vM _ rfl (.tmp 32) (.tmp 36) rfl (w.heap.size+1) n c ad (zg s s.size).1 rfl (HR.Z.alloc _) wr.heap.size (s.extract st s.size) rfl (by go_simp) om sO ?_;intro G g w5 I D);go_ret;exact ⟨G,n+1,g,rfl,by rw [J.Z];exact I.mono om,((HB.Z.alloc HB.Z.size _).grown D (oS HB.Z.size) (fun b hb=>by have:=HR.Z.block b hb;omega))⟩
 have E:yw s=(zg s s.size).1:=by
  unfold yw;rw [if_neg om,if_neg V]
 have J:=Jh E;clear E U;go_wp2_with fail;go_ret;exact ⟨ad,n,c,rfl,by rw [J.Z];exact HR.Z.mono om,HB.Z⟩
def qL (w:World) (B:Nat) (v:Value) (l:List UInt8):Prop:=xy w B v l.length (xr l)
theorem qL.below (h:qL w B v l) (hb:Below w w w'):qL w' B v l:=QP h hb
theorem Zw (l:List UInt8):(xr l).map (Value.int .u8)=l.map (fun b=>Value.int .u8 b.toNat):=by
 unfold xr;rw [List.map_map];rfl
theorem zQB (w:World) {rest:List Oper}
 (c:o.guard=none) (sl x:Operand) (e:o.op= .call {callee:= .builtin .append,args:=#[sl,x],argTypes:=#[72,9]})
 (B:Nat) (v:Value) (l:List UInt8) (D:a.eval sl=v) (C:qL w B v l) (s:ByteArray) (E:a.eval x= .string s) (z:l.length+s.size<=1073741824) (A:B<=w.heap.size)
 (hK: ∀b w',qL w' B b (l++s.data.toList)->w.grownBy w' v.ownBlock->wpList prog ops Q rest (a.put o.dst b) w'):
 wpList prog ops Q (o::rest) a w:=by
 obtain ⟨i,hi,g,k,u⟩:=info_parts zFE;refine Lib.wpList_append_own_string w c sl x 72 9 e B 5 i underlying72 underlying9 hi g k u v l.length ((xr l).map (Value.int .u8)) D C s E (by unfold maxLen;omega) om A ?_;intro b w' h2 h3 _;refine hK b w' ?_ h3;unfold qL xy;rw [Zw,List.map_append,<-Zw l,Yn];exact h2
theorem zOk (w:World) {rest:List Oper}
 (e:o.guard=none) (sl x:Operand) (k:o.op= .call {callee:= .builtin .append,args:=#[sl,x],argTypes:=#[72,72]})
 (B:Nat) (v:Value) (l:List UInt8) (F:a.eval sl=v) (E:qL w B v l) (g:Nat) (I:a.eval x= .slice ↑g 1 1) (hc:w.cell? g=some (.int .u8 10)) (C:l.length<=1073741824) (D:B<=w.heap.size)
 (hK: ∀c w',qL w' B c (l++ [10])->w.grownBy w' v.ownBlock->wpList prog ops Q rest (a.put o.dst c) w'):
 wpList prog ops Q (o::rest) a w:=by
 obtain ⟨i,hi,s,z,A⟩:=info_parts zFE;refine wpList_append_own w e sl x 72 k B 5 i (.int .u8 0) 1 1 underlying72 hi s z A (by simp [Value.cells]) om v l.length ((xr l).map (Value.int .u8)) F E ↑g 1 1 [Value.int .u8 10] I sI ?_ ?_ (by unfold maxLen;omega) om D ?_;intro j u b
 match j,b with
 | 0,b=>
  simp at b;subst b;rw [show (Addr.mk g 0 none).add 0=↑g by rw [Addr.add_lit],hc]
 | j+1,b=>simp at b
 intro u G;obtain rfl:=List.mem_singleton.1 G;rfl;intro c w' h2 h3 _;refine hK c w' ?_ h3;unfold qL xy;rw [Zw,List.map_append,<-Zw l,Yn];exact h2
noncomputable def yQ (L:List ByteArray):Nat->Dat × List UInt8
 | 0=>(zBD,[])
 | k+1=>((kW (yQ L k).1 (L.getD k ByteArray.empty)).1,(yQ L k).2++(if (kW (yQ L k).1 (L.getD k ByteArray.empty)).2=[] then [] else (kW (yQ L k).1 (L.getD k ByteArray.empty)).2++ [10]))
noncomputable def je (s:ByteArray):List UInt8 × Int:=if 40<(yw s).length then ([],-1) else ((yQ (yw s) (yw s).length).2,((yw s).length:Int))
theorem zQd:yX zBD=true:=dC
theorem XX (L:List ByteArray): ∀k,yX (yQ L k).1=true
 | 0=>zQd
 | k+1=>zLt _ (XX L k)
theorem Ja (L:List ByteArray): ∀k,(yQ L k).2.length<=k*4194305
 | 0=>nZ
 | k+1=>by
  have b:=Ja L k;have h:=zAF (L.getD k ByteArray.empty) (XX L k);have e:(k+1)*4194305=k*4194305+4194305:=Nat.succ_mul _ _;rw [e];generalize k*4194305=m at b;unfold yQ;dsimp only;rw [Yn];split;rw [List.length_nil];omega;rw [Yn,List.length_singleton];omega
end
end Go.Proofs.YtlenfgdjdianiaaGreatDoor
