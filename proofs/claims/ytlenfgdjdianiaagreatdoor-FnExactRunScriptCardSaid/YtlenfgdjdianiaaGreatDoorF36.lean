/- Facts on which this claim rests, 36. -/
import Derived.Test.YtlenfgdjdianiaaGreatDoorF34
import Derived.Test.YtlenfgdjdianiaaGreatDoorF35
set_option linter.all false
set_option maxHeartbeats 6400000
namespace Go.Proofs.YtlenfgdjdianiaaGreatDoor
open Go.RowKit Tq Go.Proofs.Tryz
variable {B ab bx f g h k kb kn nc : Nat} {H M W a i m x y : Int} {alt bo : Bool} {l : List UInt8} {na : Option Addr} {v : Value} {w w' w0 w1 : World} {xs : List Int}
def JX (p:Pic):Pic:=⟨(uW p.W p.H p.ink).W,(uW p.W p.H p.ink).H,(uW p.W p.H p.ink).ranks⟩
def kZ (k:Nat) (p:Pic):Pic:=jv k p.W p.H p.ink
def vw (p:Pic):Pic:=wl p.W p.H p.ink
def jY (l:List UInt8):Option (Dat->Dat × List UInt8):=
 if l=[101,114,114,111,114] then some (yS qQ) else if l=[99,111,117,110,116,115] then some (yS ue) else if l=[109,101,97,110] then some (yS ZN) else if l=[114,117,110,115] then some (yS ZQ) else if l=[115,104,111,119] then some (yS ur) else if l=[100,114,111,112] then some (yS vt) else if l=[109,105,114,114,111,114] then some (yS (yp (vw))) else if l=[115,104,114,105,110,107] then some (yS (yp (kZ 5))) else if l=[103,114,111,119] then some (yS (yp (kZ 1))) else if l=[100,105,102,102,117,115,101,32,112,108,97,105,110,32,98,111,116,104] then some (yg (yU yj true)) else if l=[100,105,102,102,117,115,101,32,112,108,97,105,110,32,108,101,102,116] then some (yg (yU yj false)) else if l=[100,105,102,102,117,115,101,32,115,116,101,105,110,32,98,111,116,104] then some (yg (yU yk true)) else if l=[100,105,102,102,117,115,101,32,115,116,101,105,110,32,108,101,102,116] then some (yg (yU yk false)) else if l=[115,99,114,101,101,110] then some (yg xV) else if l=[114,101,118,101,114,115,101] then some (xC JX) else none
structure BdD (d:Dat):Prop where
 n4:d.2.2.length<=4
 mean: ∀q,q ∈ d.2.2->yK (ku q.W q.H q.ink).1/\yK (ku q.W q.H q.ink).2
 runs: ∀q,q ∈ d.2.2->(jF q.W q.H q.ink).length<=4096/\ ∀x,x ∈ jF q.W q.H q.ink->yK x
 counts:(yt d.2.2).length<=4096/\ ∀x,x ∈ yt d.2.2->yK x
 err: ∀q,q ∈ d.2.2->yK (qf d.1.W d.1.H d.1.ink q.W q.H q.ink)
 text: ∀q,q ∈ d.2.2->(kD q.W q.H q.ink).length<=1048576
 stein: ∀alt,yK (kE yk d.1.W d.1.H d.1.ink alt).2.1
 plain: ∀alt,yK (kE yj d.1.W d.1.H d.1.ink alt).2.1
theorem zCO {L:List PV} (h:k<L.length):(pv L k).pic ∈ zS L:=List.mem_of_getElem? (zFS L k h)
def vL:List (Nat × Nat):=[(151,321),(137,318),(139,319),(142,320),(154,322)]
def Xg (v:Value) (F:Dat->Dat × List UInt8) (w0 w:World):Prop:=
 ∃T h p,(T,h) ∈ vL/\v= .iface T p/\ ∀B g D,xe w B g D->B<=w0.heap.size->g<w0.heap.size->(∀b,D.blocks b->b<w0.heap.size)->BdD D.dat->
  Calls prog h #[p, .pointer (some ⟨g,0,none⟩)] w (xT B g D F w)
theorem xN.below {kb ab g kn:Nat} {ks:List Prt} {alt:Bool} {w v:World} (h:xN kb ab g kn ks alt w) (hb:Below w w v):xN kb ab g kn ks alt v:=⟨h.1.zA hb,h.2.1.zA hb,h.2.2.below hb h.2.2.lt⟩
theorem ZH {ks:List Prt} (h:xN kb ab g kn ks alt w) (hk:ks.length=kn) (e:kn<=4) (hb: ∀D:Dsk,BdD D.dat->yK (kE ks D.P.W D.P.H D.P.ink alt).2.1):Xg (zAe kb ab) (yg (yU ks alt)) w0 w:=by
 refine ⟨_,319,_,by simp [vL],rfl,fun B g2 D b _ _ _ c=>?_⟩;refine zBM _ _ (yU ks alt) w B g2 D b (kQ _ _ _ func160 zK rfl) (by have:=c.n4;rw [show D.dat.2.2.length=D.n by rw [show D.dat.2.2=zS D.ps from rfl,xa];exact b.own.s.len] at this;exact this) (fun v hv=>?_);have h2:=h.below hv.Z;have j:v.cell? kb=some (.slice ↑g kn kn):=h2.1.cell 0;have o:v.cell? ab=some (.bool alt):=h2.2.1.cell 0;exact zDv kb ab kn kn _ ks alt D v (b.below hv.Z).own.rd b.small (b.below hv.Z).laid j o h2.1.lt h2.2.1.lt hk h2.2.2.rd om nI (hb D c)
theorem Kv {F:Pic->Pic} (h:ky bx f w) (j: ∀args w,(callFunc f args).run prog w= .ok (.enter f args) w)
 (hc: ∀(q:PV) (v:World),q.ink.length=q.n->Rd v q.a q.ink->q.n<=1048576->q.n<=q.c->Calls prog f #[.agg ↑q] v (jl v (F q.pic))):Xg (zIQ bx) (yS (yp F)) w0 w:=by
 refine ⟨_,320,_,by simp [vL],rfl,fun B g2 D b _ _ _ o=>?_⟩;refine zDN _ _ (yp F) w B g2 D b (kQ _ _ _ func163 zK rfl) (fun k r hk hr v hv=>?_);have h2:ky bx f v:=Blk.zA h hv.Z;have z:v.cell? bx=some (.func (.func f) #[] #[]):=Blk.cell h2 0;refine zHQ f bx F k r v B g2 D (b.below hv.Z) hk hr j z (Blk.lt h2) (fun u s=>?_);obtain ⟨c0,c1,c2,t,rd,A,e⟩:=((b.below hv.Z).below s.Z).last hk hr;exact hc _ u t rd A e
theorem wi {F:Dat->Pic->Dat × List UInt8} (e: ∀args w,(callFunc h args).run prog w= .ok (.enter h args) w)
 (hc: ∀(k r:Nat) (v:World) (B g:Nat) (D:Dsk),xe v B g D->BdD D.dat->D.n=k+1->D.a=some ↑r->(pv D.ps k).pic ∈ D.dat.2.2->Calls prog h #[.pointer ↑g, .pointer (some ↑(r,k*3))] v (xT B g D (fun d=>F d (pv D.ps k).pic) v)):Xg (fnV 142 h) (yS F) w0 w:=by
 refine ⟨_,320,_,by simp [vL],rfl,fun B g2 D b _ _ _ c=>?_⟩;refine zDN _ _ F w B g2 D b e (fun k r hk hr v hv=>?_);exact hc k r v B g2 D (b.below hv.Z) c hk hr (zCO (by rw [b.own.s.len,hk];omega))
theorem qo (h:zP W H xs m=true):1<=xs.length/\xs.length<=1024/\yY xs m=true/\1<=W/\W<=64/\1<=H/\H<=64:=by
 obtain ⟨b,c,hw⟩:=yH rfl h;have h1:=b;unfold yM at h1;simp only [Bool.and_eq_true,decide_eq_true_eq] at h1;have:=Vr W H om om om om;exact ⟨om,om,hw,om,om,om,om⟩
theorem zKv (h:yY xs 255=true):0<=ya xs/\ya xs<=255*(xs.length:Int):=by
 have:=wI h xs.length;rwa [List.take_length] at this
theorem zEc (b:0<=a) (h1:a<=M):0<=a/(g:Int)/\a/(g:Int)<=M:=
 ⟨Yw b om,Int.le_trans (Int.ediv_le_self _ b) h1⟩
theorem zDI (W H:Int) (xs:List Int):yK (ku W H xs).1/\yK (ku W H xs).2:=by
 by_cases h:zP W H xs 255=true
 obtain ⟨h1,h2,hw,_⟩:=qo h;have c:=zKv hw;unfold ku;rw [if_pos h];have a:=zEc (g:=Nat.gcd (ya xs).toNat xs.length) c.1 c.2;have b:=zEc (a:=(xs.length:Int)) (g:=Nat.gcd (ya xs).toNat xs.length) (M:=4096) om om;unfold yK;constructor <;>(dsimp only;omega)
 rw [Qv h];unfold yK;constructor <;>(dsimp only;omega)
theorem zNE (W H:Int) (xs:List Int) (e c:Int) (b:List Int) (j:zP W H xs 255=true):yK (qf W H xs e c b):=by
 by_cases h:kC W H xs e c b=true/\zP e c b 1=true
 obtain ⟨a1,a2,n,_⟩:=qo j;obtain ⟨b1,b2,o,_⟩:=qo h.2;rw [Qj rfl h.1 h.2]
 have hl:b.length<=xs.length:=by
  have hp:=h.1;unfold kC at hp;simp only [Bool.and_eq_true,decide_eq_true_eq] at hp;have q:=(yH rfl j).2.1;have s:=(yH rfl h.2).2.1;obtain ⟨rfl,rfl⟩:W=e/\H=c:=om;omega
 have:=zBx n o hl b.length nI;unfold yK;omega;rw [KJ h];unfold yK;omega
theorem zGU (L:List Pic):(yt L).length<=4096/\ ∀x,x ∈ yt L->yK x:=by
 unfold yt;split;rename_i h;obtain ⟨h1,h2,h3⟩:=XF h;have hp:=qo (h3 0 om).1;constructor;rw [zZ];have:2^L.length<=2^4:=Nat.pow_le_pow_right om h2;omega;intro x b;unfold gen at b;simp only [List.mem_map] at b;obtain ⟨r,_,rfl⟩:=b;have:=zBp (jD L) r ((L.getD 0 yb).ink.length);unfold yK;omega;simp
theorem zFd: ∀(r:List Int),(∀v,v ∈ r->1<=v)->(r.length:Int)<=ya r/\ ∀v,v ∈ r->v<=ya r
 | [],_=>by simp [ya]
 | a::r,h=>by
  obtain ⟨h1,h2⟩:=zFd r (fun v hv=>h v (List.mem_cons_of_mem _ hv));have ha:=h a (List.mem_cons_self ..);have e:ya (a::r)=a+ya r:=by rw [show a::r=[a]++r from rfl,ZK];simp [ya]
  rw [e];refine ⟨by simp only [List.length_cons];omega,fun v hv=>?_⟩;rcases List.mem_cons.1 hv with rfl | hv
  omega;have:=h2 v hv;omega
theorem zLx (W H:Int) (xs:List Int):(jF W H xs).length<=4096/\ ∀x,x ∈ jF W H xs->yK x:=by
 unfold jF;split;rename_i h;obtain ⟨h1,h2,hw,_⟩:=qo h
 have n: ∀k,k<xs.length->xs.getD k 0=0\/xs.getD k 0=1:=by
  intro k hk;unfold yY at hw;rw [Yp] at hw;have:=hw (xs.getD k 0) (by rw [Yh,Ya hk];exact List.getElem_mem hk);simp only [Bool.and_eq_true,decide_eq_true_eq] at this;omega
 obtain ⟨b,j⟩:=zOM n
 have c: ∀v,v ∈ YC xs->0<=v:=by
  intro v hv;cases hr:YC xs with
  | nil=>rw [hr] at hv;cases hv
  | cons a r=>
   rw [hr] at hv b;simp only [jq,Bool.and_eq_true,decide_eq_true_eq,Yp] at b;rcases List.mem_cons.1 hv with rfl | hv
   exact b.1;have:=b.2 v hv;omega
 have hl:=zDe c 0;rw [j] at hl;cases hr:YC xs with
 | nil=>simp
 | cons a r=>
  rw [hr] at b hl;simp only [jq,Bool.and_eq_true,decide_eq_true_eq,Yp] at b;obtain ⟨q,o⟩:=zFd r b.2;have e:ya (a::r)=a+ya r:=by rw [show a::r=[a]++r from rfl,ZK];simp [ya]
  rw [e] at hl;refine ⟨by simp only [List.length_cons];omega,fun v hv=>?_⟩;unfold yK;rcases List.mem_cons.1 hv with rfl | hv
  omega;have:=o v hv;have:=b.2 v hv;omega
 simp
theorem zCm (ks:List Prt) (W H:Int) (xs:List Int) (alt:Bool):yK (kE ks W H xs alt).2.1:=by
 by_cases h:xF ks=true/\zP W H xs 255=true
 rw [XM rfl h.1 h.2];have r:xz alt ks W H xs xs.length:=xz.of rfl h.1 h.2;obtain ⟨_,_,_,_,b,c⟩:=zCP r xs.length nI 0;unfold yK;dsimp only;omega;rw [YN h];unfold yK;dsimp only;omega
theorem zMU (W H:Int) (xs:List Int):(kD W H xs).length<=1048576:=by
 unfold kD;split;rename_i h;obtain ⟨_,_,_,h1,h2,h3,h4⟩:=qo h;rw [UU];have:(W.toNat+1)*H.toNat<=65*64:=Nat.mul_le_mul om om;omega;simp
theorem uJ {d:Dat} (h:yX d=true):BdD d:=by
 unfold yX at h;simp only [Bool.and_eq_true,Bool.or_eq_true,decide_eq_true_eq] at h;obtain ⟨⟨hp,hm⟩,b⟩:=h;refine ⟨?_,fun q _=>zDI _ _ _,fun q _=>zLx _ _ _,zGU _,fun q _=>zNE _ _ _ _ _ _ hp,fun q _=>zMU _ _ _,fun alt=>zCm _ _ _ _ _,fun alt=>zCm _ _ _ _ _⟩;rcases b with b | ⟨b,_⟩
 omega;exact (XF b).2.1
theorem zQQ {D:Dsk} (b:xe w B g D) (hk:D.n=k+1):k+1<=D.c:=by
 rcases b.own.s.row with ⟨_,h,_⟩ | ⟨g,_,_,e,_,h,_⟩
 omega;rw [b.own.s.len] at h;omega
theorem zKP {x:Zu} (e:zBm x w) (l:List UInt8):(x.S l=none/\jY l=none)\/ ∃v F,x.S l=some v/\jY l=some F/\Xg v F w0 w:=by
 unfold Zu.S Vx jY;simp only [uU];by_cases h:l=[101,114,114,111,114]
 rw [if_pos h,if_pos h];exact .inr ⟨_,_,rfl,rfl,wi (F:=qQ) (kQ _ _ _ func130 zK rfl) (fun k r v B g D b hb hk hr hm=>zJd k r v B g D b hk hr (hb.err _ hm))⟩;rw [if_neg h,if_neg h];clear h;by_cases h:l=[99,111,117,110,116,115]
 rw [if_pos h,if_pos h];exact .inr ⟨_,_,rfl,rfl,wi (F:=ue) (kQ _ _ _ func129 zK rfl) (fun k r v B g D b hb hk hr hm=>zHR k r v B g D b hk hr hb.counts)⟩;rw [if_neg h,if_neg h];clear h;by_cases h:l=[109,101,97,110]
 rw [if_pos h,if_pos h];exact .inr ⟨_,_,rfl,rfl,wi (F:=ZN) (kQ _ _ _ func128 zK rfl) (fun k r v B g D b hb hk hr hm=>zMY k r v B g D b hk hr (hb.mean _ hm))⟩;rw [if_neg h,if_neg h];clear h;by_cases h:l=[114,117,110,115]
 rw [if_pos h,if_pos h];exact .inr ⟨_,_,rfl,rfl,wi (F:=ZQ) (kQ _ _ _ func127 zK rfl) (fun k r v B g D b hb hk hr hm=>zMZ k r v B g D b hk hr (hb.runs _ hm))⟩;rw [if_neg h,if_neg h];clear h;by_cases h:l=[115,104,111,119]
 rw [if_pos h,if_pos h];exact .inr ⟨_,_,rfl,rfl,wi (F:=ur) (kQ _ _ _ func126 zK rfl) (fun k r v B g D b hb hk hr hm=>zMa k r v B g D b hk hr (hb.text _ hm))⟩;rw [if_neg h,if_neg h];clear h;by_cases h:l=[100,114,111,112]
 rw [if_pos h,if_pos h];exact .inr ⟨_,_,rfl,rfl,wi (F:=vt) (kQ _ _ _ func125 zK rfl) (fun k r v B g D b hb hk hr hm=>zMX k r v B g D b hk hr (zQQ b hk))⟩;rw [if_neg h,if_neg h];clear h;by_cases h:l=[109,105,114,114,111,114]
 rw [if_pos h,if_pos h];exact .inr ⟨_,_,rfl,rfl,Kv (F:=vw) e.c3 (kQ _ _ _ func124 zK rfl) (fun q v o rd u t=>Vd q.W q.H q.a q.n q.c q.ink v o rd om)⟩;rw [if_neg h,if_neg h];clear h;by_cases h:l=[115,104,114,105,110,107]
 rw [if_pos h,if_pos h];exact .inr ⟨_,_,rfl,rfl,Kv (F:=kZ 5) e.c2 (kQ _ _ _ func123 zK rfl) (fun q v o rd u t=>Qn q.W q.H q.a q.n q.c q.ink v o rd om t)⟩;rw [if_neg h,if_neg h];clear h;by_cases h:l=[103,114,111,119]
 rw [if_pos h,if_pos h];exact .inr ⟨_,_,rfl,rfl,Kv (F:=kZ 1) e.c1 (kQ _ _ _ func122 zK rfl) (fun q v o rd u t=>zBz q.W q.H q.a q.n q.c q.ink v o rd om t)⟩;rw [if_neg h,if_neg h];clear h;by_cases h:l=[100,105,102,102,117,115,101,32,112,108,97,105,110,32,98,111,116,104]
 rw [if_pos h,if_pos h];exact .inr ⟨_,_,rfl,rfl,ZH e.d4 rfl om (fun D hb=>hb.plain true)⟩;rw [if_neg h,if_neg h];clear h;by_cases h:l=[100,105,102,102,117,115,101,32,112,108,97,105,110,32,108,101,102,116]
 rw [if_pos h,if_pos h];exact .inr ⟨_,_,rfl,rfl,ZH e.d3 rfl om (fun D hb=>hb.plain false)⟩;rw [if_neg h,if_neg h];clear h;by_cases h:l=[100,105,102,102,117,115,101,32,115,116,101,105,110,32,98,111,116,104]
 rw [if_pos h,if_pos h];exact .inr ⟨_,_,rfl,rfl,ZH e.d2 rfl om (fun D hb=>hb.stein true)⟩;rw [if_neg h,if_neg h];clear h;by_cases h:l=[100,105,102,102,117,115,101,32,115,116,101,105,110,32,108,101,102,116]
 rw [if_pos h,if_pos h];exact .inr ⟨_,_,rfl,rfl,ZH e.d1 rfl om (fun D hb=>hb.stein false)⟩;rw [if_neg h,if_neg h];clear h;by_cases h:l=[115,99,114,101,101,110]
 rw [if_pos h,if_pos h];exact .inr ⟨_,_,rfl,rfl,⟨_,319,_,by simp [vL],rfl,fun B g D b _ _ _ j=>zBM _ _ xV w B g D b (kQ _ _ _ func117 zK rfl) (by have:=j.n4;rw [show D.dat.2.2.length=D.n by rw [show D.dat.2.2=zS D.ps from rfl,xa];exact b.own.s.len] at this;exact this) (fun v hv=>zFV D v (b.below hv.Z).own.rd b.small)⟩⟩;rw [if_neg h,if_neg h];clear h;by_cases h:l=[114,101,118,101,114,115,101]
 rw [if_pos h,if_pos h];exact .inr ⟨_,_,rfl,rfl,⟨_,318,_,by simp [vL],rfl,fun B g D b _ _ _ j=>zAB _ _ JX w B g D b (kQ _ _ _ func116 zK rfl) (fun v hv=>zGq D B g v (b.below hv.Z))⟩⟩;rw [if_neg h,if_neg h];clear h;exact .inl ⟨rfl,rfl⟩
def mp (m:Mat):Pic:=⟨m.W,m.H,m.ranks⟩
def shT (x y:Int) (p:Pic):Pic:=⟨(xb p.W p.H p.ink x y).W,(xb p.W p.H p.ink x y).H,(xb p.W p.H p.ink x y).ranks⟩
open Classical in
noncomputable def kx (l:List UInt8) (xs:List Int):Option (Dat->Dat × List UInt8):=
 if l=[102,108,97,116]/\xs.length=3 then some (jP (xH (xs.getD 0 0) (xs.getD 1 0) (xs.getD 2 0)).1) else
 if l=[114,97,109,112]/\xs.length=2 then some (jP (xP (xs.getD 0 0) (xs.getD 1 0)).1) else
 if l=[98,97,121,101,114]/\xs.length=1 then some (xC (fun _=>mp (xE (xs.getD 0 0)).1)) else
 if l=[115,112,105,114,97,108]/\xs.length=1 then some (xC (fun _=>mp (yu (xs.getD 0 0)).1)) else
 if l=[115,112,111,116]/\xs.length=2 then some (xC (fun _=>mp (xp (xs.getD 0 0) (xs.getD 1 0)).1)) else
 if l=[114,97,110,107]/\xs.length=3 then some (xC (fun _=>mp (kU (xs.getD 0 0) (xs.getD 1 0) (xs.getD 2 0)).1)) else
 if l=[115,104,105,102,116]/\xs.length=2 then some (xC (shT (xs.getD 0 0) (xs.getD 1 0))) else
 if l=[108,101,118,101,108]/\xs.length=1 then some (vJ (xs.getD 0 0)) else
 none
theorem zHh {p:Pic} (hb:Below w0 w0 w1) (h:VO w1 p (.returned (.tuple #[v, .bool bo])) w'):bo=true/\Xg v (jP p) w0 w':=by
 obtain ⟨a,n,c,he,o,hn,q⟩:=h;simp only [Ending.returned.injEq,Value.tuple.injEq,Array.mk.injEq,List.cons.injEq,Value.bool.injEq,and_true] at he;obtain ⟨rfl,rfl⟩:=he;refine ⟨rfl,_,321,_,by simp [vL],rfl,fun B g D j u hg hD s=>?_⟩;have t:=hb.size;exact zNs ⟨p.W,p.H,a,n,c,p.ink⟩ w' B g D j (o.mono om) (fun b h e=>by have:=o.bd b h;omega) (fun b h e=>by have:=o.bd b h;have:=hD b (.inr (.inl e));omega) hn
theorem XK {m:Mat} (hb:Below w0 w0 w1) (h:uH w1 m (.returned (.tuple #[v, .bool bo])) w'):bo=true/\Xg v (xC (fun _=>mp m)) w0 w':=by
 obtain ⟨A,a,n,c,he,hk,o,hn,s⟩:=h;simp only [Ending.returned.injEq,Value.tuple.injEq,Array.mk.injEq,List.cons.injEq,Value.bool.injEq,and_true] at he;obtain ⟨rfl,rfl⟩:=he;refine ⟨rfl,_,318,_,by simp [vL],rfl,fun B g D j C hg hD t=>?_⟩;have z:=hb.size
 exact zAB _ _ (fun _=>mp m) w' B g D j (kQ _ _ _ func180 zK rfl) (fun u q=>
  zLO A ⟨m.W,m.H,a,n,c,m.ranks⟩ D B g u (j.below q.Z) (hk.zA q.Z) ((o.mono om).zA q.Z) (fun b h=>⟨fun e=>by have:=o.bd b h;omega,fun e=>by have:=o.bd b h;have:=hD b e;omega⟩) hn)
theorem zKQ (hr:Rd w1 na [x,y]):Xg (.iface 137 (.func (.func 139) #[] #[.pointer ↑w1])) (xC (shT x y)) w0 (w1.alloc (.cells #[.slice na 2 nc] 22)):=by
 refine ⟨_,318,_,by simp [vL],rfl,fun B g D b j hg hD e=>?_⟩;have kb:=Blk.new w1 22 #[.slice na 2 nc]
 exact zAB _ _ (shT x y) _ B g D b (kQ _ _ _ func139 zK rfl) (fun u c=>
  zLP w1 na nc x y D B g u (b.below c.Z) ((kb.zA c.Z).cell 0) (kb.zA c.Z).lt ((hr.alloc _).below c.Z))
theorem zKO (c: ∀W H xs,-1<=kV W H xs i/\kV W H xs i<=9223372036854775807):Xg (.iface 154 ↑i) (vJ i) w0 w':=
 ⟨_,322,_,by simp [vL],rfl,fun B g D b j hg hD e=>zIv i w' B g D b c⟩
theorem YW (W H:Int) (xs:List Int) (v:Int):-1<=kV W H xs v/\kV W H xs v<=9223372036854775807:=by
 by_cases h:zq W H xs=true/\0<=v/\v<=255
 rw [YV rfl h.1 h.2.1 h.2.2];have hm:=h.1;unfold zq at hm;simp only [Bool.and_eq_true,decide_eq_true_eq] at hm;have b:=xA hm.1;have hl:xs.length<=256:=om;have:=zLH h.2.1 h.2.2 hl;omega;rw [uh h];omega
theorem zPU (hb:Below w0 w0 w1) (h:jk w1 l xs (.returned (.tuple #[v, .bool bo])) w'):
 (bo=true/\ ∃F,kx l xs=some F/\Xg v F w0 w')\/(bo=false/\kx l xs=none):=by
 cases h with
 | flat h=>obtain ⟨e,h⟩:=zHh hb h;exact .inl ⟨e,_,by simp [kx],h⟩
 | ramp h=>obtain ⟨e,h⟩:=zHh hb h;exact .inl ⟨e,_,by simp [kx],h⟩
 | bayer h=>obtain ⟨e,h⟩:=XK hb h;exact .inl ⟨e,_,by simp [kx],h⟩
 | spiral h=>obtain ⟨e,h⟩:=XK hb h;exact .inl ⟨e,_,by simp [kx],h⟩
 | spot h=>obtain ⟨e,h⟩:=XK hb h;exact .inl ⟨e,_,by simp [kx],h⟩
 | rank h=>obtain ⟨e,h⟩:=XK hb h;exact .inl ⟨e,_,by simp [kx],h⟩
 | shift h=>exact .inl ⟨rfl,_,by simp [kx],zKQ h⟩
 | level=>exact .inl ⟨rfl,_,by simp [kx],zKO (fun W H xs=>YW W H xs _)⟩
 | none h=>
  refine .inr ⟨rfl,?_⟩;unfold kx;rw [if_neg (fun e=>h.flat e.1 e.2),if_neg (fun e=>h.ramp e.1 e.2),if_neg (fun e=>h.bayer e.1 e.2),if_neg (fun e=>h.spiral e.1 e.2),if_neg (fun e=>h.spot e.1 e.2),if_neg (fun e=>h.rank e.1 e.2),if_neg (fun e=>h.shift e.1 e.2),if_neg (fun e=>h.level e.1 e.2)]
theorem zNu {x:Zu} (b:x.S l=none):jY l=none:=by
 unfold Zu.S Vx at b;simp only [uU] at b;unfold jY;by_cases h:l=[101,114,114,111,114]
 rw [if_pos h] at b;cases b;rw [if_neg h] at b⊢;clear h;by_cases h:l=[99,111,117,110,116,115]
 rw [if_pos h] at b;cases b;rw [if_neg h] at b⊢;clear h;by_cases h:l=[109,101,97,110]
 rw [if_pos h] at b;cases b;rw [if_neg h] at b⊢;clear h;by_cases h:l=[114,117,110,115]
 rw [if_pos h] at b;cases b;rw [if_neg h] at b⊢;clear h;by_cases h:l=[115,104,111,119]
 rw [if_pos h] at b;cases b;rw [if_neg h] at b⊢;clear h;by_cases h:l=[100,114,111,112]
 rw [if_pos h] at b;cases b;rw [if_neg h] at b⊢;clear h;by_cases h:l=[109,105,114,114,111,114]
 rw [if_pos h] at b;cases b;rw [if_neg h] at b⊢;clear h;by_cases h:l=[115,104,114,105,110,107]
 rw [if_pos h] at b;cases b;rw [if_neg h] at b⊢;clear h;by_cases h:l=[103,114,111,119]
 rw [if_pos h] at b;cases b;rw [if_neg h] at b⊢;clear h;by_cases h:l=[100,105,102,102,117,115,101,32,112,108,97,105,110,32,98,111,116,104]
 rw [if_pos h] at b;cases b;rw [if_neg h] at b⊢;clear h;by_cases h:l=[100,105,102,102,117,115,101,32,112,108,97,105,110,32,108,101,102,116]
 rw [if_pos h] at b;cases b;rw [if_neg h] at b⊢;clear h;by_cases h:l=[100,105,102,102,117,115,101,32,115,116,101,105,110,32,98,111,116,104]
 rw [if_pos h] at b;cases b;rw [if_neg h] at b⊢;clear h;by_cases h:l=[100,105,102,102,117,115,101,32,115,116,101,105,110,32,108,101,102,116]
 rw [if_pos h] at b;cases b;rw [if_neg h] at b⊢;clear h;by_cases h:l=[115,99,114,101,101,110]
 rw [if_pos h] at b;cases b;rw [if_neg h] at b⊢;clear h;by_cases h:l=[114,101,118,101,114,115,101]
 rw [if_pos h] at b;cases b;rw [if_neg h] at b⊢
noncomputable def qd (s:ByteArray):Option (Dat->Dat × List UInt8):=
 match jY s.data.toList with
 | some F=>some F
 | none=>match jV (zk (ja s).tail) with
  | some xs=>kx ((ja s).getD 0 ByteArray.empty).toList xs
  | none=>none
def zPP (s:ByteArray) (w:World) (e:Ending) (w':World):Prop:=
 Below w w w'/\ ∃v,(qd s=none/\e= .returned (.tuple #[v, .bool false]))\/ ∃F,qd s=some F/\e= .returned (.tuple #[v, .bool true])/\Xg v F w w'
theorem zMx (s:ByteArray) (w:World) (j:s.size<=1048576) (hL:jt w):Calls prog 29 #[.string s] w (zPP s w):=by
 refine (zCE s w j hL).mono ?_;rintro e w' ⟨hb,x,h⟩;refine ⟨hb,?_⟩;rcases h with ⟨v,hv,rfl,n⟩ | ⟨c,h⟩
 rcases zKP (w0:=w) n s.data.toList with ⟨h1,_⟩ | ⟨v2,F,h1,h2,h3⟩
 rw [h1] at hv;cases hv;rw [h1] at hv;cases hv;exact ⟨v, .inr ⟨F,by unfold qd;rw [h2],rfl,h3⟩⟩;have hp:=zNu c;rcases h with ⟨hn,v,rfl⟩ | ⟨xs,w1,hn,hi,b,hc⟩
 exact ⟨v, .inl ⟨by unfold qd;rw [hp];dsimp only;rw [hn],rfl⟩⟩;obtain ⟨v,bo,rfl⟩:=hc.shape;rcases zPU b hc with ⟨rfl,F,h1,h2⟩ | ⟨rfl,h1⟩
 exact ⟨v, .inr ⟨F,by unfold qd;rw [hp];dsimp only;rw [hn];exact h1,rfl,h2⟩⟩;exact ⟨v, .inl ⟨by unfold qd;rw [hp];dsimp only;rw [hn];exact h1,rfl⟩⟩
set_option maxRecDepth 100000 in
theorem zGc (D:Dsk) (w:World) (hr:RdD w D) (hs:jX D):
 Calls prog 28 #[D.val] w (zR (.bool (yX D.dat)) w):=by
 obtain ⟨r1,r2,r3,r4,r5,r6⟩:=hr;obtain ⟨s1,s2,s3,s4⟩:=hs;have d0:yX D.dat=yX (D.P.pic,D.M.pic,zS D.ps):=rfl;obtain ⟨⟨W,H,A,F,C,xs⟩,⟨t,s,ma,mn,mc,z⟩,a,n,c,ps⟩:=D;rw [d0];dsimp only [PV.pic] at*;show Calls prog 28 #[.agg #[W,H, .slice A F C,t,s, .slice ma mn mc, .slice a n c]] w _;have R1:=Jh r1;have R2:=Jh r2;have R3:=Jh r3;have R4:=Jh r4;have O:=Jh r5;have R6:=Jh r6;have S4:=Jh s4;have KB:=Jh (Blk.new w 35 #[W,H, .slice A F C,t,s, .slice ma mn mc, .slice a n c]);have T:=Jh (zJ (Below.refl w w) (.cells #[W,H, .slice A F C,t,s, .slice ma mn mc, .slice a n c] 35));clear r1 r2 r3 r4 r5 r6 s4 d0;go_in;go_wp2_with fail;refine (ym W H A F C xs _ R1.Z (by exact R2.Z.below T.Z) om).mono ?_;rintro e w1 ⟨rfl,hb⟩;have I:=Jh (zI T.Z hb);have X:=Jh (KB.Z.zA hb);clear hb;obtain ⟨Q,c0,c1,c2,c3,c4,c5,c6⟩:=X.Z.c7;by_cases hp:zP W H xs 255=true
 case neg=>
  have b7:zP W H xs 255=false:=by simpa using hp
  have E:Hd (yX (⟨W,H,xs⟩,⟨t,s,z⟩,zS ps)=false):=Jh (zEa hp);rw [b7];go_wp2_with fail;go_ret;exact ⟨zX E.Z.symm,I.Z⟩
 rw [hp];go_wp2_with fail;refine (yn t s ma mn mc z _ R3.Z (by exact R4.Z.below I.Z) om).mono ?_;rintro e w2 ⟨rfl,hb⟩;have q:=Jh (zI I.Z hb);have b3:=Jh (X.Z.zA hb);clear hb Q c0 c1 c2 c3 c4 c5 c6;obtain ⟨Q,c0,c1,c2,c3,c4,c5,c6⟩:=b3.Z.c7;by_cases hm:zq t s z=true
 case neg=>
  have b6:zq t s z=false:=by simpa using hm
  have E:Hd (yX (⟨W,H,xs⟩,⟨t,s,z⟩,zS ps)=false):=Jh (zEZ hm);rw [b6];go_wp2_with fail;go_ret;exact ⟨zX E.Z.symm,q.Z⟩
 rw [hm];by_cases hz:n=0
 . have E:Hd (yX (⟨W,H,xs⟩,⟨t,s,z⟩,zS ps)=true):=Jh (zEY hp hm (by rw [xa,O.Z];exact hz))
   subst hz;go_upto_region 3 with fail;refine wp_region_held_drew (S:=fun v=>v.cell? (JE w 6)=some (.slice a 0 c)) zK c6 ?_;intro j;refine zO 0 ?_;refine zO 1 ?_;refine zO 2 ?_;refine zO 3 ?_;refine hTs 4 ?_;refine xZ 5 ?_;refine xZ 6 ?_;refine zy 7 (fun K hK=>?_);go_simp;refine hK.out _ _ (by first | exact j | assumption) (fun j=>?_);clear hK K;refine zv ?_;refine xZ 8 ?_;refine xZ 9 ?_;refine xZ 10 ?_;refine xZ 11 ?_;refine xZ 12 ?_;refine xZ 14 ?_;refine hSs 15 ?_;refine zy 13 (fun K hK=>?_);go_simp;refine hK.out _ _ (by first | exact j | assumption) (fun j=>?_);clear hK K;refine zv ?_;refine zy 16 (fun K hK=>?_);go_simp;refine hK.out _ _ (by first | exact j | assumption) (fun j=>?_);clear hK K;refine zv ?_;refine zy 17 (fun K hK=>?_);go_simp;refine hK.out _ _ (by first | exact j | assumption) (fun j=>?_);clear hK K;refine zv ?_;refine zy 18 (fun K hK=>?_);go_simp;refine hK.out _ _ (by first | exact j | assumption) (fun j=>?_);clear hK K;refine zv ?_;refine zO 19 ?_;refine hTs 20 ?_;refine wpAnyH_done zK ?_ _;go_wp2_with fail;go_ret;exact ⟨zX E.Z.symm,q.Z.drew⟩
 have d3:((n:Int)==0)=false:=sO
 have E0:yX (⟨W,H,xs⟩,⟨t,s,z⟩,zS ps)=(yc (zS ps) && decide ((pv ps 0).W=W/\(pv ps 0).H=H)):=by
  rw [zEb (d:=(⟨W,H,xs⟩,⟨t,s,z⟩,zS ps)) hp hm (by rw [xa,O.Z];exact hz)];dsimp only;rw [uT ps 0 (by rw [O.Z];omega)];rfl
 obtain ⟨b,off,b4,d2⟩:=(R6.Z.below q.Z).addr (by rw [O.Z];omega);subst b4;have RV:=Jh (R6.Z.below q.Z)
 have FC:Hd (∀v,BelowL w2 v->Jc v (JE b off) (pv ps 0).W/\Jc v (JE b (off+1)) (pv ps 0).H/\Jc v (JE b (off+2)) (.slice (pv ps 0).a (pv ps 0).n (pv ps 0).c)):=Jh (fun v hv=>by
  obtain ⟨_,a0,a1,a2⟩:=(RV.Z.below hv.Z).cells (k:=0) (by rw [O.Z];omega);simp only [Nat.zero_mul,Yy] at a0 a1 a2
  exact ⟨a0,a1,a2⟩)
 have CS:Hd (∀v,BelowL w2 v->Calls prog 72 #[.slice (some ↑(JE b off)) n c] v fun e v'=>e= .returned (.bool (yc (zS ps)))/\Below v.heap.size v v'):=Jh (fun v hv=>Vb (some ↑(JE b off)) n c ps v O.Z (RV.Z.below hv.Z) om S4.Z);obtain ⟨U,hU⟩: ∃U,(pv ps 0).W=U:=⟨_,rfl⟩
 obtain ⟨V,hV⟩: ∃V,(pv ps 0).H=V:=⟨_,rfl⟩
 obtain ⟨K,hK⟩: ∃K,yc (zS ps)=K:=⟨_,rfl⟩
 obtain ⟨fa,b0⟩: ∃x,(pv ps 0).a=x:=⟨_,rfl⟩
 obtain ⟨fn,b2⟩: ∃x,(pv ps 0).n=x:=⟨_,rfl⟩
 obtain ⟨fc,b1⟩: ∃x,(pv ps 0).c=x:=⟨_,rfl⟩
 rw [hU,hV,b0,b2,b1] at FC;rw [hK] at CS;rw [hU,hV,hK] at E0;have E:=Jh E0;have N:Hd (∀v,BelowL w2 v->Jc v w W/\Jc v (JE w 1) H/\Jc v (JE w 2) (.slice A F C)/\Jc v (JE w 6) (.slice (some ↑(JE b off)) n c)/\Jc v (JE b off) (.int .i64 U)/\Jc v (JE b (off+1)) (.int .i64 V)/\Jc v (JE b (off+2)) (.slice fa fn fc)/\BelowL w2 v):=Jh (fun v h=>⟨(h.Z.cell Q).trans c0,(h.Z.cell Q).trans c1,(h.Z.cell Q).trans c2,(h.Z.cell Q).trans c6,(FC.Z v h).1,(FC.Z v h).2.1,(FC.Z v h).2.2,h⟩);clear hU hV hK E0 hp hm b0 b2 b1;have n1:(0:Int)<(n:Int):=om;have n2:0<n:=om;go_upto_region 3 with fail;cases K with
 | false=>
  refine wp_region_held_drew (S:=fun v=>Jc v w W/\Jc v (JE w 1) H/\Jc v (JE w 2) (.slice A F C)/\Jc v (JE w 6) (.slice (some ↑(JE b off)) n c)/\Jc v (JE b off) (.int .i64 U)/\Jc v (JE b (off+1)) (.int .i64 V)/\Jc v (JE b (off+2)) (.slice fa fn fc)/\BelowL w2 v) zK (N.Z _ lS) ?_;intro j;refine zO 0 ?_;refine zO 1 ?_;refine zO 2 ?_;refine zO 3 ?_;refine zO 4 ?_;refine zO 5 ?_;refine hTs 6 ?_;refine zy 7 (fun K hK=>?_);go_simp
  go_at_call 72
  ((with_reducible refine (CS.Z _ lS).mono ?_);rintro e v1 ⟨rfl,L⟩);have u:=BelowL.call lS L;have J:=Jh (zI q.Z u.Z);go_wp2_with fail;refine hK.out _ _ (Jd (N.Z _ u)) (fun j=>?_);clear hK K;refine zv ?_;refine hTs 8 ?_;refine xZ 9 ?_;refine xZ 10 ?_;refine xZ 11 ?_;refine xZ 12 ?_;refine xZ 14 ?_;refine hSs 15 ?_;refine zy 13 (fun K hK=>?_);go_simp;refine hK.out _ _ (by first | exact j | assumption) (fun j=>?_);clear hK K;refine zv ?_;refine zy 16 (fun K hK=>?_);go_simp;refine hK.out _ _ (by first | exact j | assumption) (fun j=>?_);clear hK K;refine zv ?_;refine zy 17 (fun K hK=>?_);go_simp;refine hK.out _ _ (by first | exact j | assumption) (fun j=>?_);clear hK K;refine zv ?_;refine zO 18 ?_;refine zO 19 ?_;refine hTs 20 ?_;refine wpAnyH_done zK ?_ _;go_wp2_with fail;go_ret;exact ⟨zX (by rw [E.Z];rfl),J.Z⟩
 | true=>
  obtain ⟨Z,hZ⟩:=zN (U==W && V==H);have d1:=ZZ U V W H Z hZ.symm
  have EZ:Hd (yX (⟨W,H,xs⟩,⟨t,s,z⟩,zS ps)=Z):=Jh (by
   rw [E.Z,hZ]
   by_cases h1:U=W <;>by_cases h2:V=H <;>simp [h1,h2])
  clear hZ E
  go_region_held3 (fun v=>Jc v w W/\Jc v (JE w 1) H/\Jc v (JE w 2) (.slice A F C)/\Jc v (JE w 6) (.slice (some ↑(JE b off)) n c)/\Jc v (JE b off) (.int .i64 U)/\Jc v (JE b (off+1)) (.int .i64 V)/\Jc v (JE b (off+2)) (.slice fa fn fc)/\BelowL w2 v)
   (first | exact N.Z _ Y | exact N.Z _ b5 | exact N.Z _ u | exact N.Z _ lS)
   (first
    | (go_at_call 72;((with_reducible refine (CS.Z _ (zEG aS)).mono ?_);rintro e v1 ⟨rfl,L⟩;have u:=BelowL.call (zEG aS) L))
    | (go_at_call 73;((with_reducible refine (km U V fa fn fc _).mono ?_);rintro e v2 ⟨rfl,b8⟩;have b5:=BelowL.call (zEG aS) b8))
    | (go_at_call 73;((with_reducible refine (km W H A F C _).mono ?_);rintro e v3 ⟨rfl,c8⟩;have Y:=BelowL.call (zEG aS) c8)))
  have J:=Jh (zI q.Z Y.Z);go_wp2_with fail;go_ret;exact ⟨zX EZ.Z.symm,J.Z⟩
noncomputable def kW (d:Dat) (s:ByteArray):Dat × List UInt8:=
 if yX d=true then (if s.size=0 then (d,[]) else match qd s with | some F=>F d | none=>(d,jc)) else (d,zEM)
def zBn (w:World) (R:Dat × List UInt8) (e:Ending) (w':World):Prop:=
 ∃E:Dsk,e= .returned (.tuple #[E.val, .string ⟨R.2.toArray⟩])/\yG w' w E/\E.dat=R.1/\jX E/\Below w w w'
set_option maxRecDepth 100000 in
theorem zEv (D:Dsk) (s:ByteArray) (w:World) (hr:RdD w D) (hs:jX D) (ha:UY D) (hz:s.size<=1048576) (hL:jt w) (d4:yX D.dat=true->BdD D.dat):
 Calls prog 8 #[D.val, .string s] w (zBn w (kW D.dat s)):=by
 have HR:=Jh hr;have HS:=Jh hs;have HA:=Jh ha;have R:=Jh hL;have e2:=Jh d4;obtain ⟨w0,j⟩:=zN ((w.alloc (.cells D.cells 35)).alloc (.cells ↑Zd 35));have KA:Hd (Blk w0 w 35 ↑D):=Jh (by rw [j];exact (Blk.new w _ _).alloc _);have KR:Hd (Blk w0 (w.heap.size+1) 35 ↑Zd):=Jh (by rw [j];exact Blk.zD _ _ sI);have b3:Hd (Below w w w0):=Jh (by rw [j];exact zJ (zJ bR _) _);have G:Hd (w0.heap.size=w.heap.size+2):=Jh (by rw [j];simp);clear hr hs ha hL d4;show Calls prog 8 #[.agg ↑D, .string s] w _;go_in;go_upto_region 1 with fail;rw [show (w.alloc (.cells ↑D 35)).alloc (.cells ↑Zd 35)=w0 from j.symm];clear j;obtain ⟨J,c0,c1,c2,c3,c4,c5,c6⟩:=KA.Z.c7;go_wp2_with fail;refine (Vl D w0 (HR.Z.below b3.Z) HS.Z HA.Z).mono ?_;rintro e w1 ⟨E,rfl,ho,hd,e0,hb⟩;have b7:=Jh ho;have b4:=Jh hb;have q:=Jh e0;have L:=Jh hd;have b6:=Jh ho.bd;have d1:=Jh (KR.Z.zA hb);clear ho hd e0 hb KA J c0 c1 c2 c3 c4 c5 c6;obtain ⟨w2,c⟩:=zN (w1.alloc (.cells E.cells 35));have Y:Hd (Blk w2 w1 35 ↑E):=Jh (by rw [c];exact Blk.new w1 _ _);have d2:Hd (Blk w2 (w.heap.size+1) 35 ↑Zd):=Jh (by rw [c];exact d1.Z.alloc _);have U:Hd (yG w2 w0 E):=Jh (by rw [c];exact b7.Z.alloc _);have e1:Hd (Below w0 w0 w2):=Jh (by rw [c];exact zJ b4.Z _);have e4:Hd (w2.heap.size=w1.heap.size+1):=Jh (by rw [c];simp);clear d1 b7;unfold Dsk.val;go_upto_region 2 with fail;rw [show w1.alloc (.cells ↑E 35)=w2 from c.symm];clear c;obtain ⟨J,c0,c1,c2,c3,c4,c5,c6⟩:=Y.Z.c7;go_wp2_with fail;refine (zGc E w2 U.Z.rd q.Z).mono ?_;rintro e w3 ⟨rfl,hb⟩;have I:=Jh (Y.Z.zA hb);have t:=Jh (d2.Z.zA hb);have o:=Jh (U.Z.below hb);have Q:=Jh (zI e1.Z hb);have C:=Jh (zI b3.Z (Below.mono Q.Z nI));have e5:=Jh hb.size;clear hb Y d2 U J c0 c1 c2 c3 c4 c5 c6;rw [L.Z];by_cases hk:yX D.dat=true
 case neg=>
  have e8:yX D.dat=false:=by simpa using hk
  have n:Hd (kW D.dat s=(D.dat,zEM)):=Jh (by unfold kW;rw [if_neg hk]);rw [e8];obtain ⟨r0,x0,x1,x2,x3,x4,x5,x6⟩:=t.Z.c7;obtain ⟨f0,f1,f2,f3,f4,f5,f6⟩:=t.Z.f7;obtain ⟨J,c0,c1,c2,c3,c4,c5,c6⟩:=I.Z.c7;go_wp2_with fail;have b2:=G.Z;refine bodyPost_ret (v:= .tuple #[E.val, .string ⟨#[98,97,100]⟩]) (by simp [results,results8,go_sem,Dsk.val,x0,x1,x2,x3,x4,x5,x6]) rfl ⟨E,(by rw [n.Z];try rfl),?_,?_,q.Z,?_⟩;exact yG.mono (o.Z.set7 (fun b hb=>by have:=o.Z.bd b hb;omega) _ _ _ _ _ _ _) om;rw [L.Z,n.Z];exact zc C.Z om _ _ _ _ _ _ _
 rw [hk];by_cases A:s.size=0
 case pos=>
  have g0:s=⟨#[]⟩:=by
   cases s with
   | mk d=>congr;exact Array.eq_empty_of_size_eq_zero A
  have n:Hd (kW D.dat s=(D.dat,[])):=Jh (by unfold kW;rw [if_pos hk,if_pos A]);subst g0;obtain ⟨r0,x0,x1,x2,x3,x4,x5,x6⟩:=t.Z.c7;obtain ⟨f0,f1,f2,f3,f4,f5,f6⟩:=t.Z.f7;obtain ⟨J,c0,c1,c2,c3,c4,c5,c6⟩:=I.Z.c7;go_wp2_with fail;have b2:=G.Z;refine bodyPost_ret (v:= .tuple #[E.val, .string ⟨#[]⟩]) (by simp [results,results8,go_sem,Dsk.val,x0,x1,x2,x3,x4,x5,x6]) rfl ⟨E,(by rw [n.Z];try rfl),?_,?_,q.Z,?_⟩;exact yG.mono (o.Z.set7 (fun b hb=>by have:=o.Z.bd b hb;omega) _ _ _ _ _ _ _) om;rw [L.Z,n.Z];exact zc C.Z om _ _ _ _ _ _ _
 have d8: ¬s.toList=[]:=fun e=>A (by have:=vW e;rw [this];rfl)
 have g7:s.toList.isEmpty=false:=by
  cases h:s.toList with
  | nil=>exact absurd h d8
  | cons a b=>rfl
 clear d8;obtain ⟨J,c0,c1,c2,c3,c4,c5,c6⟩:=I.Z.c7;go_wp2_with fail;refine (zMx s w3 hz (R.Z.below C.Z)).mono ?_;rintro e w4 ⟨hb,v,b1⟩;have d0:=Jh (I.Z.zA hb);have b0:=Jh (t.Z.zA hb);have V:=Jh (o.Z.below hb);have g1:=Jh (zI Q.Z hb);have X:=Jh (zI C.Z hb);clear hb J c0 c1 c2 c3 c4 c5 c6;rcases b1 with ⟨f8,rfl⟩ | ⟨F,hF,rfl,e7⟩
 . have n:Hd (kW D.dat s=(D.dat,jc)):=Jh (by unfold kW;rw [if_pos hk,if_neg A,f8])
   obtain ⟨r0,x0,x1,x2,x3,x4,x5,x6⟩:=b0.Z.c7;obtain ⟨f0,f1,f2,f3,f4,f5,f6⟩:=b0.Z.f7;obtain ⟨J,c0,c1,c2,c3,c4,c5,c6⟩:=d0.Z.c7;go_wp2_with fail;have b2:=G.Z
   exact bodyPost_ret (v:= .tuple #[E.val, .string ⟨#[119,104,97,116]⟩]) (by simp [results,results8,go_sem,Dsk.val,x0,x1,x2,x3,x4,x5,x6]) rfl ⟨E,(by rw [n.Z];try rfl),
    yG.mono (V.Z.set7 (fun b hb=>by have:=V.Z.bd b hb;omega) _ _ _ _ _ _ _) om,(by rw [L.Z,n.Z]),q.Z,zc X.Z om _ _ _ _ _ _ _⟩
 have n:Hd (kW D.dat s=F D.dat):=Jh (by unfold kW;rw [if_pos hk,if_neg A,hF]);obtain ⟨T,h,p,O,rfl,z⟩:=e7;have b2:=G.Z;have g8:=e4.Z;have h0:=e5.Z;have d5:xe w4 w0 w1 E:=⟨d0.Z,V.Z,fun b hb=>by have:=b6.Z b hb;omega,q.Z,by rw [L.Z];exact hk,by have:=b4.Z.size;omega,R.Z.below X.Z,by have:=R.Z.size;omega⟩
 have u:=z w0 w1 E d5 (og Q.Z.size) om (fun b hb=>by have:=b6.Z b hb;omega) (by rw [L.Z];exact e2.Z hk);have HC:=Jh u;clear d5 u z;have g2: ∀(p:Value) (w:World),(method 412 151 p "loop.example/g03229/impl.perform").run prog w= .ok (321,p) w:=fun _ _=>by kernel_rfl
 have g3: ∀(p:Value) (w:World),(method 412 137 p "loop.example/g03229/impl.perform").run prog w= .ok (318,p) w:=fun _ _=>by kernel_rfl
 have g4: ∀(p:Value) (w:World),(method 412 139 p "loop.example/g03229/impl.perform").run prog w= .ok (319,p) w:=fun _ _=>by kernel_rfl
 have g5: ∀(p:Value) (w:World),(method 412 142 p "loop.example/g03229/impl.perform").run prog w= .ok (320,p) w:=fun _ _=>by kernel_rfl
 have g6: ∀(p:Value) (w:World),(method 412 154 p "loop.example/g03229/impl.perform").run prog w= .ok (322,p) w:=fun _ _=>by kernel_rfl
 simp only [vL,List.mem_cons,List.mem_nil_iff,or_false,Prod.mk.injEq] at O;rcases O with ⟨rfl,rfl⟩ | ⟨rfl,rfl⟩ | ⟨rfl,rfl⟩ | ⟨rfl,rfl⟩ | ⟨rfl,rfl⟩
 all_goals (
  go_wp2_with fail;refine HC.Z.mono ?_;rintro e w5 ⟨E2,rfl,kg,d7,d6,N,P,hb⟩;have e6:=Jh kg;have b8:=Jh d7;have c8:=Jh P;have b5:=Jh N;have e3:=Jh (Below.trans X.Z (hb.mono om));have d3:=Jh (b0.Z.below hb om);clear kg d7 d6 N P hb;obtain ⟨r0,x0,x1,x2,x3,x4,x5,x6⟩:=d3.Z.c7;obtain ⟨f0,f1,f2,f3,f4,f5,f6⟩:=d3.Z.f7;obtain ⟨J,c0,c1,c2,c3,c4,c5,c6⟩:=(show Blk w5 w1 35 ↑E2 from e6.Z).c7;go_wp2_with fail
  exact bodyPost_ret (v:= .tuple #[E2.val, .string ⟨(F E.dat).2.toArray⟩]) (by simp [results,results8,go_sem,Dsk.val,x0,x1,x2,x3,x4,x5,x6]) rfl ⟨E2,(by rw [n.Z,L.Z]),
   yG.mono (b8.Z.set7 (fun b hb=>by have:=b8.Z.bd b hb;omega) _ _ _ _ _ _ _) om,(by rw [b5.Z,L.Z,n.Z]),c8.Z,zc e3.Z om _ _ _ _ _ _ _⟩)
end Go.Proofs.YtlenfgdjdianiaaGreatDoor
