/- Facts on which this claim rests, 37. -/
import Derived.Test.YtlenfgdjdianiaaGreatDoorG35
import Derived.Test.YtlenfgdjdianiaaGreatDoorG36
set_option linter.all false
set_option maxHeartbeats 6400000
namespace Go.Proofs.YtlenfgdjdianiaaGreatDoor
open Go.RowKit Tq Go.Proofs.Tryz
variable {B ab bx f g h k kb kn nc : Nat} {H M W a i m x y : Int} {alt bo : Bool} {l : List UInt8} {na : Option Addr} {v : Value} {w w' w0 w1 : World} {xs : List Int}
def Qj (p:Pic):Pic:=⟨(Za p.W p.H p.ink).W,(Za p.W p.H p.ink).H,(Za p.W p.H p.ink).ranks⟩
def uX (k:Nat) (p:Pic):Pic:=qE k p.W p.H p.ink
def Ko (p:Pic):Pic:=KN p.W p.H p.ink
def wh (l:List UInt8):Option (Dat->Dat × List UInt8):=
 if l=[101,114,114,111,114] then some (xC YX) else if l=[99,111,117,110,116,115] then some (xC Zj) else if l=[109,101,97,110] then some (xC Kn) else if l=[114,117,110,115] then some (xC Kq) else if l=[115,104,111,119] then some (xC XI) else if l=[100,114,111,112] then some (xC YK) else if l=[109,105,114,114,111,114] then some (xC (kQ (Ko))) else if l=[115,104,114,105,110,107] then some (xC (kQ (uX 5))) else if l=[103,114,111,119] then some (xC (kQ (uX 1))) else if l=[100,105,102,102,117,115,101,32,112,108,97,105,110,32,98,111,116,104] then some (xu (xI xP true)) else if l=[100,105,102,102,117,115,101,32,112,108,97,105,110,32,108,101,102,116] then some (xu (xI xP false)) else if l=[100,105,102,102,117,115,101,32,115,116,101,105,110,32,98,111,116,104] then some (xu (xI xQ true)) else if l=[100,105,102,102,117,115,101,32,115,116,101,105,110,32,108,101,102,116] then some (xu (xI xQ false)) else if l=[115,99,114,101,101,110] then some (xu vJ) else if l=[114,101,118,101,114,115,101] then some (kY Qj) else none
structure BdD (d:Dat):Prop where
 n4:d.2.2.length<=4
 mean: ∀q,q ∈ d.2.2->yg (vQ q.W q.H q.ink).1/\yg (vQ q.W q.H q.ink).2
 runs: ∀q,q ∈ d.2.2->(vo q.W q.H q.ink).length<=4096/\ ∀x,x ∈ vo q.W q.H q.ink->yg x
 counts:(xw d.2.2).length<=4096/\ ∀x,x ∈ xw d.2.2->yg x
 err: ∀q,q ∈ d.2.2->yg (XL d.1.W d.1.H d.1.ink q.W q.H q.ink)
 text: ∀q,q ∈ d.2.2->(uN q.W q.H q.ink).length<=1048576
 stein: ∀alt,yg (jd xQ d.1.W d.1.H d.1.ink alt).2.1
 plain: ∀alt,yg (jd xP d.1.W d.1.H d.1.ink alt).2.1
theorem Wt {L:List PV} (h:k<L.length):(pv L k).pic ∈ zS L:=List.mem_of_getElem? (Qf L k h)
def qX:List (Nat × Nat):=[(151,321),(137,318),(139,319),(142,320),(154,322)]
def UG (v:Value) (F:Dat->Dat × List UInt8) (w0 w:World):Prop:=
 ∃T h p,(T,h) ∈ qX/\v= .iface T p/\ ∀B g D,jJ w B g D->B<=w0.heap.size->g<w0.heap.size->(∀b,D.blocks b->b<w0.heap.size)->BdD D.dat->
  Calls prog h #[p, .pointer (some ⟨g,0,none⟩)] w (ku B g D F w)
theorem kV.below {kb ab g kn:Nat} {ks:List Prt} {alt:Bool} {w v:World} (h:kV kb ab g kn ks alt w) (hb:Below w w v):kV kb ab g kn ks alt v:=⟨h.1.zA hb,h.2.1.zA hb,h.2.2.below hb h.2.2.lt⟩
theorem Kh {ks:List Prt} (h:kV kb ab g kn ks alt w) (hk:ks.length=kn) (e:kn<=4) (hb: ∀D:Dsk,BdD D.dat->yg (jd ks D.P.W D.P.H D.P.ink alt).2.1):UG (Fy kb ab) (xu (xI ks alt)) w0 w:=by
 refine ⟨_,319,_,by simp [qX],rfl,fun B g2 D b _ _ _ c=>?_⟩;refine Gw _ _ (xI ks alt) w B g2 D b (jv _ _ _ func160 zK rfl) (by have:=c.n4;rw [show D.dat.2.2.length=D.n by rw [show D.dat.2.2=zS D.ps from rfl,kU];exact b.own.s.len] at this;exact this) (fun v hv=>?_);have h2:=h.below hv.Z;have j:v.cell? kb=some (.slice ↑g kn kn):=h2.1.cell 0;have o:v.cell? ab=some (.bool alt):=h2.2.1.cell 0;exact Nj kb ab kn kn _ ks alt D v (b.below hv.Z).own.rd b.small (b.below hv.Z).laid j o h2.1.lt h2.2.1.lt hk h2.2.2.rd om nI (hb D c)
theorem QG {F:Pic->Pic} (h:vT bx f w) (j: ∀args w,(callFunc f args).run prog w= .ok (.enter f args) w)
 (hc: ∀(q:PV) (v:World),q.ink.length=q.n->Rd v q.a q.ink->q.n<=1048576->q.n<=q.c->Calls prog f #[.agg ↑q] v (uq v (F q.pic))):UG (aP bx) (xC (kQ F)) w0 w:=by
 refine ⟨_,320,_,by simp [qX],rfl,fun B g2 D b _ _ _ o=>?_⟩;refine Mh _ _ (kQ F) w B g2 D b (jv _ _ _ func163 zK rfl) (fun k r hk hr v hv=>?_);have h2:vT bx f v:=Blk.zA h hv.Z;have z:v.cell? bx=some (.func (.func f) #[] #[]):=Blk.cell h2 0;refine Tp f bx F k r v B g2 D (b.below hv.Z) hk hr j z (Blk.lt h2) (fun u s=>?_);obtain ⟨c0,c1,c2,t,rd,A,e⟩:=((b.below hv.Z).below s.Z).last hk hr;exact hc _ u t rd A e
theorem KI {F:Dat->Pic->Dat × List UInt8} (e: ∀args w,(callFunc h args).run prog w= .ok (.enter h args) w)
 (hc: ∀(k r:Nat) (v:World) (B g:Nat) (D:Dsk),jJ v B g D->BdD D.dat->D.n=k+1->D.a=some ↑r->(pv D.ps k).pic ∈ D.dat.2.2->Calls prog h #[.pointer ↑g, .pointer (some ↑(r,k*3))] v (ku B g D (fun d=>F d (pv D.ps k).pic) v)):UG (fnV 142 h) (xC F) w0 w:=by
 refine ⟨_,320,_,by simp [qX],rfl,fun B g2 D b _ _ _ c=>?_⟩;refine Mh _ _ F w B g2 D b e (fun k r hk hr v hv=>?_);exact hc k r v B g2 D (b.below hv.Z) c hk hr (Wt (by rw [b.own.s.len,hk];omega))
theorem KV (h:zT W H xs m=true):1<=xs.length/\xs.length<=1024/\xM xs m=true/\1<=W/\W<=64/\1<=H/\H<=64:=by
 obtain ⟨b,c,hw⟩:=yu rfl h;have h1:=b;unfold yV at h1;simp only [Bool.and_eq_true,decide_eq_true_eq] at h1;have:=BQ W H om om om om;exact ⟨om,om,hw,om,om,om,om⟩
theorem iZ (h:xM xs 255=true):0<=xE xs/\xE xs<=255*(xs.length:Int):=by
 have:=Xn h xs.length;rwa [List.take_length] at this
theorem OW (b:0<=a) (h1:a<=M):0<=a/(g:Int)/\a/(g:Int)<=M:=
 ⟨Yw b om,Int.le_trans (Int.ediv_le_self _ b) h1⟩
theorem Md (W H:Int) (xs:List Int):yg (vQ W H xs).1/\yg (vQ W H xs).2:=by
 by_cases h:zT W H xs 255=true
 obtain ⟨h1,h2,hw,_⟩:=KV h;have c:=iZ hw;unfold vQ;rw [if_pos h];have a:=OW (g:=Nat.gcd (xE xs).toNat xs.length) c.1 c.2;have b:=OW (a:=(xs.length:Int)) (g:=Nat.gcd (xE xs).toNat xs.length) (M:=4096) om om;unfold yg;constructor <;>(dsimp only;omega)
 rw [Es h];unfold yg;constructor <;>(dsimp only;omega)
theorem rY (W H:Int) (xs:List Int) (c b:Int) (ys:List Int) (e:zT W H xs 255=true):yg (XL W H xs c b ys):=by
 by_cases h:jc W H xs c b ys=true/\zT c b ys 1=true
 obtain ⟨a1,a2,j,_⟩:=KV e;obtain ⟨b1,b2,n,_⟩:=KV h.2;rw [ET rfl h.1 h.2]
 have hl:ys.length<=xs.length:=by
  have hp:=h.1;unfold jc at hp;simp only [Bool.and_eq_true,decide_eq_true_eq] at hp;have o:=(yu rfl e).2.1;have q:=(yu rfl h.2).2.1;obtain ⟨rfl,rfl⟩:W=c/\H=b:=om;omega
 have:=Ik j n hl ys.length nI;unfold yg;omega;rw [Uh h];unfold yg;omega
theorem SK (L:List Pic):(xw L).length<=4096/\ ∀x,x ∈ xw L->yg x:=by
 unfold xw;split;rename_i h;obtain ⟨h1,h2,h3⟩:=Vi h;have hp:=KV (h3 0 om).1;constructor;rw [zk];have:2^L.length<=2^4:=Nat.pow_le_pow_right om h2;omega;intro x b;unfold gen at b;simp only [List.mem_map] at b;obtain ⟨r,_,rfl⟩:=b;have:=Ia (vZ L) r ((L.getD 0 xF).ink.length);unfold yg;omega;simp
theorem RA: ∀(r:List Int),(∀v,v ∈ r->1<=v)->(r.length:Int)<=xE r/\ ∀v,v ∈ r->v<=xE r
 | [],_=>by simp [xE]
 | a::r,h=>by
  obtain ⟨h1,h2⟩:=RA r (fun v hv=>h v (List.mem_cons_of_mem _ hv));have ha:=h a (List.mem_cons_self ..);have e:xE (a::r)=a+xE r:=by rw [show a::r=[a]++r from rfl,Kj];simp [xE]
  rw [e];refine ⟨by simp only [List.length_cons];omega,fun v hv=>?_⟩;rcases List.mem_cons.1 hv with rfl | hv
  omega;have:=h2 v hv;omega
theorem nQ (W H:Int) (xs:List Int):(vo W H xs).length<=4096/\ ∀x,x ∈ vo W H xs->yg x:=by
 unfold vo;split;rename_i h;obtain ⟨h1,h2,hw,_⟩:=KV h
 have n: ∀k,k<xs.length->xs.getD k 0=0\/xs.getD k 0=1:=by
  intro k hk;unfold xM at hw;rw [Yp] at hw;have:=hw (xs.getD k 0) (by rw [Yh,Ya hk];exact List.getElem_mem hk);simp only [Bool.and_eq_true,decide_eq_true_eq] at this;omega
 obtain ⟨b,j⟩:=zAg n
 have c: ∀v,v ∈ Jq xs->0<=v:=by
  intro v hv;cases hr:Jq xs with
  | nil=>rw [hr] at hv;cases hv
  | cons a r=>
   rw [hr] at hv b;simp only [qA,Bool.and_eq_true,decide_eq_true_eq,Yp] at b;rcases List.mem_cons.1 hv with rfl | hv
   exact b.1;have:=b.2 v hv;omega
 have hl:=NM c 0;rw [j] at hl;cases hr:Jq xs with
 | nil=>simp
 | cons a r=>
  rw [hr] at b hl;simp only [qA,Bool.and_eq_true,decide_eq_true_eq,Yp] at b;obtain ⟨q,o⟩:=RA r b.2;have e:xE (a::r)=a+xE r:=by rw [show a::r=[a]++r from rfl,Kj];simp [xE]
  rw [e] at hl;refine ⟨by simp only [List.length_cons];omega,fun v hv=>?_⟩;unfold yg;rcases List.mem_cons.1 hv with rfl | hv
  omega;have:=o v hv;have:=b.2 v hv;omega
 simp
theorem Lx (ks:List Prt) (W H:Int) (xs:List Int) (alt:Bool):yg (jd ks W H xs alt).2.1:=by
 by_cases h:kP ks=true/\zT W H xs 255=true
 rw [Ak rfl h.1 h.2];have r:jr alt ks W H xs xs.length:=jr.of rfl h.1 h.2;obtain ⟨_,_,_,_,b,c⟩:=LM r xs.length nI 0;unfold yg;dsimp only;omega;rw [VH h];unfold yg;dsimp only;omega
theorem oZ (W H:Int) (xs:List Int):(uN W H xs).length<=1048576:=by
 unfold uN;split;rename_i h;obtain ⟨_,_,_,h1,h2,h3,h4⟩:=KV h;rw [CZ];have:(W.toNat+1)*H.toNat<=65*64:=Nat.mul_le_mul om om;omega;simp
theorem Cn {d:Dat} (h:xg d=true):BdD d:=by
 unfold xg at h;simp only [Bool.and_eq_true,Bool.or_eq_true,decide_eq_true_eq] at h;obtain ⟨⟨hp,hm⟩,b⟩:=h;refine ⟨?_,fun q _=>Md _ _ _,fun q _=>nQ _ _ _,SK _,fun q _=>rY _ _ _ _ _ _ hp,fun q _=>oZ _ _ _,fun alt=>Lx _ _ _ _ _,fun alt=>Lx _ _ _ _ _⟩;rcases b with b | ⟨b,_⟩
 omega;exact (Vi b).2.1
theorem zCr {D:Dsk} (b:jJ w B g D) (hk:D.n=k+1):k+1<=D.c:=by
 rcases b.own.s.row with ⟨_,h,_⟩ | ⟨g,_,_,e,_,h,_⟩
 omega;rw [b.own.s.len] at h;omega
theorem gW {x:Ji} (e:IW x w) (l:List UInt8):(x.S l=none/\wh l=none)\/ ∃v F,x.S l=some v/\wh l=some F/\UG v F w0 w:=by
 unfold Ji.S Bd wh;simp only [ZW];by_cases h:l=[101,114,114,111,114]
 rw [if_pos h,if_pos h];exact .inr ⟨_,_,rfl,rfl,KI (F:=YX) (jv _ _ _ func130 zK rfl) (fun k r v B g D b hb hk hr hm=>dz k r v B g D b hk hr (hb.err _ hm))⟩;rw [if_neg h,if_neg h];clear h;by_cases h:l=[99,111,117,110,116,115]
 rw [if_pos h,if_pos h];exact .inr ⟨_,_,rfl,rfl,KI (F:=Zj) (jv _ _ _ func129 zK rfl) (fun k r v B g D b hb hk hr hm=>Tt k r v B g D b hk hr hb.counts)⟩;rw [if_neg h,if_neg h];clear h;by_cases h:l=[109,101,97,110]
 rw [if_pos h,if_pos h];exact .inr ⟨_,_,rfl,rfl,KI (F:=Kn) (jv _ _ _ func128 zK rfl) (fun k r v B g D b hb hk hr hm=>ow k r v B g D b hk hr (hb.mean _ hm))⟩;rw [if_neg h,if_neg h];clear h;by_cases h:l=[114,117,110,115]
 rw [if_pos h,if_pos h];exact .inr ⟨_,_,rfl,rfl,KI (F:=Kq) (jv _ _ _ func127 zK rfl) (fun k r v B g D b hb hk hr hm=>oz k r v B g D b hk hr (hb.runs _ hm))⟩;rw [if_neg h,if_neg h];clear h;by_cases h:l=[115,104,111,119]
 rw [if_pos h,if_pos h];exact .inr ⟨_,_,rfl,rfl,KI (F:=XI) (jv _ _ _ func126 zK rfl) (fun k r v B g D b hb hk hr hm=>pE k r v B g D b hk hr (hb.text _ hm))⟩;rw [if_neg h,if_neg h];clear h;by_cases h:l=[100,114,111,112]
 rw [if_pos h,if_pos h];exact .inr ⟨_,_,rfl,rfl,KI (F:=YK) (jv _ _ _ func125 zK rfl) (fun k r v B g D b hb hk hr hm=>ou k r v B g D b hk hr (zCr b hk))⟩;rw [if_neg h,if_neg h];clear h;by_cases h:l=[109,105,114,114,111,114]
 rw [if_pos h,if_pos h];exact .inr ⟨_,_,rfl,rfl,QG (F:=Ko) e.c3 (jv _ _ _ func124 zK rfl) (fun q v o rd u t=>Ay q.W q.H q.a q.n q.c q.ink v o rd om)⟩;rw [if_neg h,if_neg h];clear h;by_cases h:l=[115,104,114,105,110,107]
 rw [if_pos h,if_pos h];exact .inr ⟨_,_,rfl,rfl,QG (F:=uX 5) e.c2 (jv _ _ _ func123 zK rfl) (fun q v o rd u t=>Ee q.W q.H q.a q.n q.c q.ink v o rd om t)⟩;rw [if_neg h,if_neg h];clear h;by_cases h:l=[103,114,111,119]
 rw [if_pos h,if_pos h];exact .inr ⟨_,_,rfl,rfl,QG (F:=uX 1) e.c1 (jv _ _ _ func122 zK rfl) (fun q v o rd u t=>Im q.W q.H q.a q.n q.c q.ink v o rd om t)⟩;rw [if_neg h,if_neg h];clear h;by_cases h:l=[100,105,102,102,117,115,101,32,112,108,97,105,110,32,98,111,116,104]
 rw [if_pos h,if_pos h];exact .inr ⟨_,_,rfl,rfl,Kh e.d4 rfl om (fun D hb=>hb.plain true)⟩;rw [if_neg h,if_neg h];clear h;by_cases h:l=[100,105,102,102,117,115,101,32,112,108,97,105,110,32,108,101,102,116]
 rw [if_pos h,if_pos h];exact .inr ⟨_,_,rfl,rfl,Kh e.d3 rfl om (fun D hb=>hb.plain false)⟩;rw [if_neg h,if_neg h];clear h;by_cases h:l=[100,105,102,102,117,115,101,32,115,116,101,105,110,32,98,111,116,104]
 rw [if_pos h,if_pos h];exact .inr ⟨_,_,rfl,rfl,Kh e.d2 rfl om (fun D hb=>hb.stein true)⟩;rw [if_neg h,if_neg h];clear h;by_cases h:l=[100,105,102,102,117,115,101,32,115,116,101,105,110,32,108,101,102,116]
 rw [if_pos h,if_pos h];exact .inr ⟨_,_,rfl,rfl,Kh e.d1 rfl om (fun D hb=>hb.stein false)⟩;rw [if_neg h,if_neg h];clear h;by_cases h:l=[115,99,114,101,101,110]
 rw [if_pos h,if_pos h];exact .inr ⟨_,_,rfl,rfl,⟨_,319,_,by simp [qX],rfl,fun B g D b _ _ _ j=>Gw _ _ vJ w B g D b (jv _ _ _ func117 zK rfl) (by have:=j.n4;rw [show D.dat.2.2.length=D.n by rw [show D.dat.2.2=zS D.ps from rfl,kU];exact b.own.s.len] at this;exact this) (fun v hv=>Pp D v (b.below hv.Z).own.rd b.small)⟩⟩;rw [if_neg h,if_neg h];clear h;by_cases h:l=[114,101,118,101,114,115,101]
 rw [if_pos h,if_pos h];exact .inr ⟨_,_,rfl,rfl,⟨_,318,_,by simp [qX],rfl,fun B g D b _ _ _ j=>Ez _ _ Qj w B g D b (jv _ _ _ func116 zK rfl) (fun v hv=>Sw D B g v (b.below hv.Z))⟩⟩;rw [if_neg h,if_neg h];clear h;exact .inl ⟨rfl,rfl⟩
def mp (m:Mat):Pic:=⟨m.W,m.H,m.ranks⟩
def shT (x y:Int) (p:Pic):Pic:=⟨(jF p.W p.H p.ink x y).W,(jF p.W p.H p.ink x y).H,(jF p.W p.H p.ink x y).ranks⟩
open Classical in
noncomputable def uP (l:List UInt8) (xs:List Int):Option (Dat->Dat × List UInt8):=
 if l=[102,108,97,116]/\xs.length=3 then some (qp (kS (xs.getD 0 0) (xs.getD 1 0) (xs.getD 2 0)).1) else
 if l=[114,97,109,112]/\xs.length=2 then some (qp (kX (xs.getD 0 0) (xs.getD 1 0)).1) else
 if l=[98,97,121,101,114]/\xs.length=1 then some (kY (fun _=>mp (kK (xs.getD 0 0)).1)) else
 if l=[115,112,105,114,97,108]/\xs.length=1 then some (kY (fun _=>mp (kC (xs.getD 0 0)).1)) else
 if l=[115,112,111,116]/\xs.length=2 then some (kY (fun _=>mp (jU (xs.getD 0 0) (xs.getD 1 0)).1)) else
 if l=[114,97,110,107]/\xs.length=3 then some (kY (fun _=>mp (vB (xs.getD 0 0) (xs.getD 1 0) (xs.getD 2 0)).1)) else
 if l=[115,104,105,102,116]/\xs.length=2 then some (kY (shT (xs.getD 0 0) (xs.getD 1 0))) else
 if l=[108,101,118,101,108]/\xs.length=1 then some (Zy (xs.getD 0 0)) else
 none
theorem WO {p:Pic} (hb:Below w0 w0 w1) (h:Af w1 p (.returned (.tuple #[v, .bool bo])) w'):bo=true/\UG v (qp p) w0 w':=by
 obtain ⟨a,n,c,he,o,hn,q⟩:=h;simp only [Ending.returned.injEq,Value.tuple.injEq,Array.mk.injEq,List.cons.injEq,Value.bool.injEq,and_true] at he;obtain ⟨rfl,rfl⟩:=he;refine ⟨rfl,_,321,_,by simp [qX],rfl,fun B g D j u hg hD s=>?_⟩;have t:=hb.size;exact zAM ⟨p.W,p.H,a,n,c,p.ink⟩ w' B g D j (o.mono om) (fun b h e=>by have:=o.bd b h;omega) (fun b h e=>by have:=o.bd b h;have:=hD b (.inr (.inl e));omega) hn
theorem Vm {m:Mat} (hb:Below w0 w0 w1) (h:ZG w1 m (.returned (.tuple #[v, .bool bo])) w'):bo=true/\UG v (kY (fun _=>mp m)) w0 w':=by
 obtain ⟨A,a,n,c,he,hk,o,hn,s⟩:=h;simp only [Ending.returned.injEq,Value.tuple.injEq,Array.mk.injEq,List.cons.injEq,Value.bool.injEq,and_true] at he;obtain ⟨rfl,rfl⟩:=he;refine ⟨rfl,_,318,_,by simp [qX],rfl,fun B g D j C hg hD t=>?_⟩;have z:=hb.size
 exact Ez _ _ (fun _=>mp m) w' B g D j (jv _ _ _ func180 zK rfl) (fun u q=>
  lV A ⟨m.W,m.H,a,n,c,m.ranks⟩ D B g u (j.below q.Z) (hk.zA q.Z) ((o.mono om).zA q.Z) (fun b h=>⟨fun e=>by have:=o.bd b h;omega,fun e=>by have:=o.bd b h;have:=hD b e;omega⟩) hn)
theorem gX (hr:Rd w1 na [x,y]):UG (.iface 137 (.func (.func 139) #[] #[.pointer ↑w1])) (kY (shT x y)) w0 (w1.alloc (.cells #[.slice na 2 nc] 22)):=by
 refine ⟨_,318,_,by simp [qX],rfl,fun B g D b j hg hD e=>?_⟩;have kb:=Blk.new w1 22 #[.slice na 2 nc]
 exact Ez _ _ (shT x y) _ B g D b (jv _ _ _ func139 zK rfl) (fun u c=>
  lW w1 na nc x y D B g u (b.below c.Z) ((kb.zA c.Z).cell 0) (kb.zA c.Z).lt ((hr.alloc _).below c.Z))
theorem gV (c: ∀W H xs,-1<=vD W H xs i/\vD W H xs i<=9223372036854775807):UG (.iface 154 ↑i) (Zy i) w0 w':=
 ⟨_,322,_,by simp [qX],rfl,fun B g D b j hg hD e=>bU i w' B g D b c⟩
theorem BO (W H:Int) (xs:List Int) (v:Int):-1<=vD W H xs v/\vD W H xs v<=9223372036854775807:=by
 by_cases h:yD W H xs=true/\0<=v/\v<=255
 rw [VX rfl h.1 h.2.1 h.2.2];have hm:=h.1;unfold yD at hm;simp only [Bool.and_eq_true,decide_eq_true_eq] at hm;have b:=kI hm.1;have hl:xs.length<=256:=om;have:=lK h.2.1 h.2.2 hl;omega;rw [Zm h];omega
theorem zBs (hb:Below w0 w0 w1) (h:uo w1 l xs (.returned (.tuple #[v, .bool bo])) w'):
 (bo=true/\ ∃F,uP l xs=some F/\UG v F w0 w')\/(bo=false/\uP l xs=none):=by
 cases h with
 | flat h=>obtain ⟨e,h⟩:=WO hb h;exact .inl ⟨e,_,by simp [uP],h⟩
 | ramp h=>obtain ⟨e,h⟩:=WO hb h;exact .inl ⟨e,_,by simp [uP],h⟩
 | bayer h=>obtain ⟨e,h⟩:=Vm hb h;exact .inl ⟨e,_,by simp [uP],h⟩
 | spiral h=>obtain ⟨e,h⟩:=Vm hb h;exact .inl ⟨e,_,by simp [uP],h⟩
 | spot h=>obtain ⟨e,h⟩:=Vm hb h;exact .inl ⟨e,_,by simp [uP],h⟩
 | rank h=>obtain ⟨e,h⟩:=Vm hb h;exact .inl ⟨e,_,by simp [uP],h⟩
 | shift h=>exact .inl ⟨rfl,_,by simp [uP],gX h⟩
 | level=>exact .inl ⟨rfl,_,by simp [uP],gV (fun W H xs=>BO W H xs _)⟩
 | none h=>
  refine .inr ⟨rfl,?_⟩;unfold uP;rw [if_neg (fun e=>h.flat e.1 e.2),if_neg (fun e=>h.ramp e.1 e.2),if_neg (fun e=>h.bayer e.1 e.2),if_neg (fun e=>h.spiral e.1 e.2),if_neg (fun e=>h.spot e.1 e.2),if_neg (fun e=>h.rank e.1 e.2),if_neg (fun e=>h.shift e.1 e.2),if_neg (fun e=>h.level e.1 e.2)]
theorem zAO {x:Ji} (b:x.S l=none):wh l=none:=by
 unfold Ji.S Bd at b;simp only [ZW] at b;unfold wh;by_cases h:l=[101,114,114,111,114]
 rw [if_pos h] at b;cases b;rw [if_neg h] at b⊢;clear h;by_cases h:l=[99,111,117,110,116,115]
 rw [if_pos h] at b;cases b;rw [if_neg h] at b⊢;clear h;by_cases h:l=[109,101,97,110]
 rw [if_pos h] at b;cases b;rw [if_neg h] at b⊢;clear h;by_cases h:l=[114,117,110,115]
 rw [if_pos h] at b;cases b;rw [if_neg h] at b⊢;clear h;by_cases h:l=[115,104,111,119]
 rw [if_pos h] at b;cases b;rw [if_neg h] at b⊢;clear h;by_cases h:l=[100,114,111,112]
 rw [if_pos h] at b;cases b;rw [if_neg h] at b⊢;clear h;by_cases h:l=[109,105,114,114,111,114]
 rw [if_pos h] at b;cases b;rw [if_neg h] at b⊢;clear h;by_cases h:l=[115,104,114,105,110,107]
 rw [if_pos h] at b;cases b;rw [if_neg h] at b⊢;clear h;by_cases h:l=[103,114,111,119]
 rw [if_pos h] at b;cases b;rw [if_neg h] at b⊢;clear h;by_cases h:l=[100,105,102,102,117,115,101,32,112,108,97,105,110,32,98,111,116,104]
 rw [if_pos h] at b;cases b;rw [if_neg h] at b⊢;clear h;by_cases h:l=[100,105,102,102,117,115,101,32,112,108,97,105,110,32,108,101,102,116]
 rw [if_pos h] at b;cases b;rw [if_neg h] at b⊢;clear h;by_cases h:l=[100,105,102,102,117,115,101,32,115,116,101,105,110,32,98,111,116,104]
 rw [if_pos h] at b;cases b;rw [if_neg h] at b⊢;clear h;by_cases h:l=[100,105,102,102,117,115,101,32,115,116,101,105,110,32,108,101,102,116]
 rw [if_pos h] at b;cases b;rw [if_neg h] at b⊢;clear h;by_cases h:l=[115,99,114,101,101,110]
 rw [if_pos h] at b;cases b;rw [if_neg h] at b⊢;clear h;by_cases h:l=[114,101,118,101,114,115,101]
 rw [if_pos h] at b;cases b;rw [if_neg h] at b⊢
noncomputable def Km (s:ByteArray):Option (Dat->Dat × List UInt8):=
 match wh s.data.toList with
 | some F=>some F
 | none=>match uS (yC (uU s).tail) with
  | some xs=>uP ((uU s).getD 0 ByteArray.empty).toList xs
  | none=>none
def zBn (s:ByteArray) (w:World) (e:Ending) (w':World):Prop:=
 Below w w w'/\ ∃v,(Km s=none/\e= .returned (.tuple #[v, .bool false]))\/ ∃F,Km s=some F/\e= .returned (.tuple #[v, .bool true])/\UG v F w w'
theorem rP (s:ByteArray) (w:World) (j:s.size<=1048576) (hL:qZ w):Calls prog 29 #[.string s] w (zBn s w):=by
 refine (Ir s w j hL).mono ?_;rintro e w' ⟨hb,x,h⟩;refine ⟨hb,?_⟩;rcases h with ⟨v,hv,rfl,n⟩ | ⟨c,h⟩
 rcases gW (w0:=w) n s.data.toList with ⟨h1,_⟩ | ⟨v2,F,h1,h2,h3⟩
 rw [h1] at hv;cases hv;rw [h1] at hv;cases hv;exact ⟨v, .inr ⟨F,by unfold Km;rw [h2],rfl,h3⟩⟩;have hp:=zAO c;rcases h with ⟨hn,v,rfl⟩ | ⟨xs,w1,hn,hi,b,hc⟩
 exact ⟨v, .inl ⟨by unfold Km;rw [hp];dsimp only;rw [hn],rfl⟩⟩;obtain ⟨v,bo,rfl⟩:=hc.shape;rcases zBs b hc with ⟨rfl,F,h1,h2⟩ | ⟨rfl,h1⟩
 exact ⟨v, .inr ⟨F,by unfold Km;rw [hp];dsimp only;rw [hn];exact h1,rfl,h2⟩⟩;exact ⟨v, .inl ⟨by unfold Km;rw [hp];dsimp only;rw [hn];exact h1,rfl⟩⟩
set_option maxRecDepth 100000 in
theorem Sc (D:Dsk) (w:World) (hr:RdD w D) (hs:vK D):
 Calls prog 28 #[D.val] w (zR (.bool (xg D.dat)) w):=by
 obtain ⟨r1,r2,r3,r4,r5,r6⟩:=hr;obtain ⟨s1,s2,s3,s4⟩:=hs;have d0:xg D.dat=xg (D.P.pic,D.M.pic,zS D.ps):=rfl;obtain ⟨⟨W,H,z,C,A,xs⟩,⟨t,s,ma,mn,mc,ys⟩,a,n,c,ps⟩:=D;rw [d0];dsimp only [PV.pic] at*;show Calls prog 28 #[.agg #[W,H, .slice z C A,t,s, .slice ma mn mc, .slice a n c]] w _;have R1:=Jh r1;have R2:=Jh r2;have R3:=Jh r3;have R4:=Jh r4;have N:=Jh r5;have R6:=Jh r6;have S4:=Jh s4;have KB:=Jh (Blk.new w 35 #[W,H, .slice z C A,t,s, .slice ma mn mc, .slice a n c]);have Q:=Jh (zM (Below.refl w w) (.cells #[W,H, .slice z C A,t,s, .slice ma mn mc, .slice a n c] 35));clear r1 r2 r3 r4 r5 r6 s4 d0;go_in;go_wp2_with fail;refine (xV W H z C A xs _ R1.Z (by exact R2.Z.below Q.Z) om).mono ?_;rintro e w1 ⟨rfl,hb⟩;have F:=Jh (zL Q.Z hb);have T:=Jh (KB.Z.zA hb);clear hb;obtain ⟨O,c0,c1,c2,c3,c4,c5,c6⟩:=T.Z.c7;by_cases hp:zT W H xs 255=true
 case neg=>
  have b6:zT W H xs 255=false:=by simpa using hp
  have E:Hd (xg (⟨W,H,xs⟩,⟨t,s,ys⟩,zS ps)=false):=Jh (OU hp);rw [b6];go_wp2_with fail;go_ret;exact ⟨zV E.Z.symm,F.Z⟩
 rw [hp];go_wp2_with fail;refine (xX t s ma mn mc ys _ R3.Z (by exact R4.Z.below F.Z) om).mono ?_;rintro e w2 ⟨rfl,hb⟩;have q:=Jh (zL F.Z hb);have b2:=Jh (T.Z.zA hb);clear hb O c0 c1 c2 c3 c4 c5 c6;obtain ⟨O,c0,c1,c2,c3,c4,c5,c6⟩:=b2.Z.c7;by_cases hm:yD t s ys=true
 case neg=>
  have b5:yD t s ys=false:=by simpa using hm
  have E:Hd (xg (⟨W,H,xs⟩,⟨t,s,ys⟩,zS ps)=false):=Jh (OT hm);rw [b5];go_wp2_with fail;go_ret;exact ⟨zV E.Z.symm,q.Z⟩
 rw [hm];by_cases hz:n=0
 . have E:Hd (xg (⟨W,H,xs⟩,⟨t,s,ys⟩,zS ps)=true):=Jh (OQ hp hm (by rw [kU,N.Z];exact hz))
   subst hz;go_upto_region 3 with fail;refine wp_region_held_drew (S:=fun v=>v.cell? (JE w 6)=some (.slice a 0 c)) zK c6 ?_;intro j;refine zQ 0 ?_;refine zQ 1 ?_;refine zQ 2 ?_;refine zQ 3 ?_;refine hTs 4 ?_;refine jD 5 ?_;refine jD 6 ?_;refine yI 7 (fun K hK=>?_);go_simp;refine hK.out _ _ (by first | exact j | assumption) (fun j=>?_);clear hK K;refine yE ?_;refine jD 8 ?_;refine jD 9 ?_;refine jD 10 ?_;refine jD 11 ?_;refine jD 12 ?_;refine jD 14 ?_;refine hSs 15 ?_;refine yI 13 (fun K hK=>?_);go_simp;refine hK.out _ _ (by first | exact j | assumption) (fun j=>?_);clear hK K;refine yE ?_;refine yI 16 (fun K hK=>?_);go_simp;refine hK.out _ _ (by first | exact j | assumption) (fun j=>?_);clear hK K;refine yE ?_;refine yI 17 (fun K hK=>?_);go_simp;refine hK.out _ _ (by first | exact j | assumption) (fun j=>?_);clear hK K;refine yE ?_;refine yI 18 (fun K hK=>?_);go_simp;refine hK.out _ _ (by first | exact j | assumption) (fun j=>?_);clear hK K;refine yE ?_;refine zQ 19 ?_;refine hTs 20 ?_;refine wpAnyH_done zK ?_ _;go_wp2_with fail;go_ret;exact ⟨zV E.Z.symm,q.Z.drew⟩
 have d2:((n:Int)==0)=false:=sO
 have E0:xg (⟨W,H,xs⟩,⟨t,s,ys⟩,zS ps)=(xG (zS ps) && decide ((pv ps 0).W=W/\(pv ps 0).H=H)):=by
  rw [OV (d:=(⟨W,H,xs⟩,⟨t,s,ys⟩,zS ps)) hp hm (by rw [kU,N.Z];exact hz)];dsimp only;rw [ZV ps 0 (by rw [N.Z];omega)];rfl
 obtain ⟨b,off,b3,d1⟩:=(R6.Z.below q.Z).addr (by rw [N.Z];omega);subst b3;have RV:=Jh (R6.Z.below q.Z)
 have FC:Hd (∀v,BelowL w2 v->Jc v (JE b off) (pv ps 0).W/\Jc v (JE b (off+1)) (pv ps 0).H/\Jc v (JE b (off+2)) (.slice (pv ps 0).a (pv ps 0).n (pv ps 0).c)):=Jh (fun v hv=>by
  obtain ⟨_,a0,a1,a2⟩:=(RV.Z.below hv.Z).cells (k:=0) (by rw [N.Z];omega);simp only [Nat.zero_mul,Yy] at a0 a1 a2
  exact ⟨a0,a1,a2⟩)
 have CS:Hd (∀v,BelowL w2 v->Calls prog 72 #[.slice (some ↑(JE b off)) n c] v fun e v'=>e= .returned (.bool (xG (zS ps)))/\Below v.heap.size v v'):=Jh (fun v hv=>Av (some ↑(JE b off)) n c ps v N.Z (RV.Z.below hv.Z) om S4.Z);obtain ⟨U,hU⟩: ∃U,(pv ps 0).W=U:=⟨_,rfl⟩
 obtain ⟨V,hV⟩: ∃V,(pv ps 0).H=V:=⟨_,rfl⟩
 obtain ⟨K,hK⟩: ∃K,xG (zS ps)=K:=⟨_,rfl⟩
 obtain ⟨fa,Y⟩: ∃x,(pv ps 0).a=x:=⟨_,rfl⟩
 obtain ⟨fn,b1⟩: ∃x,(pv ps 0).n=x:=⟨_,rfl⟩
 obtain ⟨fc,b0⟩: ∃x,(pv ps 0).c=x:=⟨_,rfl⟩
 rw [hU,hV,Y,b1,b0] at FC;rw [hK] at CS;rw [hU,hV,hK] at E0;have E:=Jh E0;have L:Hd (∀v,BelowL w2 v->Jc v w W/\Jc v (JE w 1) H/\Jc v (JE w 2) (.slice z C A)/\Jc v (JE w 6) (.slice (some ↑(JE b off)) n c)/\Jc v (JE b off) (.int .i64 U)/\Jc v (JE b (off+1)) (.int .i64 V)/\Jc v (JE b (off+2)) (.slice fa fn fc)/\BelowL w2 v):=Jh (fun v h=>⟨(h.Z.cell O).trans c0,(h.Z.cell O).trans c1,(h.Z.cell O).trans c2,(h.Z.cell O).trans c6,(FC.Z v h).1,(FC.Z v h).2.1,(FC.Z v h).2.2,h⟩);clear hU hV hK E0 hp hm Y b1 b0;have n1:(0:Int)<(n:Int):=om;have n2:0<n:=om;go_upto_region 3 with fail;cases K with
 | false=>
  refine wp_region_held_drew (S:=fun v=>Jc v w W/\Jc v (JE w 1) H/\Jc v (JE w 2) (.slice z C A)/\Jc v (JE w 6) (.slice (some ↑(JE b off)) n c)/\Jc v (JE b off) (.int .i64 U)/\Jc v (JE b (off+1)) (.int .i64 V)/\Jc v (JE b (off+2)) (.slice fa fn fc)/\BelowL w2 v) zK (L.Z _ lS) ?_;intro j;refine zQ 0 ?_;refine zQ 1 ?_;refine zQ 2 ?_;refine zQ 3 ?_;refine zQ 4 ?_;refine zQ 5 ?_;refine hTs 6 ?_;refine yI 7 (fun K hK=>?_);go_simp
  go_at_call 72
  ((with_reducible refine (CS.Z _ lS).mono ?_);rintro e v1 ⟨rfl,J⟩);have u:=BelowL.call lS J;have I:=Jh (zL q.Z u.Z);go_wp2_with fail;refine hK.out _ _ (Jd (L.Z _ u)) (fun j=>?_);clear hK K;refine yE ?_;refine hTs 8 ?_;refine jD 9 ?_;refine jD 10 ?_;refine jD 11 ?_;refine jD 12 ?_;refine jD 14 ?_;refine hSs 15 ?_;refine yI 13 (fun K hK=>?_);go_simp;refine hK.out _ _ (by first | exact j | assumption) (fun j=>?_);clear hK K;refine yE ?_;refine yI 16 (fun K hK=>?_);go_simp;refine hK.out _ _ (by first | exact j | assumption) (fun j=>?_);clear hK K;refine yE ?_;refine yI 17 (fun K hK=>?_);go_simp;refine hK.out _ _ (by first | exact j | assumption) (fun j=>?_);clear hK K;refine yE ?_;refine zQ 18 ?_;refine zQ 19 ?_;refine hTs 20 ?_;refine wpAnyH_done zK ?_ _;go_wp2_with fail;go_ret;exact ⟨zV (by rw [E.Z];rfl),I.Z⟩
 | true=>
  obtain ⟨Z,hZ⟩:=zN (U==W && V==H);have c8:=JJ U V W H Z hZ.symm
  have EZ:Hd (xg (⟨W,H,xs⟩,⟨t,s,ys⟩,zS ps)=Z):=Jh (by
   rw [E.Z,hZ]
   by_cases h1:U=W <;>by_cases h2:V=H <;>simp [h1,h2])
  clear hZ E
  go_region_held3 (fun v=>Jc v w W/\Jc v (JE w 1) H/\Jc v (JE w 2) (.slice z C A)/\Jc v (JE w 6) (.slice (some ↑(JE b off)) n c)/\Jc v (JE b off) (.int .i64 U)/\Jc v (JE b (off+1)) (.int .i64 V)/\Jc v (JE b (off+2)) (.slice fa fn fc)/\BelowL w2 v)
   (first | exact L.Z _ X | exact L.Z _ b4 | exact L.Z _ u | exact L.Z _ lS)
   (first
    | (go_at_call 72;((with_reducible refine (CS.Z _ (Nv aS)).mono ?_);rintro e v1 ⟨rfl,J⟩;have u:=BelowL.call (Nv aS) J))
    | (go_at_call 73;((with_reducible refine (vN U V fa fn fc _).mono ?_);rintro e v2 ⟨rfl,b7⟩;have b4:=BelowL.call (Nv aS) b7))
    | (go_at_call 73;((with_reducible refine (vN W H z C A _).mono ?_);rintro e v3 ⟨rfl,b8⟩;have X:=BelowL.call (Nv aS) b8)))
  have I:=Jh (zL q.Z X.Z);go_wp2_with fail;go_ret;exact ⟨zV EZ.Z.symm,I.Z⟩
noncomputable def uj (d:Dat) (s:ByteArray):Dat × List UInt8:=
 if xg d=true then (if s.size=0 then (d,[]) else match Km s with | some F=>F d | none=>(d,qR)) else (d,OB)
def Jz (w:World) (R:Dat × List UInt8) (e:Ending) (w':World):Prop:=
 ∃E:Dsk,e= .returned (.tuple #[E.val, .string ⟨R.2.toArray⟩])/\yQ w' w E/\E.dat=R.1/\vK E/\Below w w w'
set_option maxRecDepth 100000 in
theorem Ou (D:Dsk) (s:ByteArray) (w:World) (hr:RdD w D) (hs:vK D) (ha:Cg D) (hz:s.size<=1048576) (hL:qZ w) (d4:xg D.dat=true->BdD D.dat):
 Calls prog 8 #[D.val, .string s] w (Jz w (uj D.dat s)):=by
 obtain ⟨HR,HS,HA,R,e2⟩:=JI hr hs ha hL d4;obtain ⟨w0,j⟩:=zN ((w.alloc (.cells D.cells 35)).alloc (.cells ↑Zd 35));have KA:Hd (Blk w0 w 35 ↑D):=Jh (by rw [j];exact (Blk.new w _ _).alloc _);have KR:Hd (Blk w0 (w.heap.size+1) 35 ↑Zd):=Jh (by rw [j];exact Blk.zD _ _ sI);have b3:Hd (Below w w w0):=Jh (by rw [j];exact zM (zM bR _) _);have G:Hd (w0.heap.size=w.heap.size+2):=Jh (by rw [j];simp);clear hr hs ha hL d4;show Calls prog 8 #[.agg ↑D, .string s] w _;go_in;go_upto_region 1 with fail;rw [show (w.alloc (.cells ↑D 35)).alloc (.cells ↑Zd 35)=w0 from j.symm];clear j;obtain ⟨J,c0,c1,c2,c3,c4,c5,c6⟩:=KA.Z.c7;go_wp2_with fail;refine (BK D w0 (HR.Z.below b3.Z) HS.Z HA.Z).mono ?_;rintro e w1 ⟨E,rfl,ho,hd,e0,hb⟩;obtain ⟨b7,b4,q,L,b6⟩:=JI ho hb e0 hd ho.bd;have d1:=Jh (KR.Z.zA hb);clear ho hd e0 hb KA J c0 c1 c2 c3 c4 c5 c6;obtain ⟨w2,c⟩:=zN (w1.alloc (.cells E.cells 35));have Y:Hd (Blk w2 w1 35 ↑E):=Jh (by rw [c];exact Blk.new w1 _ _);have d2:Hd (Blk w2 (w.heap.size+1) 35 ↑Zd):=Jh (by rw [c];exact d1.Z.alloc _);have U:Hd (yQ w2 w0 E):=Jh (by rw [c];exact b7.Z.alloc _);have e1:Hd (Below w0 w0 w2):=Jh (by rw [c];exact zM b4.Z _);have e4:Hd (w2.heap.size=w1.heap.size+1):=Jh (by rw [c];simp);clear d1 b7;unfold Dsk.val;go_upto_region 2 with fail;rw [show w1.alloc (.cells ↑E 35)=w2 from c.symm];clear c;obtain ⟨J,c0,c1,c2,c3,c4,c5,c6⟩:=Y.Z.c7;go_wp2_with fail;refine (Sc E w2 U.Z.rd q.Z).mono ?_;rintro e w3 ⟨rfl,hb⟩;obtain ⟨I,t,o,Q⟩:=JG (Y.Z.zA hb) (d2.Z.zA hb) (U.Z.below hb) (zL e1.Z hb);have C:=Jh (zL b3.Z (Below.mono Q.Z nI));have e5:=Jh hb.size;clear hb Y d2 U J c0 c1 c2 c3 c4 c5 c6;rw [L.Z];by_cases hk:xg D.dat=true
 case neg=>
  have e8:xg D.dat=false:=by simpa using hk
  have n:Hd (uj D.dat s=(D.dat,OB)):=Jh (by unfold uj;rw [if_neg hk]);rw [e8];obtain ⟨r0,x0,x1,x2,x3,x4,x5,x6⟩:=t.Z.c7;obtain ⟨f0,f1,f2,f3,f4,f5,f6⟩:=t.Z.f7;obtain ⟨J,c0,c1,c2,c3,c4,c5,c6⟩:=I.Z.c7;go_wp2_with fail;have b2:=G.Z;refine bodyPost_ret (v:= .tuple #[E.val, .string ⟨#[98,97,100]⟩]) (by simp [results,results8,go_sem,Dsk.val,x0,x1,x2,x3,x4,x5,x6]) rfl ⟨E,(by rw [n.Z];try rfl),?_,?_,q.Z,?_⟩;exact yQ.mono (o.Z.set7 (fun b hb=>by have:=o.Z.bd b hb;omega) _ _ _ _ _ _ _) om;rw [L.Z,n.Z];exact yB C.Z om _ _ _ _ _ _ _
 rw [hk];by_cases A:s.size=0
 case pos=>
  have g0:s=⟨#[]⟩:=by
   cases s with
   | mk d=>congr;exact Array.eq_empty_of_size_eq_zero A
  have n:Hd (uj D.dat s=(D.dat,[])):=Jh (by unfold uj;rw [if_pos hk,if_pos A]);subst g0;obtain ⟨r0,x0,x1,x2,x3,x4,x5,x6⟩:=t.Z.c7;obtain ⟨f0,f1,f2,f3,f4,f5,f6⟩:=t.Z.f7;obtain ⟨J,c0,c1,c2,c3,c4,c5,c6⟩:=I.Z.c7;go_wp2_with fail;have b2:=G.Z;refine bodyPost_ret (v:= .tuple #[E.val, .string ⟨#[]⟩]) (by simp [results,results8,go_sem,Dsk.val,x0,x1,x2,x3,x4,x5,x6]) rfl ⟨E,(by rw [n.Z];try rfl),?_,?_,q.Z,?_⟩;exact yQ.mono (o.Z.set7 (fun b hb=>by have:=o.Z.bd b hb;omega) _ _ _ _ _ _ _) om;rw [L.Z,n.Z];exact yB C.Z om _ _ _ _ _ _ _
 have d8: ¬s.toList=[]:=fun e=>A (by have:=qx e;rw [this];rfl)
 have g7:s.toList.isEmpty=false:=by
  cases h:s.toList with
  | nil=>exact absurd h d8
  | cons a b=>rfl
 clear d8;obtain ⟨J,c0,c1,c2,c3,c4,c5,c6⟩:=I.Z.c7;go_wp2_with fail;refine (rP s w3 hz (R.Z.below C.Z)).mono ?_;rintro e w4 ⟨hb,v,b1⟩;obtain ⟨d0,b0,V,g1,X⟩:=JI (I.Z.zA hb) (t.Z.zA hb) (o.Z.below hb) (zL Q.Z hb) (zL C.Z hb);clear hb J c0 c1 c2 c3 c4 c5 c6;rcases b1 with ⟨f8,rfl⟩ | ⟨F,hF,rfl,e7⟩
 . have n:Hd (uj D.dat s=(D.dat,qR)):=Jh (by unfold uj;rw [if_pos hk,if_neg A,f8])
   obtain ⟨r0,x0,x1,x2,x3,x4,x5,x6⟩:=b0.Z.c7;obtain ⟨f0,f1,f2,f3,f4,f5,f6⟩:=b0.Z.f7;obtain ⟨J,c0,c1,c2,c3,c4,c5,c6⟩:=d0.Z.c7;go_wp2_with fail;have b2:=G.Z
   exact bodyPost_ret (v:= .tuple #[E.val, .string ⟨#[119,104,97,116]⟩]) (by simp [results,results8,go_sem,Dsk.val,x0,x1,x2,x3,x4,x5,x6]) rfl ⟨E,(by rw [n.Z];try rfl),
    yQ.mono (V.Z.set7 (fun b hb=>by have:=V.Z.bd b hb;omega) _ _ _ _ _ _ _) om,(by rw [L.Z,n.Z]),q.Z,yB X.Z om _ _ _ _ _ _ _⟩
 have n:Hd (uj D.dat s=F D.dat):=Jh (by unfold uj;rw [if_pos hk,if_neg A,hF]);obtain ⟨T,h,p,O,rfl,z⟩:=e7;have b2:=G.Z;have g8:=e4.Z;have h0:=e5.Z;have d5:jJ w4 w0 w1 E:=⟨d0.Z,V.Z,fun b hb=>by have:=b6.Z b hb;omega,q.Z,by rw [L.Z];exact hk,by have:=b4.Z.size;omega,R.Z.below X.Z,by have:=R.Z.size;omega⟩
 have u:=z w0 w1 E d5 (og Q.Z.size) om (fun b hb=>by have:=b6.Z b hb;omega) (by rw [L.Z];exact e2.Z hk);have HC:=Jh u;clear d5 u z;have g2: ∀(p:Value) (w:World),(method 412 151 p "loop.example/g03229/impl.perform").run prog w= .ok (321,p) w:=fun _ _=>by kernel_rfl
 have g3: ∀(p:Value) (w:World),(method 412 137 p "loop.example/g03229/impl.perform").run prog w= .ok (318,p) w:=fun _ _=>by kernel_rfl
 have g4: ∀(p:Value) (w:World),(method 412 139 p "loop.example/g03229/impl.perform").run prog w= .ok (319,p) w:=fun _ _=>by kernel_rfl
 have g5: ∀(p:Value) (w:World),(method 412 142 p "loop.example/g03229/impl.perform").run prog w= .ok (320,p) w:=fun _ _=>by kernel_rfl
 have g6: ∀(p:Value) (w:World),(method 412 154 p "loop.example/g03229/impl.perform").run prog w= .ok (322,p) w:=fun _ _=>by kernel_rfl
 simp only [qX,List.mem_cons,List.mem_nil_iff,or_false,Prod.mk.injEq] at O;rcases O with ⟨rfl,rfl⟩ | ⟨rfl,rfl⟩ | ⟨rfl,rfl⟩ | ⟨rfl,rfl⟩ | ⟨rfl,rfl⟩
 all_goals (
  go_wp2_with fail;refine HC.Z.mono ?_;rintro e w5 ⟨E2,rfl,kg,d7,d6,N,P,hb⟩;obtain ⟨e6,b8,c8,b5,e3⟩:=JI kg d7 P N (Below.trans X.Z (hb.mono om));have d3:=Jh (b0.Z.below hb om);clear kg d7 d6 N P hb;obtain ⟨r0,x0,x1,x2,x3,x4,x5,x6⟩:=d3.Z.c7;obtain ⟨f0,f1,f2,f3,f4,f5,f6⟩:=d3.Z.f7;obtain ⟨J,c0,c1,c2,c3,c4,c5,c6⟩:=(show Blk w5 w1 35 ↑E2 from e6.Z).c7
  go_wp2
  exact bodyPost_ret (v:= .tuple #[E2.val, .string ⟨(F E.dat).2.toArray⟩]) (by simp [results,results8,go_sem,Dsk.val,x0,x1,x2,x3,x4,x5,x6]) rfl ⟨E2,(by rw [n.Z,L.Z]),
   yQ.mono (b8.Z.set7 (fun b hb=>by have:=b8.Z.bd b hb;omega) _ _ _ _ _ _ _) om,(by rw [b5.Z,L.Z,n.Z]),c8.Z,yB e3.Z om _ _ _ _ _ _ _⟩)
end Go.Proofs.YtlenfgdjdianiaaGreatDoor
