/- Facts on which this claim rests, 41. -/
import Derived.Test.YtlenfgdjdianiaaGreatDoorF40
set_option linter.all false
set_option maxHeartbeats 6400000
namespace Go.Proofs.YtlenfgdjdianiaaGreatDoor
open Go.RowKit Tq Go.Proofs.Tryz
variable {B b k : Nat} {Q : Exit → Act → World → Prop} {a : Act} {o : Oper} {ops : Array Oper} {s : List UInt8} {w w' : World}
structure ModIn (w:World) (B:Nat) (D:Dsk):Prop where
 own:yG w B D
 small:jX D
 ok:yX D.dat=true
 base:B<=w.heap.size
theorem ModIn.below {w w':World} {B:Nat} {D:Dsk} (h:ModIn w B D) (hb:Below w w w'):ModIn w' B D:=
 ⟨h.own.below hb,h.small,h.ok,Yx h.base hb.size⟩
def ModOut (w:World) (B:Nat) (D:Dsk) (R:Dat × List UInt8) (e:Ending) (w':World):Prop:=
 ∃E:Dsk,e= .returned (.tuple #[E.val, .string ⟨R.2.toArray⟩])/\yG w' B E/\E.dat=R.1/\jX E/\KeepT D.blocks w w'
theorem zDJ (h:OwnV.blocks none [] b):False:=by
 rcases h with h | ⟨k,hk,_⟩
 cases h;simp at hk
theorem spec_l8Done (ok:Bool) (s:ByteArray) (w:World):Calls prog 87 #[.bool ok, .string s] w fun e w'=>e= .returned (.string (if ok then ⟨#[111,107]⟩ else s))/\w=w':=by
 cases ok
 . go_in
   go_wp2_with fail;go_ret;exact ⟨rfl,rfl⟩
 go_in;go_wp2_with fail;go_ret;exact ⟨rfl,rfl⟩
def wL (p:Pic) (ok:Bool) (d:Dat):Dat × List UInt8:=if ok then ((p,d.2.1,[]),jM) else (d,vq)
def kB (p:Pic) (ok:Bool) (d:Dat):Dat × List UInt8:=if ok then ((d.1,p,d.2.2),jM) else (d,vq)
theorem zBC {p:Pic} {ok:Bool} (h:zP p.W p.H p.ink 255=ok) (d:Dat):wL p ok d=jP p d:=by
 unfold wL jP;rw [h]
theorem uR {p:Pic} {ok:Bool} {f:Pic->Pic} {d:Dat} (hf:f d.2.1=p) (h:zq p.W p.H p.ink=ok):kB p ok d=xC f d:=by
 unfold kB xC;rw [hf,h]
set_option maxRecDepth 100000 in
theorem Kk (D:Dsk) (q:PV) (ok:Bool) (w:World) (B:Nat) (hin:ModIn w B D) (hq:OwnA w B q.a q.n q.c q.ink) (hm: ∀b,zL q.a=some b->zL D.M.a≠some b) (hn:q.n<=1048576):
 Calls prog 59 #[D.val,q.val, .bool ok] w (ModOut w B D (wL q.pic ok D.dat)):=by
 refine zQq ?_;clear hin hq hm;intro HIN HQ HM w0 hw0 KA KQ KR HB0 HZ0 HDB;show Calls prog 59 #[.agg ↑D, .agg ↑q, .bool ok] w _;go_in;go_upto_region 1 with fail;refine zQw ?_;clear hw0;cases ok
 . obtain ⟨u,c0,c1,c2,c3,c4,c5,c6⟩:=KA.Z.c7
   refine ul ?_;intro r0 x0 x1 x2 x3 x4 x5 x6 f0 f1 f2 f3 f4 f5 f6;have HBD:=HB0;have g:Hd (yG w0 B D):=Jh (HIN.Z.own.below HB0.Z);go_wp2_with fail;refine zQv ?_;intro hh0;(try go_simp);go_wp2_with fail;refine bodyPost_ret (v:= .tuple #[D.val, .string ⟨#[110,111]⟩]) (by simp [results,results59,go_sem,Dsk.val,x0,x1,x2,x3,x4,x5,x6]) rfl ⟨D,rfl,?_,rfl,HIN.Z.small,?_⟩
   with_reducible refine yG.below (yG.set7 g.Z ?_ _ _ _ _ _ _ _) bR.drew
   exact (fun b hb e=>by have:=HDB.Z b hb;omega);exact zJq
 obtain ⟨u,c0,c1,c2,c3,c4,c5,c6⟩:=KA.Z.c7;obtain ⟨f0,f1,f2,f3,f4,f5,f6⟩:=KA.Z.f7;obtain ⟨y,z,A,C⟩:=KQ.Z.c3;obtain ⟨wx,f⟩:=zN (((((((w0.setCell w ↑q.W).setCell (JE w 1) ↑q.H).setCell (JE w 2) (.slice q.a q.n q.c)).setCell (JE w 3) ↑D.M.W).setCell (JE w 4) ↑D.M.H).setCell (JE w 5) (.slice D.M.a D.M.n D.M.c)).setCell (JE w 6) (.slice none 0 0));have KX:Hd (KeepT (fun i=>i=w.heap.size) w0 wx):=Jh (by rw [f];exact vE w0 w _ _ _ _ _ _ _);have t:Hd (Blk wx w 35 #[q.W,q.H, .slice q.a q.n q.c,D.M.W,D.M.H, .slice D.M.a D.M.n D.M.c, .slice none 0 0]):=Jh (by rw [f];exact KA.Z.put7 _ _ _ _ _ _ _);refine zRF ?_;intro KR2 HBX;go_upto_region 3 with fail;rw [<-f];clear f u c0 c1 c2 c3 c4 c5 c6 f0 f1 f2 f3 f4 f5 f6 y z A C;have HBD:=HBX;have g:Hd (yG wx B D):=Jh (HIN.Z.own.below HBX.Z);have l:Hd (OwnA wx B q.a q.n q.c q.ink):=Jh (HQ.Z.zA HBX.Z);have j:=Jh HQ.Z.bd;obtain ⟨u,c0,c1,c2,c3,c4,c5,c6⟩:=t.Z.c7;obtain ⟨r0,x0,x1,x2,x3,x4,x5,x6⟩:=KR2.Z.c7;obtain ⟨f0,f1,f2,f3,f4,f5,f6⟩:=KR2.Z.f7;refine zh 3 (fun v=>Jc v w q.W/\Jc v (JE w 1) q.H/\Jc v (JE w 2) (.slice q.a q.n q.c)/\Jc v (JE w 3) D.M.W/\Jc v (JE w 4) D.M.H/\Jc v (JE w 5) (.slice D.M.a D.M.n D.M.c)/\Jc v (JE w 6) (.slice none 0 0)) zK ⟨c0,c1,c2,c3,c4,c5,c6⟩ ?_;refine ym20 ?_;intro hh0;(try go_simp);go_wp2_with fail;refine bodyPost_ret (v:= .tuple #[(⟨q,D.M,none,0,0,[]⟩:Dsk).val, .string ⟨#[111,107]⟩]) (by simp [results,results59,go_sem,Dsk.val,x0,x1,x2,x3,x4,x5,x6]) rfl ⟨⟨q,D.M,none,0,0,[]⟩,rfl,?_,rfl,⟨hn,HIN.Z.small.m,by show 0<=1048576;omega,fun k hk=>by simp at hk⟩,?_⟩;have x:yG wx B ⟨q,D.M,none,0,0,[]⟩:=⟨l.Z,g.Z.m,OwnV.nil _ _,HM.Z,fun b hb e=>(zDJ hb).elim,fun b hb e=>(zDJ hb).elim⟩
 with_reducible refine yG.below (yG.set7 x ?_ _ _ _ _ _ _ _) bR.drew
 intro b hb e;rcases hb with hb | hb | hb | ⟨k,hk,_⟩
 have:=(j.Z b hb).2;omega;have:=HDB.Z b (.inr (.inl hb));omega;cases hb;simp at hk;exact zJq
set_option maxRecDepth 100000 in
theorem jj (D:Dsk) (q:PV) (ok:Bool) (w:World) (B:Nat) (j:ModIn w B D) (z:OwnA w B q.a q.n q.c q.ink) (hm: ∀b,zL q.a=some b-> ¬D.blocks b) (hn:q.n<=1048576):
 Calls prog 48 #[D.val,q.val, .bool ok] w (ModOut w B D (kB q.pic ok D.dat)):=by
 have HIN:=Jh j;have y:=Jh z;have x:=Jh hm;clear j z hm;obtain ⟨w0,hw0⟩:=zN (((w.alloc (.cells D.cells 35)).alloc (.cells ↑q 32)).alloc (.cells ↑Zd 35));refine zRL ?_;intro KA;have A:Hd (Blk w0 (w.heap.size+1) 32 ↑q):=Jh (by rw [hw0];exact (Blk.zD _ _ sI).alloc _);refine zQx ?_;intro KR HB0 HZ0 HDB;show Calls prog 48 #[.agg ↑D, .agg ↑q, .bool ok] w _;go_in;go_upto_region 1 with fail;rw [show ((w.alloc (.cells ↑D 35)).alloc (.cells ↑q 32)).alloc (.cells ↑Zd 35)=w0 from hw0.symm];clear hw0;cases ok
 . obtain ⟨u,c0,c1,c2,c3,c4,c5,c6⟩:=KA.Z.c7
   refine ul ?_;intro r0 x0 x1 x2 x3 x4 x5 x6 f0 f1 f2 f3 f4 f5 f6;have HBD:=HB0;have f:Hd (yG w0 B D):=Jh (HIN.Z.own.below HB0.Z);go_wp2_with fail;refine zQv ?_;intro hh0;(try go_simp);go_wp2_with fail;refine bodyPost_ret (v:= .tuple #[D.val, .string ⟨#[110,111]⟩]) (by simp [results,results48,go_sem,Dsk.val,x0,x1,x2,x3,x4,x5,x6]) rfl ⟨D,rfl,?_,rfl,HIN.Z.small,?_⟩
   with_reducible refine yG.below (yG.set7 f.Z ?_ _ _ _ _ _ _ _) bR.drew
   exact (fun b hb e=>by have:=HDB.Z b hb;omega);exact zJq
 obtain ⟨u,c0,c1,c2,c3,c4,c5,c6⟩:=KA.Z.c7;obtain ⟨f0,f1,f2,f3,f4,f5,f6⟩:=KA.Z.f7;obtain ⟨E,F,I,J⟩:=A.Z.c3;obtain ⟨wx,g⟩:=zN (((w0.setCell (JE w 3) ↑q.W).setCell (JE w 4) ↑q.H).setCell (JE w 5) (.slice q.a q.n q.c));have KX:Hd (KeepT (fun i=>i=w.heap.size) w0 wx):=Jh (by rw [g];exact KeepT.set (S:=fun i=>i=w.heap.size) (KeepT.set (S:=fun i=>i=w.heap.size) (KeepT.set (S:=fun i=>i=w.heap.size) (KeepT.refl _ _) rfl _) rfl _) rfl _);have t:Hd (Blk wx w 35 #[D.P.W,D.P.H, .slice D.P.a D.P.n D.P.c,q.W,q.H, .slice q.a q.n q.c, .slice D.a D.n D.c]):=Jh (by rw [g];exact KA.Z.putM _ _ _);refine zRF ?_;intro KR2 HBX;go_upto_region 3 with fail;rw [<-g];clear g u c0 c1 c2 c3 c4 c5 c6 f0 f1 f2 f3 f4 f5 f6 E F I J;have HBD:=HBX;have f:Hd (yG wx B D):=Jh (HIN.Z.own.below HBX.Z);have m:Hd (OwnA wx B q.a q.n q.c q.ink):=Jh (y.Z.zA HBX.Z);have l:=Jh y.Z.bd;obtain ⟨u,c0,c1,c2,c3,c4,c5,c6⟩:=t.Z.c7;obtain ⟨r0,x0,x1,x2,x3,x4,x5,x6⟩:=KR2.Z.c7;obtain ⟨f0,f1,f2,f3,f4,f5,f6⟩:=KR2.Z.f7;refine zh 3 (fun v=>Jc v w D.P.W/\Jc v (JE w 1) D.P.H/\Jc v (JE w 2) (.slice D.P.a D.P.n D.P.c)/\Jc v (JE w 3) q.W/\Jc v (JE w 4) q.H/\Jc v (JE w 5) (.slice q.a q.n q.c)/\Jc v (JE w 6) (.slice D.a D.n D.c)) zK ⟨c0,c1,c2,c3,c4,c5,c6⟩ ?_;refine ym20 ?_;intro hh0;(try go_simp);go_wp2_with fail;refine bodyPost_ret (v:= .tuple #[(⟨D.P,q,D.a,D.n,D.c,D.ps⟩:Dsk).val, .string ⟨#[111,107]⟩]) (by simp [results,results48,go_sem,Dsk.val,x0,x1,x2,x3,x4,x5,x6]) rfl ⟨⟨D.P,q,D.a,D.n,D.c,D.ps⟩,rfl,?_,rfl,⟨HIN.Z.small.p,hn,HIN.Z.small.n,HIN.Z.small.s⟩,?_⟩;have C:yG wx B ⟨D.P,q,D.a,D.n,D.c,D.ps⟩:=⟨f.Z.p,m.Z,f.Z.s,fun b hb e=>x.Z b e (.inl hb),f.Z.ps,fun b hb e=>x.Z b e (.inr (.inr hb))⟩
 with_reducible refine yG.below (yG.set7 C ?_ _ _ _ _ _ _ _) bR.drew
 intro b hb e;rcases hb with hb | hb | hb
 have:=HDB.Z b (.inl hb);omega;have:=(l.Z b hb).2;omega;have:=HDB.Z b (.inr (.inr hb));omega;exact zJq
theorem zQC (w:World) {rest:List Oper}
 (t:o.guard=none) (s x:Operand) (y:o.op= .call {callee:= .builtin .append,args:=#[s,x],argTypes:=#[33,33]})
 (B n m:Nat) (q:Option Addr) (L:List PV) (O:a.eval s= .slice q n m) (E:RowVA w B q n m L) (g:Nat) (p:PV) (P:a.eval x= .slice ↑g 1 1)
 (J:w.cell? g=some ↑p.W) (h1:w.cell? (g,1)=some ↑p.H) (h2:w.cell? (g,2)=some (.slice p.a p.n p.c)) (hn:n<=1048576) (N:B<=w.heap.size)
 (hK: ∀f e w',RowVA w' B f (n+1) e (L++ [p])->w.grownBy w' (zL q)->(zL f=zL q\/zL f=some w)->wpList prog ops Q rest (a.put o.dst (.slice f (n+1) e)) w'):
 wpList prog ops Q (o::rest) a w:=by
 obtain ⟨i,hi,z,A,C⟩:=info_parts JJ;have hf:yZ L++p.cells=yZ (L++ [p]):=by simp [yZ]
 refine wpList_append_own_at (w:=w) t s x 33 y B 31 i (.agg ↑Zp) 3 40 underlying33 hi z A C (by simp [Value.cells]) om _ n (yZ L) O E.toRow ↑g 1 1 p.cells P (by simp [PV.cells]) ?_ ?_ (by unfold maxLen;omega) om N ?_;intro j u l
 have v:j=0\/j=1\/j=2:=by
  have:=(List.getElem?_eq_some_iff.1 l).1;simp [PV.cells] at this;omega
 rcases v with rfl | rfl | rfl
 simp [PV.cells] at l;subst l;simpa [Addr.add] using J;simp [PV.cells] at l;subst l;simpa [Addr.add] using h1;simp [PV.cells] at l;subst l;simpa [Addr.add] using h2;intro u F;simp [PV.cells] at F;rcases F with rfl | rfl | rfl <;>rfl
 intro R w' G I _ D;rw [hf] at G;obtain ⟨f,e,rfl,M⟩:=RowVA.ofRow (by rw [Yn,E.1];rfl) G;rw [xj] at I D;rw [xj] at D;exact hK f e w' M I D
theorem KeepT.setNew {S:Nat->Prop} (h:KeepT S w w') {a:Addr} (ha:w.heap.size<=a.block) (u:Value):KeepT S w (w'.setCell a u):=
 ⟨h.os,h.tape,h.output,by simpa [World.setCell] using h.size,fun i hi c=>(Below.heap_setCell w' a u i (fun e=>om)).trans (h.block i hi c)⟩
def modPlate (p:Pic) (s:List UInt8) (d:Dat):Dat × List UInt8:=if d.2.2.length=4 then (d,KE) else ((d.1,d.2.1,d.2.2++ [p]),s)
theorem uw {p:Pic} {f:Dat->Pic × List UInt8} {d:Dat} (h:f d=(p,s)):modPlate p s d=yg f d:=by
 unfold modPlate yg;rw [h]
set_option maxRecDepth 100000 in
theorem spec_l8Plate (D:Dsk) (q:PV) (s:List UInt8) (w:World) (B:Nat) (hin:ModIn w B D) (hq:OwnA w B q.a q.n q.c q.ink) (hm: ∀b,zL q.a=some b-> ¬D.blocks b) (hn:q.n<=1048576):
 Calls prog 50 #[D.val,q.val, .string ⟨s.toArray⟩] w (ModOut w B D (modPlate q.pic s D.dat)):=by
 refine zQq ?_;clear hin hq hm;intro HIN HQ HM w0 hw0 KA KQ KR HB0 HZ0 HDB;show Calls prog 50 #[.agg ↑D, .agg ↑q, .string ⟨s.toArray⟩] w _;go_in;go_upto_region 1 with fail;refine zQw ?_;clear hw0;have x:(zS D.ps).length=D.n:=by rw [xa];exact HIN.Z.own.s.len
 have L:Hd (D.n<=4):=Jh (by have:=((jJ _).1 HIN.Z.ok).n;rw [<-x];exact this);by_cases h4:D.n=4
 . have E:Hd (modPlate q.pic s D.dat=(D.dat,KE)):=Jh (by unfold modPlate;rw [if_pos (by show (zS D.ps).length=4;rw [x,h4])])
   have O:((D.n:Int)==4)=true:=by rw [h4];rfl
   clear x h4;obtain ⟨l0,c0,c1,c2,c3,c4,c5,c6⟩:=KA.Z.c7;refine ul ?_;intro r0 x0 x1 x2 x3 x4 x5 x6 f0 f1 f2 f3 f4 f5 f6;have g:Hd (yG w0 B D):=Jh (HIN.Z.own.below HB0.Z);go_wp2_with fail;refine bodyPost_ret (v:= .tuple #[D.val, .string ⟨#[102,117,108,108]⟩]) (by simp [results,results50,go_sem,Dsk.val,x0,x1,x2,x3,x4,x5,x6]) rfl ⟨D,by rw [E.Z];rfl,?_,by rw [E.Z],HIN.Z.small,?_⟩
   with_reducible refine yG.set7 g.Z ?_ _ _ _ _ _ _ _
   exact (fun b hb e=>by have:=HDB.Z b hb;omega);exact KeepT.zE (zc HB0.Z om _ _ _ _ _ _ _)
 have E:Hd (modPlate q.pic s D.dat=((D.P.pic,D.M.pic,zS D.ps++ [q.pic]),s)):=Jh (by unfold modPlate;rw [if_neg (by show ¬(zS D.ps).length=4;rw [x];exact h4)];rfl);have O:((D.n:Int)==4)=false:=sO;clear x h4;obtain ⟨l0,c0,c1,c2,c3,c4,c5,c6⟩:=KA.Z.c7;obtain ⟨k0,q0,q1,q2⟩:=KQ.Z.c3;have g:Hd (yG w0 B D):=Jh (HIN.Z.own.below HB0.Z);have b0:=L.Z;have U:=HIN.Z.base;go_wp2_with (at_builtin;refine zQC _ rfl (.tmp 14) (.tmp 16) rfl B D.n D.c D.a D.ps rfl (yG.alloc g.Z (.cells ↑q 31)).s.toRowVA w0.heap.size q rfl (by go_simp) (by go_simp) (by go_simp) om (oS HZ0.Z) ?_;intro j f J X l I;have F:=Jh ((KA.Z.alloc (.cells ↑q 31)).grown l (fun e=>by have:=HDB.Z _ (.inr (.inr (.inl e.symm)));omega));obtain ⟨l0,c0,c1,c2,c3,c4,c5,c6⟩:=F.Z.c7;obtain ⟨f0,f1,f2,f3,f4,f5,f6⟩:=F.Z.f7;have H:=Jh ((KR.Z.alloc (.cells ↑q 31)).grown l (fun e=>by have:=HDB.Z _ (.inr (.inr (.inl e.symm)));omega));obtain ⟨r0,x0,x1,x2,x3,x4,x5,x6⟩:=H.Z.c7;obtain ⟨g0,g1,g2,g3,g4,g5,g6⟩:=H.Z.f7);have y:=Jh (yG.alloc g.Z (.cells ↑q 31));have N:=Jh ((HQ.Z.zA HB0.Z).alloc (.cells ↑q 31));have C:=Jh HQ.Z.bd;have b2:=HZ0.Z;have b1: ∀b,zL D.a=some b->b<w.heap.size:=fun b hb=>HDB.Z b (.inr (.inr (.inl hb)))
 have T:OwnV J B j (D.n+1) f (D.ps++ [q]):=OwnV.snoc y.Z.s X l
  (fun b hb=>by
   rcases I with e | e
   rw [e] at hb;exact .inl hb
   rw [e] at hb;injection hb with hb;exact .inr om)
  (N.Z.zG l (fun b hb t=>HM.Z b t (.inr (.inr (.inl hb)))))
  (fun b hb=>by
   have h2:=(C.Z b hb).2
   exact ⟨sO,fun V=>HM.Z b hb (.inr (.inr V))⟩)
 have z: ∀b,OwnV.blocks j (D.ps++ [q]) b->OwnV.blocks D.a D.ps b\/w0.heap.size<=b\/zL q.a=some b:=fun b hb=>by
  rcases hb with hb | ⟨k,hk,hb⟩
  rcases I with e | e
  rw [e] at hb;exact .inl (.inl hb);rw [e] at hb;injection hb with hb;simp at hb;exact .inr (.inl om)
  by_cases e:k<D.ps.length
  rw [uV e] at hb;exact .inl (.inr ⟨k,e,hb⟩);obtain rfl:k=D.ps.length:=by simp at hk;omega
  rw [ww] at hb;exact .inr (.inr hb)
 have Y:yG J B ⟨D.P,D.M,j,D.n+1,f,D.ps++ [q]⟩:=⟨y.Z.p.zG l (fun b hb t=>g.Z.ps b (.inl hb) t),y.Z.m.zG l (fun b hb t=>g.Z.ms b (.inl hb) t),T,g.Z.pm,fun b hb e=>by
  rcases z b hb with hb | hb | hb
  exact g.Z.ps b hb e;have:=HDB.Z b (.inl e);omega;exact HM.Z b hb (.inl e),fun b hb e=>by
  rcases z b hb with hb | hb | hb
  exact g.Z.ms b hb e;have:=HDB.Z b (.inr (.inl e));omega
  exact HM.Z b hb (.inr (.inl e))⟩
 have hE: ∀b,(⟨D.P,D.M,j,D.n+1,f,D.ps++ [q]⟩:Dsk).blocks b->b<w.heap.size\/w0.heap.size<=b:=fun b hb=>by
  rcases hb with hb | hb | hb
  exact .inl (HDB.Z b (.inl hb));exact .inl (HDB.Z b (.inr (.inl hb)));rcases z b hb with hb | hb | hb
  exact .inl (HDB.Z b (.inr (.inr hb)));exact .inr hb;exact .inl (C.Z b hb).2
 have W:KeepT D.blocks w J:=(KeepT.zE (zJ HB0.Z _)).trans ((KeepT.ofGrown l (fun b hb=> .inr (.inr (.inl hb)))).mono (fun i hi=>hi));refine bodyPost_ret (v:= .tuple #[(⟨D.P,D.M,j,D.n+1,f,D.ps++ [q]⟩:Dsk).val, .string ⟨s.toArray⟩]) (by simp [results,results50,go_sem,Dsk.val,x0,x1,x2,x3,x4,x5,x6]) rfl ⟨⟨D.P,D.M,j,D.n+1,f,D.ps++ [q]⟩,by rw [E.Z],?_,?_,⟨HIN.Z.small.p,HIN.Z.small.m,by show D.n+1<=1048576;omega,fun k hk=>?_⟩,?_⟩;have h7:=(KeepT.set (S:=fun i=>i=w.heap.size) (KeepT.refl _ J) (a:=↑(w,6)) rfl (.slice j (D.n+1) f))
 with_reducible refine yG.set7 (yG.keepZ Y h7 ?_) ?_ _ _ _ _ _ _ _
 intro b e hb;have:=hE b hb;omega;intro b hb e;have:=hE b hb;omega;rw [E.Z];show (D.P.pic,D.M.pic,zS (D.ps++ [q]))=_;simp [zS,PV.pic];by_cases e:k<D.ps.length
 show (pv (D.ps++ [q]) k).n<=1048576;rw [uV e];exact HIN.Z.small.s k e;obtain rfl:k=D.ps.length:=by simp at hk;omega
 show (pv (D.ps++ [q]) D.ps.length).n<=1048576;rw [ww];exact hn;have A: ∀ {u:World} (i:Nat) (v:Value),KeepT D.blocks w u->KeepT D.blocks w (u.setCell (w.heap.size+1+1,i) v):=fun i v k=>KeepT.setNew k (by show w.heap.size<=w.heap.size+1+1;omega) v;exact A 6 _ (A 5 _ (A 4 _ (A 3 _ (A 2 _ (A 1 _ (A 0 _ (KeepT.setNew W nI _)))))))
theorem ModIn.last {r:Nat} {D:Dsk} (h:ModIn w B D) (hk:D.n=k+1) (hr:D.a=some ↑r):
 r<w.heap.size/\Jc w (r,k*3) (pv D.ps k).W/\Jc w (r,k*3+1) (pv D.ps k).H/\Jc w (r,k*3+2) (.slice (pv D.ps k).a (pv D.ps k).n (pv D.ps k).c)/\
  (pv D.ps k).ink.length=(pv D.ps k).n/\Rd w (pv D.ps k).a (pv D.ps k).ink/\(pv D.ps k).n<=1048576:=by
 have hl:k<D.ps.length:=by rw [h.own.s.len,hk];omega
 have e:=h.own.s.rd;rw [hr] at e;obtain ⟨_,c0,c1,c2⟩:=e.cells hl;have hb:=(h.own.bd r (.inr (.inr (.inl (by rw [hr];rfl))))).2;simp only [Nat.zero_add] at c0 c1 c2;exact ⟨hb,c0,c1,c2,e.len hl,e.rd hl,h.small.s k hl⟩
set_option maxRecDepth 100000 in
theorem zLB (D:Dsk) (s:ByteArray) (w:World) (B:Nat) (f:ModIn w B D) (c:D.n=0):
 Calls prog 52 #[D.val, .string s] w (ModOut w B D (D.dat,KH)):=by
 have HIN:=Jh f;have H0:=Jh c;clear f c;obtain ⟨w0,hw0⟩:=zN ((w.alloc (.cells D.cells 35)).alloc (.cells ↑Zd 35));refine zOs ?_;intro KA KR HB0;have HDB:=Jh (fun b (hb:D.blocks b)=>(HIN.Z.own.bd b hb).2);show Calls prog 52 #[.agg ↑D, .string s] w _;go_in;go_upto_region 1 with fail;refine ym3 ?_;clear hw0;intro l0 c0 c1 c2 c3 c4 c5 c6;refine ul ?_;intro r0 x0 x1 x2 x3 x4 x5 x6 f0 f1 f2 f3 f4 f5 f6;have c:=H0.Z;rw [c] at c6;have g:IntKind.i64.wrap ((0:Int) - 1)=-1:=dC;go_wp2_with fail;refine bodyPost_ret (v:= .tuple #[D.val, .string ⟨#[110,111,110,101]⟩]) (by simp [results,results52,go_sem,Dsk.val,x0,x1,x2,x3,x4,x5,x6,c]) rfl ⟨D,rfl,?_,rfl,HIN.Z.small,?_⟩;exact qs;exact KeepT.zE (zc HB0.Z om _ _ _ _ _ _ _)
set_option maxRecDepth 100000 in
theorem zIj (D:Dsk) (k r:Nat) (w:World) (B:Nat) (hin:ModIn w B D) (hk:D.n=k+1) (hr:D.a=some ↑r):
 Calls prog 52 #[D.val, .string ⟨#[101,114,114,111,114]⟩] w (ModOut w B D ((qQ) D.dat (pv D.ps k).pic)):=by
 refine ym9 ?_;clear hin hk hr;intro HIN KK KRr hrb HBD HLEN hn4 q HQK p0 p1 p2 HQM LN RD SM;refine ym1 ?_;intro w0 hw0 KA KR HB0 HZ0 HDB;show Calls prog 52 #[.agg ↑D, .string ⟨#[101,114,114,111,114]⟩] w _;go_in;go_upto_region 1 with fail;refine ym2 ?_;clear hw0 p0 p1 p2;intro l0 c0 c1 c2 c3 c4 c5 c6 P0 P1 P2 hk1 hk2 k0 kn k1 w1 hw1 KA1 KR1 KQ1 HB1 HZ1;have E:Hd (qQ D.dat q.pic=(D.dat,Lib.itoa (qf D.P.W D.P.H D.P.ink q.W q.H q.ink))):=Jh (by rw [<-qz];rfl);have l:Hd (yK (qf D.P.W D.P.H D.P.ink q.W q.H q.ink)):=Jh (HBD.Z.err q.pic HQM.Z);go_upto_region 32 with fail;rw [<-hw1];clear hw1 l0 c0 c1 c2 c3 c4 c5 c6 P0 P1 P2;refine ym7 ?_;intro l0 k0' MK hHeld hb0 K hK;((with_reducible refine (zFk D.P.W D.P.H D.P.a D.P.n D.P.c D.P.ink q.W q.H q.a q.n q.c q.ink _ HIN.Z.own.p.len ((HIN.Z.own.p.rd.below HB1.Z).below hb0.Z) (og HIN.Z.small.p) LN.Z ((RD.Z.below HB1.Z).below hb0.Z) (oh SM)).mono ?_);rintro e O ⟨rfl,g⟩);have hb1:=BelowL.call hb0 g;go_wp2_with fail;refine Ju ?_;clear hK K hHeld;intro hHeld;refine zW 5 (fun K hK=>?_);go_simp;((with_reducible refine (jW (qf D.P.W D.P.H D.P.ink q.W q.H q.ink) _ l.Z).mono ?_);rintro e v2 ⟨rfl,j⟩);have hb2:=BelowL.call hb1 j;go_wp2_with fail;refine Xw ?_;clear hK K hHeld;intro hHz hHeld;clear hHz;have f:=KR1.Z.zA hb2.Z;obtain ⟨N,m,t,u,x,y,z,A⟩:=f.c7;obtain ⟨C,F,I,f3,J,L,M⟩:=f.f7;refine zW 6 (fun K hK=>?_);refine ym43 ?_;clear hK K hHeld;refine zW 7 (fun K hK=>?_);refine ym14 ?_;clear hK K;refine zx zK ?_ _;(try go_simp);go_wp2_with fail;have HBv:Below w w v2:=Below.trans HB1.Z (hb2.Z.mono HB1.Z.size);refine bodyPost_ret (v:= .tuple #[D.val, .string ⟨(Lib.itoa (qf D.P.W D.P.H D.P.ink q.W q.H q.ink)).toArray⟩]) (by simp [results,results52,go_sem,Dsk.val,KRr.Z,KK.Z,m,t,u,x,y,z,A]) rfl ⟨D,by rw [E.Z],?_,by rw [E.Z],HIN.Z.small,?_⟩;exact zGM;exact KeepT.zE (zc HBv om _ _ _ _ _ _ _)
set_option maxRecDepth 100000 in
theorem zLC (D:Dsk) (k r:Nat) (w:World) (B:Nat) (hin:ModIn w B D) (hk:D.n=k+1) (hr:D.a=some ↑r):
 Calls prog 52 #[D.val, .string ⟨#[114,117,110,115]⟩] w (ModOut w B D ((ZQ) D.dat (pv D.ps k).pic)):=by
 refine ym9 ?_;clear hin hk hr;intro HIN KK KRr hrb HBD HLEN hn4 q HQK p0 p1 p2 HQM LN RD SM;refine ym1 ?_;intro w0 hw0 KA KR HB0 HZ0 HDB;show Calls prog 52 #[.agg ↑D, .string ⟨#[114,117,110,115]⟩] w _;go_in;go_upto_region 1 with fail;refine ym2 ?_;clear hw0 p0 p1 p2;intro l0 c0 c1 c2 c3 c4 c5 c6 P0 P1 P2 hk1 hk2 k0 kn k1 w1 hw1 KA1 KR1 KQ1 HB1 HZ1;have E:Hd (ZQ D.dat q.pic=(D.dat,xI (jF q.W q.H q.ink))):=Jh rfl;have t:Hd ((jF q.W q.H q.ink).length<=4096/\ ∀x,x ∈ jF q.W q.H q.ink->yK x):=Jh (HBD.Z.runs q.pic HQM.Z);go_upto_region 25 with fail;rw [<-hw1];clear hw1 l0 c0 c1 c2 c3 c4 c5 c6 P0 P1 P2;refine zOq ?_;intro l0 c0 c1 c2 c3 c4 c5 c6 k0' q0 q1 q2 MK;refine zh 4 (fun v=>JB v w D.P.W D.P.H (.slice D.P.a D.P.n D.P.c) (Jc v (w,3) D.M.W/\Jc v (w,4) D.M.H/\Jc v (w,5) (.slice D.M.a D.M.n D.M.c)/\Jc v (w,6) (.slice ↑r (k+1) D.c)/\JB v w0 q.W q.H (.slice q.a q.n q.c) (BelowL w1 v))) zK (MK.Z _ lS) ?_;intro hHeld;have j:=BelowL.start w1;clear c0 c1 c2 c3 c4 c5 c6 q0 q1 q2;refine tTs 0 ?_;refine tTs 1 ?_;refine zW 2 (fun K hK=>?_);go_simp;((with_reducible refine (zHA q.W q.H q.a q.n q.c q.ink _ LN.Z ((RD.Z.below HB1.Z).below j.Z) (oh SM)).mono ?_);rintro e Y ⟨a1,n1,k1,rfl,f,u,l⟩);have hb1:=BelowL.call j l;go_wp2_with fail;refine Ju ?_;clear hK K hHeld;intro hHeld;refine zW 3 (fun K hK=>?_);go_simp;((with_reducible refine (Xr a1 n1 k1 (jF q.W q.H q.ink) _ f.len f.rd (by have:=t.Z.1;rw [<-f.len];exact this) t.Z.2).mono ?_);rintro e v2 ⟨rfl,m⟩);have hb2:=BelowL.call hb1 m;go_wp2_with fail;refine Xw ?_;clear hK K hHeld;intro hHz hHeld;clear hHz;have g:=KR1.Z.zA hb2.Z;obtain ⟨X,y,z,A,C,F,I,J⟩:=g.c7;obtain ⟨L,N,O,f3,T,U,V⟩:=g.f7;refine zW 4 (fun K hK=>?_);refine ym43 ?_;clear hK K hHeld;refine zW 5 (fun K hK=>?_);refine ym14 ?_;clear hK K;refine zx zK ?_ _;(try go_simp);go_wp2_with fail;have HBv:Below w w v2:=Below.trans HB1.Z (hb2.Z.mono HB1.Z.size);refine bodyPost_ret (v:= .tuple #[D.val, .string ⟨(xI (jF q.W q.H q.ink)).toArray⟩]) (by simp [results,results52,go_sem,Dsk.val,KRr.Z,KK.Z,y,z,A,C,F,I,J]) rfl ⟨D,by rw [E.Z],?_,by rw [E.Z],HIN.Z.small,?_⟩;exact zGM;exact KeepT.zE (zc HBv om _ _ _ _ _ _ _)
set_option maxRecDepth 100000 in
theorem zGi (D:Dsk) (k r:Nat) (w:World) (B:Nat) (hin:ModIn w B D) (hk:D.n=k+1) (hr:D.a=some ↑r):
 Calls prog 52 #[D.val, .string ⟨#[99,111,117,110,116,115]⟩] w (ModOut w B D ((ue) D.dat (pv D.ps k).pic)):=by
 refine ym9 ?_;clear hin hk hr;intro HIN KK KRr hrb HBD HLEN hn4 q HQK p0 p1 p2 HQM LN RD SM;refine ym1 ?_;intro w0 hw0 KA KR HB0 HZ0 HDB;show Calls prog 52 #[.agg ↑D, .string ⟨#[99,111,117,110,116,115]⟩] w _;go_in;go_upto_region 1 with fail;refine ym2 ?_;clear hw0 p0 p1 p2;intro l0 c0 c1 c2 c3 c4 c5 c6 P0 P1 P2 hk1 hk2 k0 kn k1 w1 hw1 KA1 KR1 KQ1 HB1 HZ1;have E:Hd (ue D.dat q.pic=(D.dat,xI (yt (zS D.ps)))):=Jh rfl;have t:Hd ((yt (zS D.ps)).length<=4096/\ ∀x,x ∈ yt (zS D.ps)->yK x):=Jh HBD.Z.counts;go_upto_region 30 with fail;rw [<-hw1];clear hw1 l0 c0 c1 c2 c3 c4 c5 c6 P0 P1 P2;refine zOq ?_;intro l0 c0 c1 c2 c3 c4 c5 c6 k0' q0 q1 q2 MK;refine zh 5 (fun v=>JB v w D.P.W D.P.H (.slice D.P.a D.P.n D.P.c) (Jc v (w,3) D.M.W/\Jc v (w,4) D.M.H/\Jc v (w,5) (.slice D.M.a D.M.n D.M.c)/\Jc v (w,6) (.slice ↑r (k+1) D.c)/\JB v w0 q.W q.H (.slice q.a q.n q.c) (BelowL w1 v))) zK (MK.Z _ lS) ?_;intro hHeld;have j:=BelowL.start w1;clear c0 c1 c2 c3 c4 c5 c6 q0 q1 q2;refine Xx ?_;refine zW 3 (fun K hK=>?_);go_simp;((with_reducible refine (zBb ↑r (k+1) D.c D.ps _ (by rw [HIN.Z.own.s.len,KK.Z]) (by have h:=((HIN.Z.own.s.rd.below HB1.Z).below j.Z);rw [KRr.Z] at h;exact h) om HIN.Z.small.s).mono ?_);rintro e Y ⟨a1,n1,k1,rfl,f,u,l⟩);have hb1:=BelowL.call j l;go_wp2_with fail;refine Ju ?_;clear hK K hHeld;intro hHeld;refine zW 4 (fun K hK=>?_);go_simp;((with_reducible refine (Xr a1 n1 k1 (yt (zS D.ps)) _ f.len f.rd (by have:=t.Z.1;rw [<-f.len];exact this) t.Z.2).mono ?_);rintro e v2 ⟨rfl,m⟩);have hb2:=BelowL.call hb1 m;go_wp2_with fail;refine Xw ?_;clear hK K hHeld;intro hHz hHeld;clear hHz;have g:=KR1.Z.zA hb2.Z;obtain ⟨X,y,z,A,C,F,I,J⟩:=g.c7;obtain ⟨L,N,O,f3,T,U,V⟩:=g.f7;refine zW 5 (fun K hK=>?_);refine ym43 ?_;clear hK K hHeld;refine zJn ?_;(try go_simp);go_wp2_with fail;have HBv:Below w w v2:=Below.trans HB1.Z (hb2.Z.mono HB1.Z.size);refine bodyPost_ret (v:= .tuple #[D.val, .string ⟨(xI (yt (zS D.ps))).toArray⟩]) (by simp [results,results52,go_sem,Dsk.val,KRr.Z,KK.Z,y,z,A,C,F,I,J]) rfl ⟨D,by rw [E.Z],?_,by rw [E.Z],HIN.Z.small,?_⟩;exact zGM;exact KeepT.zE (zc HBv om _ _ _ _ _ _ _)
set_option maxRecDepth 100000 in
theorem zLA (D:Dsk) (k r:Nat) (w:World) (B:Nat) (hin:ModIn w B D) (hk:D.n=k+1) (hr:D.a=some ↑r):
 Calls prog 52 #[D.val, .string ⟨#[109,101,97,110]⟩] w (ModOut w B D ((ZN) D.dat (pv D.ps k).pic)):=by
 refine ym9 ?_;clear hin hk hr;intro HIN KK KRr hrb HBD HLEN hn4 q HQK p0 p1 p2 HQM LN RD SM;refine ym1 ?_;intro w0 hw0 KA KR HB0 HZ0 HDB;show Calls prog 52 #[.agg ↑D, .string ⟨#[109,101,97,110]⟩] w _;go_in;go_upto_region 1 with fail;refine ym2 ?_;clear hw0 p0 p1 p2;intro l0 c0 c1 c2 c3 c4 c5 c6 P0 P1 P2 hk1 hk2 k0 kn k1 w1 hw1 KA1 KR1 KQ1 HB1 HZ1;have E:Hd (ZN D.dat q.pic=(D.dat,xI [(ku q.W q.H q.ink).1,(ku q.W q.H q.ink).2])):=Jh rfl;have u:Hd (yK (ku q.W q.H q.ink).1/\yK (ku q.W q.H q.ink).2):=Jh (zDI _ _ _);go_upto_region 27 with fail;rw [<-hw1];clear hw1 l0 c0 c1 c2 c3 c4 c5 c6 P0 P1 P2;obtain ⟨I,L,N,O⟩:=KQ1.Z.c3;go_wp2_with fail;refine (zGz q.W q.H q.a q.n q.c q.ink _ LN.Z (RD.Z.below HB1.Z) (oh SM)).mono ?_;rintro e w2 ⟨rfl,hb⟩;have f:=Jh (zI HB1.Z hb);have z:=Jh (KA1.Z.zA hb);have A:=Jh (KR1.Z.zA hb);clear hb I L N O;obtain ⟨m,j⟩: ∃x,(ku q.W q.H q.ink).1=x:=⟨_,rfl⟩
 obtain ⟨t,l⟩: ∃x,(ku q.W q.H q.ink).2=x:=⟨_,rfl⟩
 rw [j,l] at u E⊢;clear j l
 have y:Hd (∀x,x ∈ [m,t]->yK x):=Jh (fun x J=>by
  simp only [List.mem_cons,List.not_mem_nil,or_false] at J;rcases J with rfl | rfl
  exact u.Z.1
  exact u.Z.2)
 obtain ⟨l0,c0,c1,c2,c3,c4,c5,c6⟩:=z.Z.c7;rw [KRr.Z,KK.Z] at c6;go_upto_region 28 with fail;have MK:Hd (∀v,BelowL w2 v->(JB v w D.P.W D.P.H (.slice D.P.a D.P.n D.P.c) (Jc v (w,3) D.M.W/\Jc v (w,4) D.M.H/\Jc v (w,5) (.slice D.M.a D.M.n D.M.c)/\Jc v (w,6) (.slice ↑r (k+1) D.c)/\BelowL w2 v):Prop)):=Jh (fun v h=>⟨(h.Z.cell l0).trans c0,(h.Z.cell l0).trans c1,(h.Z.cell l0).trans c2,(h.Z.cell l0).trans c3,(h.Z.cell l0).trans c4,(h.Z.cell l0).trans c5,(h.Z.cell l0).trans c6,h⟩);refine zh 5 MK zK (MK.Z _ lS) ?_;intro hHeld;have C:=BelowL.start w2;clear c0 c1 c2 c3 c4 c5 c6;refine Xx ?_;refine zW 3 (fun K hK=>?_);go_simp;have hb1:=BelowL.alloc C (.cells #[m,t] 3);refine Ju ?_;clear hK K hHeld;intro hHeld;refine zW 4 (fun K hK=>?_);go_simp
 ((refine (Xr ↑w2 2 2 [m,t] _ rfl (by exact zIA w2.drew m t _) om y.Z).mono ?_);rintro e v2 ⟨rfl,F⟩)
 have hb2:=BelowL.call hb1 F;go_wp2_with fail;refine Xw ?_;clear hK K hHeld;intro hHz hHeld;clear hHz;have g:=A.Z.zA hb2.Z;obtain ⟨r0,T,U,V,X,Y,x5,x6⟩:=g.c7;obtain ⟨f0,f1,f2,f3,f4,f5,f6⟩:=g.f7;refine zW 5 (fun K hK=>?_);refine ym43 ?_;clear hK K hHeld;refine zJn ?_;(try go_simp);go_wp2_with fail;have HBv:Below w w v2:=Below.trans f.Z (hb2.Z.mono f.Z.size);refine bodyPost_ret (v:= .tuple #[D.val, .string ⟨(xI [m,t]).toArray⟩]) (by simp [results,results52,go_sem,Dsk.val,KRr.Z,KK.Z,T,U,V,X,Y,x5,x6]) rfl ⟨D,by rw [E.Z],?_,by rw [E.Z],HIN.Z.small,?_⟩;exact zGM;exact KeepT.zE (zc HBv om _ _ _ _ _ _ _)
set_option maxRecDepth 100000 in
theorem zKy (D:Dsk) (k r:Nat) (w:World) (B:Nat) (hin:ModIn w B D) (hk:D.n=k+1) (hr:D.a=some ↑r):
 Calls prog 52 #[D.val, .string ⟨#[100,114,111,112]⟩] w (ModOut w B D ((vt) D.dat (pv D.ps k).pic)):=by
 refine ym9 ?_;clear hin hk hr;intro HIN KK KRr hrb HBD HLEN hn4 q HQK p0 p1 p2 HQM LN RD SM;refine ym1 ?_;intro w0 hw0 KA KR HB0 HZ0 HDB;show Calls prog 52 #[.agg ↑D, .string ⟨#[100,114,111,112]⟩] w _;go_in;go_upto_region 1 with fail;refine ym2 ?_;clear hw0 p0 p1 p2;intro l0 c0 c1 c2 c3 c4 c5 c6 P0 P1 P2 hk1 hk2 k0 kn k1 w1 hw1 KA1 KR1 KQ1 HB1 HZ1;have E:Hd (vt D.dat q.pic=((D.P.pic,D.M.pic,(zS D.ps).take k),jM)):=Jh (by unfold vt;rw [HLEN.Z,Nat.add_sub_cancel];rfl);have L:IntKind.i64.wrap (k:Int)=(k:Int):=Yc _ om
 have C:k+1<=D.c:=by
  rcases HIN.Z.own.s.row with ⟨e,_⟩ | ⟨g,e,_,F,_,h2,_⟩
  rw [KRr.Z] at e;cases e;have:=HIN.Z.own.s.len;have:=KK.Z;omega
 have N:(k:Int)<=(D.c:Int):=om;have x:k<=D.c:=om;go_upto_region 13 with fail;rw [<-hw1];clear hw1 l0 c0 c1 c2 c3 c4 c5 c6 P0 P1 P2;obtain ⟨l0,c0,c1,c2,c3,c4,c5,c6⟩:=KA1.Z.c7;rw [KRr.Z,KK.Z] at c6;obtain ⟨g0,g1,g2,g3,g4,g5,g6⟩:=KA1.Z.f7;obtain ⟨r0,V,W,X,Y,x4,x5,x6⟩:=KR1.Z.c7;obtain ⟨f0,f1,f2,f3,f4,f5,f6⟩:=KR1.Z.f7;go_wp2_with fail;have f:=HIN.Z.own.below HB1.Z;have A:=f.s;rw [KRr.Z,KK.Z] at A;have J:=OwnV.take A k om
 have u: ∀j,j<k->pv (D.ps.take k) j=pv D.ps j:=fun j t=>by
  unfold pv;simp [List.getD,List.getElem?_take,t]
 have l: ∀b,OwnV.blocks ↑r (D.ps.take k) b->OwnV.blocks D.a D.ps b:=fun b hb=>by
  rcases hb with hb | ⟨j,t,hb⟩
  exact .inl (by rw [KRr.Z];exact hb);rw [Yj] at t;rw [u j om] at hb;exact .inr ⟨j,om,hb⟩
 have U:yG w1 B ⟨D.P,D.M,some ↑r,k,D.c,D.ps.take k⟩:=⟨f.p,f.m,J,f.pm,fun b hb=>f.ps b (l b hb),fun b hb=>f.ms b (l b hb)⟩
 have z: ∀b,(⟨D.P,D.M,some ↑r,k,D.c,D.ps.take k⟩:Dsk).blocks b->b<w.heap.size:=fun b hb=>by
  rcases hb with hb | hb | hb
  exact HDB.Z b (.inl hb);exact HDB.Z b (.inr (.inl hb));exact HDB.Z b (.inr (.inr (l b hb)))
 have T:=HIN.Z.own.s.len;have O:=KK.Z;refine bodyPost_ret (v:= .tuple #[(⟨D.P,D.M,some ↑r,k,D.c,D.ps.take k⟩:Dsk).val, .string ⟨#[111,107]⟩]) (by simp [results,results52,go_sem,Dsk.val,V,W,X,Y,x4,x5,x6]) rfl ⟨⟨D.P,D.M,some ↑r,k,D.c,D.ps.take k⟩,by rw [E.Z];rfl,?_,?_,⟨HIN.Z.small.p,HIN.Z.small.m,by show k<=1048576;omega,fun j t=>?_⟩,?_⟩;have H:=(KeepT.set (S:=fun i=>i=w.heap.size) (KeepT.refl _ w1) (a:=↑(w,6)) rfl (.slice ↑r k D.c))
 with_reducible refine yG.set7 (yG.keepZ U H ?_) ?_ _ _ _ _ _ _ _
 intro b e hb;have:=z b hb;omega;intro b hb e;have:=z b hb;omega;rw [E.Z];show (D.P.pic,D.M.pic,zS (D.ps.take k))=_;simp [zS,List.map_take]
 have y:j<k:=by
  have I:j<(D.ps.take k).length:=t;rw [Yj] at I;omega
 show (pv (D.ps.take k) j).n<=1048576;rw [u j y];exact HIN.Z.small.s j om;exact KeepT.zE (zc (HB1.Z.setCell (show w.heap.size<=(Addr.mk w 6 none).block from nI) _) om _ _ _ _ _ _ _)
set_option maxRecDepth 100000 in
theorem zLD (D:Dsk) (k r:Nat) (w:World) (B:Nat) (hin:ModIn w B D) (hk:D.n=k+1) (hr:D.a=some ↑r):
 Calls prog 52 #[D.val, .string ⟨#[115,104,111,119]⟩] w (ModOut w B D ((ur) D.dat (pv D.ps k).pic)):=by
 refine ym9 ?_;clear hin hk hr;intro HIN KK KRr hrb HBD HLEN hn4 q HQK p0 p1 p2 HQM LN RD SM;refine ym1 ?_;intro w0 hw0 KA KR HB0 HZ0 HDB;show Calls prog 52 #[.agg ↑D, .string ⟨#[115,104,111,119]⟩] w _;go_in;go_upto_region 1 with fail;refine ym2 ?_;clear hw0 p0 p1 p2;intro l0 c0 c1 c2 c3 c4 c5 c6 P0 P1 P2 hk1 hk2 k0 kn k1 w1 hw1 KA1 KR1 KQ1 HB1 HZ1;have E:Hd (ur D.dat q.pic=(D.dat,Kh (kD q.W q.H q.ink))):=Jh (zOR _ _);obtain ⟨t,ht⟩: ∃t,kD q.W q.H q.ink=t:=⟨_,rfl⟩
 have HTB:Hd (t.length<=1048576):=Jh (by rw [<-ht];exact HBD.Z.text q.pic HQM.Z);go_upto_region 15 with fail;rw [<-hw1];clear hw1 l0 c0 c1 c2 c3 c4 c5 c6 P0 P1 P2;obtain ⟨k0',q0,q1,q2⟩:=KQ1.Z.c3;go_wp2_with fail;refine (zFj q.W q.H q.a q.n q.c q.ink _ LN.Z (RD.Z.below HB1.Z) (oh SM)).mono ?_;rintro e w2 ⟨rfl,hb⟩;rw [ht] at E⊢;have HB2:=Jh (zI HB1.Z hb);have KA2:=Jh (KA1.Z.zA hb);have KR2:=Jh (KR1.Z.zA hb);clear hb k0' q0 q1 q2 ht;obtain ⟨s2,hs2⟩: ∃s2:ByteArray,(⟨t.toArray⟩:ByteArray)=s2:=⟨_,rfl⟩
 have HST:Hd (s2.data.toList=t):=Jh (by rw [<-hs2]);obtain ⟨L,hL⟩: ∃L,s2.size=L:=⟨_,rfl⟩
 have HLT:Hd (L=t.length):=Jh (by rw [<-hL,<-HST.Z];simp);have hLb:L<=1048576:=by rw [HLT.Z];exact HTB.Z
 rw [hs2];clear hs2;obtain ⟨ts,hts⟩: ∃ts,t.map uE=ts:=⟨_,rfl⟩
 have HTS:=Jh hts;have HTL:Hd (ts.length=t.length):=Jh (by rw [<-hts,List.length_map]);clear hts;go_wp2_with fail
 go_loopw [9,10] (fun o i wr=> ∃j:Nat,j<=L/\i=↑j/\o= .string ⟨(ts.take j).toArray⟩/\(j:Int)<=max 0 ((L:Int) - 1)/\wr=w2) (fun _ i _=>L - (intOf i).toNat)
 case atStart=>exact ⟨0,nZ,rfl,rfl,om,rfl⟩
 case round=>
  obtain ⟨j,hj,rfl,rfl,hjm,rfl⟩:=hrel;have hwr:IntKind.i64.wrap ((L:Int) - 1)=(L:Int) - 1:=Yc _ om;have hln:(ts.take j).length<=1048576:=by rw [Yj];have:=HTB.Z;have:=HTL.Z;omega
  by_cases hlt:(j:Int)<(L:Int) - 1
  . have hlt2:j<s2.size:=om
    have hlt3:j<t.length:=by rw [<-HLT.Z];omega
    obtain ⟨b,hsb⟩: ∃b,s2[j]'hlt2=b:=⟨_,rfl⟩
    have HG:Hd (t[j]? =some b):=Jh (by
     rw [<-hsb,<-HST.Z]
     exact Ya (by rw [HST.Z];exact hlt3))
    have HG2:Hd (ts[j]? =some (uE b)):=Jh (by rw [<-HTS.Z,List.getElem?_map,HG.Z];rfl);have HTK:=Jh (uY HG2.Z);have HT0:=Jh (uY HG.Z)
    have HX:Hd (s2.extract j (j+1)=⟨#[b]⟩):=Jh (by
     apply ByteArray.ext;apply Array.toList_inj.1;rw [YO,HST.Z,HT0.Z,List.drop_append_of_le_length (by rw [Yj];omega),List.drop_eq_nil_of_le (by rw [Yj];omega)]
     rfl)
    by_cases h10:b.toNat=10
    . have e10:(((b.toNat:Nat):Int)==10)=true:=by rw [h10];rfl
      have HSB:Hd (uE b=47):=Jh (by unfold uE;rw [if_pos h10]);go_wp2_with fail;go_roundw
      case rel=>exact ⟨j+1,om,by go_num,by rw [HTK.Z,HSB.Z];exact congrArg Value.string (Xi _ [47]),om,trivial⟩
      case measure=>exact Jm
    . have e10:(((b.toNat:Nat):Int)==10)=false:=sO
      have HSB:Hd (uE b=b):=Jh (by unfold uE;rw [if_neg h10]);go_wp2_with fail;go_roundw
      case rel=>exact ⟨j+1,om,by go_num,by rw [HTK.Z,HSB.Z,HX.Z];exact congrArg Value.string (Xi _ [b]),om,trivial⟩
      case measure=>exact Jm
  . have HSH:Hd (ts.take j=Kh t):=Jh (by
     unfold Kh;rw [List.map_take,HTS.Z];have e:=HLT.Z;have e2:=HTL.Z;by_cases h0:ts.length=0
     . rw [List.eq_nil_of_length_eq_zero h0];simp
     . congr 1;omega)
    obtain ⟨l0,c0,c1,c2,c3,c4,c5,c6⟩:=KA2.Z.c7;rw [KRr.Z,KK.Z] at c6;obtain ⟨r0,x0,x1,x2,x3,x4,x5,x6⟩:=KR2.Z.c7;obtain ⟨f0,f1,f2,f3,f4,f5,f6⟩:=KR2.Z.f7;rw [HSH.Z] at hln⊢;have HBv:=HB2.Z;go_wp2_with fail;refine bodyPost_ret (v:= .tuple #[D.val, .string ⟨(Kh t).toArray⟩]) (by simp [results,results52,go_sem,Dsk.val,KRr.Z,KK.Z,x0,x1,x2,x3,x4,x5,x6]) rfl ⟨D,by rw [E.Z],?_,by rw [E.Z],HIN.Z.small,?_⟩
    . exact zGM
    . exact KeepT.zE (zc HBv om _ _ _ _ _ _ _)
set_option maxRecDepth 100000 in
theorem zKz (D:Dsk) (k r:Nat) (w:World) (B:Nat) (hin:ModIn w B D) (hk:D.n=k+1) (hr:D.a=some ↑r):
 Calls prog 52 #[D.val, .string ⟨#[103,114,111,119]⟩] w (ModOut w B D ((yp (kZ 1)) D.dat (pv D.ps k).pic)):=by
 refine ym9 ?_;clear hin hk hr;intro HIN KK KRr hrb HBD HLEN hn4 q HQK p0 p1 p2 HQM LN RD SM;refine ym1 ?_;intro w0 hw0 KA KR HB0 HZ0 HDB;show Calls prog 52 #[.agg ↑D, .string ⟨#[103,114,111,119]⟩] w _;go_in;go_upto_region 1 with fail;refine ym2 ?_;clear hw0 p0 p1 p2;intro l0 c0 c1 c2 c3 c4 c5 c6 P0 P1 P2 hk1 hk2 k0 kn k1 w1 hw1 KA1 KR1 KQ1 HB1 HZ1;have E:Hd (yp (kZ 1) D.dat q.pic=((D.P.pic,D.M.pic,(zS D.ps).set k (kZ 1 q.pic)),jM)):=Jh (by unfold yp;rw [HLEN.Z,Nat.add_sub_cancel];rfl);have l:Hd (∀v,BelowL w1 v->Calls prog 90 #[.agg ↑q] v (jl v (kZ 1 q.pic))):=Jh (fun v hv=>zCR q.W q.H q.a q.n q.c q.ink v LN.Z ((RD.Z.below HB1.Z).below hv.Z) (oh SM));obtain ⟨f,hf⟩: ∃f,kZ 1 q.pic=f:=⟨_,rfl⟩
 rw [hf] at E l;clear hf;go_upto_region 7 with fail;rw [<-hw1];clear hw1 l0 c0 c1 c2 c3 c4 c5 c6 P0 P1 P2;refine ym7 ?_;intro l0 k0' MK hHeld hb0 K hK
 ((refine (l.Z _ hb0).mono ?_);rintro e v1 ⟨a1,n1,k1',rfl,ho,hn1,g⟩)
 have hb1:=BelowL.call hb0 g;go_wp2_with fail;refine Ju ?_;clear hK K hHeld;intro hHeld;refine zOr ?_;intro hO1 hRow hHv P0 P1 P2 g0 g1 g2;(try go_simp);clear P0 P1 P2 g0 g1 g2;refine zOo ?_;intro w3 hw3 hk3 KA3 KR3 hrD HRD HKF hkl hkn hz1 hfr hdb np hnp hov hset hset2
 have hA2: ∀b,OwnV.blocks ↑r (D.ps.set k np) b->OwnV.blocks D.a D.ps b\/w1.heap.size<=b:=fun b hb=>by
  rcases hb with hb | ⟨j,hj,hb⟩
  exact .inl (.inl (by rw [KRr.Z];exact hb));by_cases e:k=j
  subst e;rw [xw hkl,hnp] at hb;exact .inr (hfr b hb);rw [kz e] at hb;exact .inl (.inr ⟨j,by simpa using hj,hb⟩)
 refine zOp ?_;intro gP gM ho3 HE HNN;clear hw3 hk3 hset hset2 hov hnp hRow hO1 hHv ho hfr hA2 g hb1;obtain ⟨l0,c0,c1,c2,c3,c4,c5,c6⟩:=KA3.Z.c7;obtain ⟨U,t,x,y,z,A,C,F⟩:=KR3.Z.c7;obtain ⟨I,J,L,f3,N,O,T⟩:=KR3.Z.f7;go_wp2_with fail;refine bodyPost_ret (v:= .tuple #[(⟨D.P,D.M,some ↑r,D.n,D.c,D.ps.set k np⟩:Dsk).val, .string ⟨#[111,107]⟩]) (by simp [results,results52,go_sem,Dsk.val,KRr.Z,t,x,y,z,A,C,F]) rfl ⟨⟨D.P,D.M,some ↑r,D.n,D.c,D.ps.set k np⟩,by rw [E.Z];rfl,?_,?_,⟨HIN.Z.small.p,HIN.Z.small.m,HIN.Z.small.n,fun j hj=>?_⟩,?_⟩;exact zPD;exact zPC;by_cases e:k=j
 subst e;show (pv (D.ps.set k np) k).n<=1048576;rw [xw hkl];exact HNN.Z.1;exact zPE;exact zPA
set_option maxRecDepth 100000 in
theorem zGk (D:Dsk) (k r:Nat) (w:World) (B:Nat) (hin:ModIn w B D) (hk:D.n=k+1) (hr:D.a=some ↑r):
 Calls prog 52 #[D.val, .string ⟨#[115,104,114,105,110,107]⟩] w (ModOut w B D ((yp (kZ 5)) D.dat (pv D.ps k).pic)):=by
 refine ym9 ?_;clear hin hk hr;intro HIN KK KRr hrb HBD HLEN hn4 q HQK p0 p1 p2 HQM LN RD SM;refine ym1 ?_;intro w0 hw0 KA KR HB0 HZ0 HDB;show Calls prog 52 #[.agg ↑D, .string ⟨#[115,104,114,105,110,107]⟩] w _;go_in;go_upto_region 1 with fail;refine ym2 ?_;clear hw0 p0 p1 p2;intro l0 c0 c1 c2 c3 c4 c5 c6 P0 P1 P2 hk1 hk2 k0 kn k1 w1 hw1 KA1 KR1 KQ1 HB1 HZ1;have E:Hd (yp (kZ 5) D.dat q.pic=((D.P.pic,D.M.pic,(zS D.ps).set k (kZ 5 q.pic)),jM)):=Jh (by unfold yp;rw [HLEN.Z,Nat.add_sub_cancel];rfl);have l:Hd (∀v,BelowL w1 v->Calls prog 91 #[.agg ↑q] v (jl v (kZ 5 q.pic))):=Jh (fun v hv=>zAP q.W q.H q.a q.n q.c q.ink v LN.Z ((RD.Z.below HB1.Z).below hv.Z) (oh SM));obtain ⟨f,hf⟩: ∃f,kZ 5 q.pic=f:=⟨_,rfl⟩
 rw [hf] at E l;clear hf;go_upto_region 9 with fail;rw [<-hw1];clear hw1 l0 c0 c1 c2 c3 c4 c5 c6 P0 P1 P2;refine ym7 ?_;intro l0 k0' MK hHeld hb0 K hK
 ((refine (l.Z _ hb0).mono ?_);rintro e v1 ⟨a1,n1,k1',rfl,ho,hn1,g⟩)
 have hb1:=BelowL.call hb0 g;go_wp2_with fail;refine Ju ?_;clear hK K hHeld;intro hHeld;refine zOr ?_;intro hO1 hRow hHv P0 P1 P2 g0 g1 g2;(try go_simp);clear P0 P1 P2 g0 g1 g2;refine zOo ?_;intro w3 hw3 hk3 KA3 KR3 hrD HRD HKF hkl hkn hz1 hfr hdb np hnp hov hset hset2
 have hA2: ∀b,OwnV.blocks ↑r (D.ps.set k np) b->OwnV.blocks D.a D.ps b\/w1.heap.size<=b:=fun b hb=>by
  rcases hb with hb | ⟨j,hj,hb⟩
  exact .inl (.inl (by rw [KRr.Z];exact hb));by_cases e:k=j
  subst e;rw [xw hkl,hnp] at hb;exact .inr (hfr b hb);rw [kz e] at hb;exact .inl (.inr ⟨j,by simpa using hj,hb⟩)
 refine zOp ?_;intro gP gM ho3 HE HNN;clear hw3 hk3 hset hset2 hov hnp hRow hO1 hHv ho hfr hA2 g hb1;obtain ⟨l0,c0,c1,c2,c3,c4,c5,c6⟩:=KA3.Z.c7;obtain ⟨U,t,x,y,z,A,C,F⟩:=KR3.Z.c7;obtain ⟨I,J,L,f3,N,O,T⟩:=KR3.Z.f7;go_wp2_with fail;refine bodyPost_ret (v:= .tuple #[(⟨D.P,D.M,some ↑r,D.n,D.c,D.ps.set k np⟩:Dsk).val, .string ⟨#[111,107]⟩]) (by simp [results,results52,go_sem,Dsk.val,KRr.Z,t,x,y,z,A,C,F]) rfl ⟨⟨D.P,D.M,some ↑r,D.n,D.c,D.ps.set k np⟩,by rw [E.Z];rfl,?_,?_,⟨HIN.Z.small.p,HIN.Z.small.m,HIN.Z.small.n,fun j hj=>?_⟩,?_⟩;exact zPD;exact zPC;by_cases e:k=j
 subst e;show (pv (D.ps.set k np) k).n<=1048576;rw [xw hkl];exact HNN.Z.1;exact zPE;exact zPA
set_option maxRecDepth 100000 in
theorem zGj (D:Dsk) (k r:Nat) (w:World) (B:Nat) (hin:ModIn w B D) (hk:D.n=k+1) (hr:D.a=some ↑r):
 Calls prog 52 #[D.val, .string ⟨#[109,105,114,114,111,114]⟩] w (ModOut w B D ((yp vw) D.dat (pv D.ps k).pic)):=by
 refine ym9 ?_;clear hin hk hr;intro HIN KK KRr hrb HBD HLEN hn4 q HQK p0 p1 p2 HQM LN RD SM;refine ym1 ?_;intro w0 hw0 KA KR HB0 HZ0 HDB;show Calls prog 52 #[.agg ↑D, .string ⟨#[109,105,114,114,111,114]⟩] w _;go_in;go_upto_region 1 with fail;refine ym2 ?_;clear hw0 p0 p1 p2;intro l0 c0 c1 c2 c3 c4 c5 c6 P0 P1 P2 hk1 hk2 k0 kn k1 w1 hw1 KA1 KR1 KQ1 HB1 HZ1;have E:Hd (yp (vw) D.dat q.pic=((D.P.pic,D.M.pic,(zS D.ps).set k (vw q.pic)),jM)):=Jh (by unfold yp;rw [HLEN.Z,Nat.add_sub_cancel];rfl);have l:Hd (∀v,BelowL w1 v->Calls prog 92 #[.agg ↑q] v (jl v (vw q.pic))):=Jh (fun v hv=>UH q.W q.H q.a q.n q.c q.ink v LN.Z ((RD.Z.below HB1.Z).below hv.Z) (oh SM));obtain ⟨f,hf⟩: ∃f,vw q.pic=f:=⟨_,rfl⟩
 rw [hf] at E l;clear hf;go_upto_region 11 with fail;rw [<-hw1];clear hw1 l0 c0 c1 c2 c3 c4 c5 c6 P0 P1 P2;refine ym7 ?_;intro l0 k0' MK hHeld hb0 K hK
 ((refine (l.Z _ hb0).mono ?_);rintro e v1 ⟨a1,n1,k1',rfl,ho,hn1,g⟩)
 have hb1:=BelowL.call hb0 g;go_wp2_with fail;refine Ju ?_;clear hK K hHeld;intro hHeld;refine zOr ?_;intro hO1 hRow hHv P0 P1 P2 g0 g1 g2;(try go_simp);clear P0 P1 P2 g0 g1 g2;refine zOo ?_;intro w3 hw3 hk3 KA3 KR3 hrD HRD HKF hkl hkn hz1 hfr hdb np hnp hov hset hset2
 have hA2: ∀b,OwnV.blocks ↑r (D.ps.set k np) b->OwnV.blocks D.a D.ps b\/w1.heap.size<=b:=fun b hb=>by
  rcases hb with hb | ⟨j,hj,hb⟩
  exact .inl (.inl (by rw [KRr.Z];exact hb));by_cases e:k=j
  subst e;rw [xw hkl,hnp] at hb;exact .inr (hfr b hb);rw [kz e] at hb;exact .inl (.inr ⟨j,by simpa using hj,hb⟩)
 refine zOp ?_;intro gP gM ho3 HE HNN;clear hw3 hk3 hset hset2 hov hnp hRow hO1 hHv ho hfr hA2 g hb1;obtain ⟨l0,c0,c1,c2,c3,c4,c5,c6⟩:=KA3.Z.c7;obtain ⟨U,t,x,y,z,A,C,F⟩:=KR3.Z.c7;obtain ⟨I,J,L,f3,N,O,T⟩:=KR3.Z.f7;go_wp2_with fail;refine bodyPost_ret (v:= .tuple #[(⟨D.P,D.M,some ↑r,D.n,D.c,D.ps.set k np⟩:Dsk).val, .string ⟨#[111,107]⟩]) (by simp [results,results52,go_sem,Dsk.val,KRr.Z,t,x,y,z,A,C,F]) rfl ⟨⟨D.P,D.M,some ↑r,D.n,D.c,D.ps.set k np⟩,by rw [E.Z];rfl,?_,?_,⟨HIN.Z.small.p,HIN.Z.small.m,HIN.Z.small.n,fun j hj=>?_⟩,?_⟩;exact zPD;exact zPC;by_cases e:k=j
 subst e;show (pv (D.ps.set k np) k).n<=1048576;rw [xw hkl];exact HNN.Z.1;exact zPE;exact zPA
end Go.Proofs.YtlenfgdjdianiaaGreatDoor
