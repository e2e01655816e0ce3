/- Facts on which this claim rests, 4. -/
import Derived.Deep.AppendLies
import Derived.Deep.DrawnRows
import Derived.Deep.RegionHeld3
import Derived.Deep.RegionLaw
import Derived.Test.YtlenfgdjdianiaaGreatDoorF3
set_option linter.all false
set_option maxHeartbeats 6400000
namespace Go.Proofs.YtlenfgdjdianiaaGreatDoor
section
open Go Tq Go.Proofs.Tryz
variable {a : Act} {fuel i id : Nat} {listed : Array Bool} {o oi : Oper} {rs : List Nat} {v : Value} {w : World}
section
variable {P : Program} {ops : Array Oper} {Q : Exit → Act → World → Prop} {md : Region.Mode} {S : World → Prop} {n : Nat}
def kM (P:Program) (md:Region.Mode) (ops:Array Oper) (Q:Exit->Act->World->Prop) (S:World->Prop) (n:Nat):Nat->Array Bool->Act->World->Prop
 | 0,listed,a,w=>Region.ready md ops listed=[]/\Q .normal a w
 | fuel+1,listed,a,w=>
  (Region.ready md ops listed=[]->Q .normal a w)/\
  ∀i ∈ Region.ready md ops listed,wpOp P ops Q i (fun a' w'=>(i<n->S w')/\kM P md ops Q S n fuel (listed.setIfInBounds i true) a' w') a w
theorem zBj: ∀(fuel:Nat) (listed:Array Bool) (a:Act) (w:World),kM P md ops Q S n fuel listed a w->wpAny P md ops Q fuel listed a w
 | 0,_,_,_,h=>h
 | fuel+1,_,_,_,h=>⟨h.1,fun i hi=>wpOp_mono (fun c w' e=>zBj fuel _ c w' e.2) (h.2 i hi)⟩
theorem zGG (hi:ops[i]? =some oi) (t: ∀(j:Nat) (o:Oper) C b,ops[j]? =some o->o.op≠ .select C b)
 (Y: ∀c a w,Q (.panic c) (a.put oi.dst v) w->Q (.panic c) a w) (T:i<n) (hs:Region.sinkB md ops n=true) (hc:Region.chainB md ops n=true) (hn:n<ops.size):
 ∀(fuel:Nat) (listed:Array Bool) (a:Act) (w:World),
  (∀j z,ops[j]? =some z->j≠i->listed.getD j true=false->(∀e ∈ z.after,Region.binds md e=true->e.on≠i)->oi.apart ops z=true)->HeadInv md ops n listed->
  i ∈ Region.ready md ops listed->YieldsIf P ops S oi v a->S w->
  kM P md ops Q S n fuel (listed.setIfInBounds i true) (a.put oi.dst v) w->kM P md ops Q S n (fuel+1) listed a w:=by
 intro fuel
 induction fuel with
 | zero=>
  intro listed a w _ _ hr N J H;refine ⟨fun h=>(by rw [h] at hr;cases hr),fun j A=>?_⟩;by_cases f:j=i
  subst f;exact N.wpOp hi J ⟨fun _=>J,H⟩;have:=ready_mono A f;rw [H.1] at this;cases this
 | succ fuel ih=>
  intro listed a w l inv hr N J H;refine ⟨fun h=>(by rw [h] at hr;cases hr),fun j A=>?_⟩;by_cases f:j=i
  subst f;exact N.wpOp hi J ⟨fun _=>J,H⟩;have h1:=H.2 j (ready_mono A f);obtain ⟨q,z,u,M⟩:=mem_ready.1 A;have s:=(mem_ready.1 hr).1
  have L:j<n:=by
   by_cases h:j<n
   exact h;exact absurd A (tail_waits hs hc hn inv (n - i) i rfl T s j om)
  have I: ∀e ∈ z.after,Region.binds md e=true->e.on≠i:=fun e he hb U=>by
   have h1:=M e he hb;rw [U,getD_both s] at h1;cases h1
  have h2:=wpOp_putIf u (l j z u f q I) (fun C b=>t i oi C b hi) (fun C b=>t j z C b u) Y N h1
  have m: ∀k ok,ops[k]? =some ok->k≠i->(listed.setIfInBounds j true).getD k true=false->
   (∀e ∈ ok.after,Region.binds md e=true->e.on≠i)->oi.apart ops ok=true:=fun k ok hk V F W=>by
   refine l k ok hk V ?_ W;by_cases D:j=k
   subst D;exact q;rw [getD_set_ne true D] at F;exact F
  refine wpOp_mono (fun X w' h3=>⟨h3.2.1,ih (listed.setIfInBounds j true) X w' m (inv.set A L) (ready_mono hr (Ne.symm f)) h3.1 (h3.2.1 L) ?_⟩) h2;rw [Array.setIfInBounds_comm _ _ f];exact h3.2.2
def zEE (md:Region.Mode) (ops:Array Oper) (n:Nat) (listed:Array Bool):Bool:=
 decide (listed.size=ops.size) &&
 (List.range ops.size).all (fun j=>!listed.getD j false || (match ops[j]? with | some oj=>oj.after.all (fun e=>!Region.binds md e || listed.getD e.on false) | none=>true)) &&
 (List.range ops.size).all (fun t=>decide (t<n) || !listed.getD t true)
theorem zIb (h:zEE md ops n listed=true):HeadInv md ops n listed:=by
 unfold zEE at h;simp only [Bool.and_eq_true,decide_eq_true_eq,Yp,List.mem_range,Bool.or_eq_true,Bool.not_eq_true'] at h;obtain ⟨⟨h1,h2⟩,h3⟩:=h;refine ⟨h1,fun j m f hl e he hb=>?_,fun t l c=>?_⟩;have:=h2 j (Array.getElem?_eq_some_iff.1 f).1;rw [hl,f] at this;rcases this with h | h
 cases h;simp only at h;have k:=Array.all_eq_true_iff_forall_mem.1 h e he;rw [hb] at k;simpa using k;rcases h3 t c with h | h
 omega;exact h
theorem zHY (hi:ops[i]? =some oi)
 (l:Region.noSelect ops=true) (hf:Region.free md ops listed i=true) (hr:(Region.ready md ops listed).contains i=true)
 (e:(decide (i<n) && Region.sinkB md ops n && Region.chainB md ops n && decide (n<ops.size) && zEE md ops n listed)=true)
 (k: ∀c a w,Q (.panic c) (a.put oi.dst v) w->Q (.panic c) a w) (f:YieldsIf P ops S oi v a) (q:S w)
 (h:kM P md ops Q S n fuel (listed.setIfInBounds i true) (a.put oi.dst v) w):kM P md ops Q S n (fuel+1) listed a w:=by
 simp only [Bool.and_eq_true,decide_eq_true_eq] at e;obtain ⟨⟨⟨⟨m,t2⟩,t3⟩,t4⟩,t5⟩:=e;exact zGG hi (Region.noSelect_spec l) k m t2 t3 t4 fuel listed a w (Region.free_spec hi hf) (zIb t5) (by simpa using hr) f q h
theorem Js (hr:Region.ready md ops listed=rs) (c:rs≠ [])
 (h: ∀i ∈ rs,wpOp P ops Q i (fun e w'=>(i<n->S w')/\kM P md ops Q S n fuel (listed.setIfInBounds i true) e w') a w):kM P md ops Q S n (fuel+1) listed a w:=
 ⟨fun f=>absurd (hr ▸ f) c,hr ▸ h⟩
theorem zx (hr:Region.ready md ops listed=[]) (h:Q .normal a w): ∀fuel,kM P md ops Q S n fuel listed a w
 | 0=>⟨hr,h⟩
 | _+1=>⟨fun _=>h,by rw [hr];simp⟩
theorem zJi (hr:Region.ready md ops listed=[i]) (f:ops[i]? =some o)
 (h: ∀c:Act->World->Prop,Shut (∀a w,(i<n->S w)->((i<n->S w)->kM P md ops Q S n fuel (listed.setIfInBounds i true) a w)->c a w)->if Region.wanted o (yielded ops a.tmps)=true then Oper.wp P o a w c Q else c (a.put o.dst undef) w):
 kM P md ops Q S n (fuel+1) listed a w:=
 Js hr sI (fun j k=>by
  obtain rfl:j=i:=by simpa using k
  exact wpOp_step f (fun c hK=>h c (fun a w e l=>hK a w ⟨e,l e⟩)))
theorem zh (n:Nat) (S:World->Prop) (hm:P.follows .mixedOrders=true) (c:S w.drew)
 (h:S w.drew->kM P .any ops Q S n ops.size (Array.replicate ops.size false) a w.drew):(Code.region id ops true).wp P Q a w:=
 wp_region_any hm (zBj _ _ _ _ (h c))
end
end
section
open Go Go.RowKit Tq Go.Proofs.Tryz
variable {G R : Prop}
structure Kp (p:Prop):Prop where
 Z:p
def Nth (i:Nat):Prop:=i=i
section
variable {P : Program} {ops : Array Oper} {Q : Exit → Act → World → Prop} {md : Region.Mode} {S : World → Prop} {n i : Nat} {oi : Oper} {v : Value} {fuel : Nat} {listed : Array Bool} {a : Act} {w : World}
theorem zEH (_:Nth i) (hi:ops[i]? =some oi) (k:Region.noSelect ops=true) (hf:Region.free md ops listed i=true) (hr:(Region.ready md ops listed).contains i=true)
 (f: ∀c a w,Q (.panic c) (a.put oi.dst v) w->Q (.panic c) a w) (e:YieldsIf P ops S oi v a) (l:S w)
 (h:wpAnyH P md ops Q S fuel (listed.setIfInBounds i true) (a.put oi.dst v) w):wpAnyH P md ops Q S (fuel+1) listed a w:=wpAnyH_take hi k hf hr f e l h
theorem zPJ (_:Nth i) (hi:ops[i]? =some oi) (l:Region.noSelect ops=true) (hf:Region.free md ops listed i=true) (hr:(Region.ready md ops listed).contains i=true)
 (f:(decide (i<n) && Region.sinkB md ops n && Region.chainB md ops n && decide (n<ops.size) && zEE md ops n listed)=true)
 (k: ∀c a w,Q (.panic c) (a.put oi.dst v) w->Q (.panic c) a w) (e:YieldsIf P ops S oi v a) (m:S w)
 (h:kM P md ops Q S n fuel (listed.setIfInBounds i true) (a.put oi.dst v) w):kM P md ops Q S n (fuel+1) listed a w:=zHY hi l hf hr f k e m h
end
theorem zO (i:Nat) (k:R) (h:Nth i->Kp R->G:=by
 intro hi hk;(refine' zEH hi (v:=?_) rfl zK zK zK (fun _ _ _ h=>h) (Or.inl ⟨by rfl,?_⟩) aS ?_;rotate_left;(· (intro w hSw;(try dsimp only at hSw);go_simp;try with_reducible rfl));(try simp only [Act.put,List.setIfInBounds_toArray,List.set_cons_zero,List.set_cons_succ]));exact hk.Z):G:=h rfl ⟨k⟩
theorem hTs (i:Nat) (k:R) (h:Nth i->Kp R->G:=by
 intro hi hk;(refine' zEH hi (v:=?_) rfl zK zK zK (fun _ _ _ h=>h) (Or.inl ⟨by rfl,?_⟩) aS ?_;rotate_left;(· (intro w hSw;(try dsimp only at hSw);go_simp;try with_reducible rfl));(try simp only [Act.put,List.setIfInBounds_toArray,List.set_cons_zero,List.set_cons_succ]));(try simp only [List.getElem_toArray,List.getElem_cons_succ,List.getElem_cons_zero,Act.put,List.setIfInBounds_toArray,List.set_cons_zero,List.set_cons_succ]);exact hk.Z):G:=h rfl ⟨k⟩
theorem xZ (i:Nat) (k:R) (h:Nth i->Kp R->G:=by
 intro hi hk;(refine' zEH hi (v:=undef) rfl zK zK zK (fun _ _ _ h=>h) (Or.inr ⟨by rfl,rfl⟩) aS ?_;(try simp only [Act.put,List.setIfInBounds_toArray,List.set_cons_zero,List.set_cons_succ]));exact hk.Z):G:=h rfl ⟨k⟩
theorem hSs (i:Nat) (k:R) (h:Nth i->Kp R->G:=by
 intro hi hk;(refine' zEH hi (v:=undef) rfl zK zK zK (fun _ _ _ h=>h) (Or.inr ⟨by rfl,rfl⟩) aS ?_;(try simp only [Act.put,List.setIfInBounds_toArray,List.set_cons_zero,List.set_cons_succ]));(try simp only [List.getElem_toArray,List.getElem_cons_succ,List.getElem_cons_zero,Act.put,List.setIfInBounds_toArray,List.set_cons_zero,List.set_cons_succ]);exact hk.Z):G:=h rfl ⟨k⟩
theorem zM (i:Nat) (k:R) (h:Nth i->Kp R->G:=by
 intro hi hk;(refine' zPJ hi (v:=?_) rfl zK zK zK zK (fun _ _ _ h=>h) (Or.inl ⟨by rfl,?_⟩) aS ?_;rotate_left;(· (intro w hSw;(try dsimp only at hSw);go_simp;try with_reducible rfl));(try simp only [Act.put,List.setIfInBounds_toArray,List.set_cons_zero,List.set_cons_succ]));exact hk.Z):G:=h rfl ⟨k⟩
theorem tTs (i:Nat) (k:R) (h:Nth i->Kp R->G:=by
 intro hi hk;(refine' zPJ hi (v:=?_) rfl zK zK zK zK (fun _ _ _ h=>h) (Or.inl ⟨by rfl,?_⟩) aS ?_;rotate_left;(· (intro w hSw;(try dsimp only at hSw);go_simp;try with_reducible rfl));(try simp only [Act.put,List.setIfInBounds_toArray,List.set_cons_zero,List.set_cons_succ]));(try simp only [List.getElem_toArray,List.getElem_cons_succ,List.getElem_cons_zero,Act.put,List.setIfInBounds_toArray,List.set_cons_zero,List.set_cons_succ]);exact hk.Z):G:=h rfl ⟨k⟩
theorem zv (k:R) (h:Kp R->G:=by
 intro hk;(try simp only [List.getElem_toArray,List.getElem_cons_succ,List.getElem_cons_zero,Act.put,List.setIfInBounds_toArray,List.set_cons_zero,List.set_cons_succ]);exact hk.Z):G:=h ⟨k⟩
section
variable {P : Program} {ops : Array Oper} {Q : Exit → Act → World → Prop} {md : Region.Mode} {S : World → Prop} {n : Nat} {o : Oper} {fuel : Nat} {listed : Array Bool} {a : Act} {w : World}
theorem zy (i:Nat) (h: ∀K':Act->World->Prop,Shut (∀a w,S w->(S w->wpAnyH P md ops Q S fuel (listed.setIfInBounds i true) a w)->K' a w)->if Region.wanted o (yielded ops a.tmps)=true then Oper.wp P o a w K' Q else K' (a.put o.dst undef) w)
 (hr:Region.ready md ops listed=[i]:=by kernel_rfl) (ho:ops[i]? =some o:=by rfl):wpAnyH P md ops Q S (fuel+1) listed a w:=
 wpAnyH_ready hr sI (AllReadyH.cons ho h AllReadyH.nil)
theorem zW (i:Nat) (h: ∀K':Act->World->Prop,Shut (∀a w,(i<n->S w)->((i<n->S w)->kM P md ops Q S n fuel (listed.setIfInBounds i true) a w)->K' a w)->if Region.wanted o (yielded ops a.tmps)=true then Oper.wp P o a w K' Q else K' (a.put o.dst undef) w)
 (hr:Region.ready md ops listed=[i]:=by kernel_rfl) (ho:ops[i]? =some o:=by rfl):kM P md ops Q S n (fuel+1) listed a w:=zJi hr ho h
end
end
section
open Go.RowKit Tq Go.Proofs.Tryz
variable {B b g i j : Nat} {E : Prop} {K : Act → World → Prop} {O : Obj} {Q : Exit → Act → World → Prop} {a : Addr} {o : Oper} {ops : Array Oper} {row : Option Nat} {v w : World} {x y : Value}
attribute [local go_sem ↓] Go.wp_at_zero Go.wp_at_succ
theorem Vi (d:Int) (w:World):
 Calls prog 193 #[d] w fun e w'=>e= .returned (.bool (decide (-1000<=d/\d<=1000)))/\w=w':=by
 go_in
 go_wp2
 all_goals (go_ret;exact ⟨zX (by first | (simp [*];done) | (simp [*];omega) | (simp;intros;omega)),rfl⟩)
theorem qm (d:Int) (w:World) (h1:-1000<=d) (h2:d<=1000):
 Calls prog 193 #[d] w fun e w'=>e= .returned (.bool true)/\w=w':=
 (Vi d w).mono fun e w' ⟨he,hw⟩=>⟨by rw [he];exact zX (by simp [h1,h2]),hw⟩
theorem XP (d:Int) (w:World) (h: ¬(-1000<=d/\d<=1000)):
 Calls prog 193 #[d] w fun e w'=>e= .returned (.bool false)/\w=w':=
 (Vi d w).mono fun e w' ⟨he,hw⟩=>⟨by rw [he];exact zX (by simpa using h),hw⟩
theorem xJ (h:Below B w.drew v):Below B w v:=⟨h.os,h.tape,h.output,h.size,h.block⟩
theorem zY (h:v.cell? (b,j)=some y) (c:g≠b):(v.setCell (g,i) x).cell? (b,j)=some y:=by
 rw [<-h];exact World.cell?_of_block (Below.heap_setCell v _ x b sO)
theorem zw (h:v.cell? a=some y):(v.alloc O).cell? a=some y:=by
 rw [World.cell?_alloc_some _ _ _ (by rw [h];rfl),h]
theorem vC (w:World) (v:Value) (T:Nat):(w.alloc (.cells #[v] T)).cell? w=some v:=(Blk.new w T #[v]).cell 0
theorem yl (h:Below w w v):w.grownBy v row:=⟨h.os,h.tape,h.output,h.size,fun i hi _=>h.block i hi⟩
theorem Qm (W H:Int) (s:Option Addr) (n l:Nat) (xs:List Int) (dx dy:Int) (w:World) (hn:xs.length=n) (ha:Rd w s xs) (hl:n<=9223372036854775807):
 Calls prog 140 #[.agg #[W,H, .slice s n l],dx,dy] w (YK w (xb W H xs dx dy)):=by
 have z:=Jh hn;have N:=Jh ha;clear hn ha;by_cases hp:zq W H xs=true
 case neg=>
  have b0:zq W H xs=false:=by simpa using hp
  rw [qy (fun h=>hp h.1)];clear hp;go_in;go_wp2_with fail;refine (yn _ _ _ _ _ xs _ z.Z (by exact (N.Z.alloc _).alloc _) hl).mono ?_;rintro e w1 ⟨rfl,hb⟩;have q:=Jh (nV.trans (hb.mono sO));have m:=Jh (((Blk.new w 32 #[W,H, .slice s n l]).alloc _).zA hb)
  have c:Hd (Blk w1 (w.heap.size+1) 32 ↑Zp):=by
   have h:=(Blk.new (w.alloc (.cells #[W,H, .slice s n l] 32)) 32 ↑Zp).zA hb;exact Jh (by simpa using h)
  obtain ⟨l1,c0,c1,c2⟩:=m.Z.c3;obtain ⟨m1,A,d1,d2⟩:=c.Z.c3;obtain ⟨f0,f1,f2⟩:=c.Z.f3;clear hb;rw [b0];go_wp2_with fail
  exact bodyPost_ret (v:= .agg ↑Zp) (by simp [results,results140,go_sem,A,d1,d2]) rfl ⟨none,0,0,rfl,oN,om,
   ((q.Z.setCell sD _).setCell sD _).setCell sD _⟩
 by_cases hx:-1000<=dx/\dx<=1000
 case neg=>
  rw [qy (fun h=>hx ⟨h.2.1,h.2.2.1⟩)];have HX:=Jh hx;clear hx;go_in;go_wp2_with fail;refine (yn _ _ _ _ _ xs _ z.Z (by exact (N.Z.alloc _).alloc _) hl).mono ?_;rintro e w1 ⟨rfl,hb⟩;have q:=Jh (nV.trans (hb.mono sO));have m:=Jh (((Blk.new w 32 #[W,H, .slice s n l]).alloc _).zA hb)
  have c:Hd (Blk w1 (w.heap.size+1) 32 ↑Zp):=by
   have h:=(Blk.new (w.alloc (.cells #[W,H, .slice s n l] 32)) 32 ↑Zp).zA hb;exact Jh (by simpa using h)
  obtain ⟨l1,c0,c1,c2⟩:=m.Z.c3;obtain ⟨m1,A,d1,d2⟩:=c.Z.c3;obtain ⟨f0,f1,f2⟩:=c.Z.f3;clear hb;rw [hp];go_wp2_with fail;refine (XP _ _ HX.Z).mono ?_;rintro e w2 ⟨rfl,rfl⟩;go_wp2_with fail
  exact bodyPost_ret (v:= .agg ↑Zp) (by simp [results,results140,go_sem,A,d1,d2]) rfl ⟨none,0,0,rfl,oN,om,
   ((q.Z.setCell sD _).setCell sD _).setCell sD _⟩
 obtain ⟨C,D⟩:=hx;by_cases Y:-1000<=dy/\dy<=1000
 case neg=>
  rw [qy (fun h=>Y ⟨h.2.2.2.1,h.2.2.2.2⟩)];have HY:=Jh Y;clear Y;go_in;go_wp2_with fail;refine (yn _ _ _ _ _ xs _ z.Z (by exact (N.Z.alloc _).alloc _) hl).mono ?_;rintro e w1 ⟨rfl,hb⟩;have q:=Jh (nV.trans (hb.mono sO));have m:=Jh (((Blk.new w 32 #[W,H, .slice s n l]).alloc _).zA hb)
  have c:Hd (Blk w1 (w.heap.size+1) 32 ↑Zp):=by
   have h:=(Blk.new (w.alloc (.cells #[W,H, .slice s n l] 32)) 32 ↑Zp).zA hb;exact Jh (by simpa using h)
  obtain ⟨l1,c0,c1,c2⟩:=m.Z.c3;obtain ⟨m1,A,d1,d2⟩:=c.Z.c3;obtain ⟨f0,f1,f2⟩:=c.Z.f3;clear hb;rw [hp];go_wp2_with fail;refine (qm _ _ C D).mono ?_;rintro e w2 ⟨rfl,rfl⟩;go_wp2_with fail;refine (XP _ _ HY.Z).mono ?_;rintro e w2 ⟨rfl,rfl⟩;go_wp2_with fail
  exact bodyPost_ret (v:= .agg ↑Zp) (by simp [results,results140,go_sem,A,d1,d2]) rfl ⟨none,0,0,rfl,oN,om,
   ((q.Z.setCell sD _).setCell sD _).setCell sD _⟩
 obtain ⟨M,T⟩:=Y;rw [zBY z.Z hp C D M T];obtain ⟨I,hq,hi,hd⟩:=kI z.Z hp;obtain ⟨b1,b2,b3,b4,b5,b6⟩:=xA I;have HQ:=Jh hq;have HI:=Jh hi;have HD:=Jh hd;have HS:=Jh I;have d5:1<=n:=om;have c8:n<=256:=om;clear hq hi I hd;go_in;go_wp2_with fail;refine (yn _ _ _ _ _ xs _ z.Z (by exact (N.Z.alloc _).alloc _) hl).mono ?_;rintro e w1 ⟨rfl,hb⟩;have q:=Jh (nV.trans (hb.mono sO));have m:=Jh (((Blk.new w 32 #[W,H, .slice s n l]).alloc _).zA hb)
 have c:Hd (Blk w1 (w.heap.size+1) 32 ↑Zp):=by
  have h:=(Blk.new (w.alloc (.cells #[W,H, .slice s n l] 32)) 32 ↑Zp).zA hb;exact Jh (by simpa using h)
 obtain ⟨l1,c0,c1,c2⟩:=m.Z.c3;obtain ⟨m1,A,d1,d2⟩:=c.Z.c3;obtain ⟨f0,f1,f2⟩:=c.Z.f3;clear hb;rw [hp];go_wp2_with fail;refine (qm _ _ C D).mono ?_;rintro e b8 ⟨rfl,rfl⟩;go_wp2_with fail;refine (qm _ _ M T).mono ?_;rintro e b8 ⟨rfl,rfl⟩;go_wp2_with fail;refine (uf W H n _ HS.Z HQ.Z).mono ?_;rintro e w2 ⟨g,rfl,hg,t,hb⟩;have J:=Jh (q.Z.trans (hb.mono q.Z.size));have U:=Jh (m.Z.zA hb);have V:=Jh (c.Z.zA hb);have HO:=Jh t;have u:Hd (w1.heap.size<=g):=Jh hg;clear hb hg t c0 c1 c2 A d1 d2 f0 f1 f2;obtain ⟨l2,c0,c1,c2⟩:=U.Z.c3;go_wp2_with fail
 go_loopw [31] (fun i wr=> ∃k:Nat,k<=n/\i=↑k/\Own wr g n n (zn (gen n (kp W H xs dx dy)) (List.replicate n 0) k)/\(w2.alloc (.cells #[W,H, .slice ↑g n n] 32)).grownBy wr (some g)) (fun i _=>n - (intOf i).toNat)
 case atStart=>exact ⟨0,nZ,rfl,by rw [yh];exact HO.Z.alloc _,yR _ _⟩
 obtain ⟨k,hk,rfl,t,hg⟩:=hrel;have X:=Jh ((J.Z.alloc J.Z.size _).grown hg (oS J.Z.size) (by intro k hk;cases hk;have:=u.Z;omega));have KO:=Jh ((Blk.new w2 32 #[W,H, .slice ↑g n n]).grown hg (oS HO.Z.lt));obtain ⟨l0,o0,o1,o2⟩:=KO.Z.c3;have KP:=Jh ((U.Z.alloc _).grown hg (oT u.Z m.Z.lt));obtain ⟨L,p0,p1,p2⟩:=KP.Z.c3;by_cases F:k<n
 . have e1:0<=(k:Int) % W:=Yg _ om
   have e2:(k:Int) % W<W:=Ye _ om;have e3:0<=(k:Int)/W:=Yw om om;have e4:(k:Int)/W<=k:=Int.ediv_le_self _ om;have g2:wr.cell? (g,k)=some ↑((zn (gen n (kp W H xs dx dy)) (List.replicate n 0) k).getD k 0):=t.cell F;have g3:wr.frozen? (g,k)=false:=t.frozen k;have gl:=t.lt;have b7:=Jh t;clear t;have d4:(W==0)=false:=sO;have d6: ¬W=0:=om;have N1:g≠w.heap.size:=by have:=u.Z;have:=c.Z.lt;omega
   have N2:g≠w2.heap.size:=by have:=HO.Z.lt;omega
   go_wp2_with fail
   go_region_held3 (fun v=>JB v w W H (.slice s n l) (Jc v (w2,2) (.slice ↑g n n)))
    (first | exact ⟨p0,p1,p2,o2⟩ | exact ⟨(f.cell L).trans p0,(f.cell L).trans p1,(f.cell L).trans p2,(f.cell l0).trans o2⟩ | exact ⟨zY y0 N1,zY y1 N1,zY y2 N1,zY y3 N2⟩)
    (first
     | (go_at_call 194;((with_reducible refine (uO W H s n l xs _ _ _ z.Z (by exact (N.Z.below X.Z).of_heap rfl) HQ.Z b1 b3 c8 b2 b4).mono ?_);rintro e v1 ⟨rfl,f⟩;have y0:=(f.cell L).trans p0;have y1:=(f.cell L).trans p1;have y2:=(f.cell L).trans p2;have y3:=(f.cell l0).trans o2;have t2:=(f.cell gl).trans g2;have t3:=(f.frozen gl).trans g3)))
   have hv:(gen n (kp W H xs dx dy)).getD k 0=jA W H xs ((k:Int) % W - dx) ((k:Int)/W - dy):=yN _ _ _ F;have I:=((b7.Z.drewN 1).below f gl).set k (jA W H xs ((k:Int) % W - dx) ((k:Int)/W - dy));rw [yd (gen n (kp W H xs dx dy)) _ k _ (by rw [zZ];exact F) sO hv] at I;have c5:=Jh I;have c4:=zU hg (yl (row:=some g) (xJ f));clear I hv hg;go_wp2_with fail;go_roundw
   case rel=>exact ⟨k+1,om,by go_num,c5.Z,yO c4 _⟩
   exact Jm
 obtain rfl:n=k:=om;have KR:=Jh ((V.Z.alloc _).grown hg (oT u.Z V.Z.lt));obtain ⟨r0,r1,r2,r3⟩:=KR.Z.c3;obtain ⟨q0,q1,q2⟩:=KR.Z.f3;rw [xY (gen n (kp W H xs dx dy)) _ n (by rw [zZ]) sI] at t;have d3:=Jh t;clear t;go_wp2_with fail
 exact bodyPost_ret (v:= .agg #[W,H, .slice ↑g n n]) (by simp [results,results140,go_sem,r1,r2,r3]) rfl
  ⟨_,_,_,rfl,OwnA.mk (((d3.Z.other (oS u.Z) _).other (oS u.Z) _).other (oS u.Z) _) (oh u),om,
   ((X.Z.setCell sD _).setCell sD _).setCell sD _⟩
theorem vo (w:World) {a:Act}
 (m:o.guard=none) (s x:Operand) (t:o.op= .call {callee:= .builtin .append,args:=#[s,x],argTypes:=#[22,22]})
 (B n f:Nat) (l:Option Addr) (xs:List Int) (L:a.eval s= .slice l n f) (H:OwnA w B l n f xs) (g:Nat) (v:Int) (F:a.eval x= .slice ↑g 1 1)
 (hc:w.cell? g=some ↑v) (hn:n<=1048576) (D:B<=w.heap.size)
 (hK: ∀e c w',OwnA w' B e (n+1) c (xs++ [v])->w.grownBy w' (zL l)->K (a.put o.dst (.slice e (n+1) c)) w'):
 if Region.wanted o (yielded ops a.tmps)=true then Oper.wp prog o a w K Q else E:=by
 have hw:Region.wanted o (yielded ops a.tmps)=true:=by simp [Region.wanted,m]
 rw [if_pos hw];obtain ⟨i,hi,A,q,z⟩:=info_parts qD;refine wp_append_own w s x 22 t B 3 i ↑Z0 1 8 underlying22 hi A q z rfl dC _ n (xs.map (Value.int .i64)) L H.toRow ↑g 1 1 [↑v] F rfl ?_ ?_ (by unfold maxLen;omega) om D ?_;intro j u k
 match j,k with
 | 0,k=>simp at k;subst k;simpa [Addr.add] using hc
 intro u C;simp at C;subst C;rfl;intro J w' h2 h3 _;have h4:w'.ownsRow B 3 1 J (n+1) ((xs++ [v]).map (Value.int .i64)):=by simpa using h2
 obtain ⟨e,c,rfl,I⟩:=OwnA.ofRow h4;rw [ud] at h3;exact hK e c w' I h3
theorem XC (W H:Int) (ad:Option Addr) (n I:Nat) (xs:List Int) (dx dy:Int) (w:World) (hn:xs.length=n) (ha:Rd w ad xs) (hl:n<=9223372036854775807):
 Calls prog 64 #[.agg #[W,H, .slice ad n I],dx,dy] w (YK w (xb W H xs dx dy)):=by
 have HN:=Jh hn;have HA:=Jh ha;clear hn ha;by_cases hp:zq W H xs=true
 case neg=>
  have e5:zq W H xs=false:=by simpa using hp
  rw [qy (fun h=>hp h.1)];clear hp;go_in;go_wp2_with fail;refine (xW _ _ _ _ _ xs _ HN.Z (by exact (HA.Z.alloc _).alloc _) hl).mono ?_;rintro e w1 ⟨rfl,hb⟩;have V:=Jh (nV.trans (hb.mono sO));have L:=Jh (((Blk.new w 32 #[W,H, .slice ad n I]).alloc _).zA hb)
  have D:Hd (Blk w1 (w.heap.size+1) 32 ↑Zp):=by
   have h:=(Blk.new (w.alloc (.cells #[W,H, .slice ad n I] 32)) 32 ↑Zp).zA hb;exact Jh (by simpa using h)
  obtain ⟨l1,c0,c1,c2⟩:=L.Z.c3;obtain ⟨m1,d0,d1,d2⟩:=D.Z.c3;obtain ⟨f0,f1,f2⟩:=D.Z.f3;clear hb;rw [e5];go_wp2_with fail
  exact bodyPost_ret (v:= .agg ↑Zp) (by simp [results,results64,go_sem,d0,d1,d2]) rfl ⟨none,0,0,rfl,oN,om,
   ((V.Z.setCell sD _).setCell sD _).setCell sD _⟩
 by_cases hx:-1000<=dx/\dx<=1000
 case neg=>
  rw [qy (fun h=>hx ⟨h.2.1,h.2.2.1⟩)];have HX:=Jh hx;clear hx;go_in;go_wp2_with fail;refine (xW _ _ _ _ _ xs _ HN.Z (by exact (HA.Z.alloc _).alloc _) hl).mono ?_;rintro e w1 ⟨rfl,hb⟩;have V:=Jh (nV.trans (hb.mono sO));have L:=Jh (((Blk.new w 32 #[W,H, .slice ad n I]).alloc _).zA hb)
  have D:Hd (Blk w1 (w.heap.size+1) 32 ↑Zp):=by
   have h:=(Blk.new (w.alloc (.cells #[W,H, .slice ad n I] 32)) 32 ↑Zp).zA hb;exact Jh (by simpa using h)
  obtain ⟨l1,c0,c1,c2⟩:=L.Z.c3;obtain ⟨m1,d0,d1,d2⟩:=D.Z.c3;obtain ⟨f0,f1,f2⟩:=D.Z.f3;clear hb;rw [hp];go_wp2_with fail;refine (yx _ _ _ _ HX.Z).mono ?_;rintro e w2 ⟨rfl,rfl⟩;go_wp2_with fail
  exact bodyPost_ret (v:= .agg ↑Zp) (by simp [results,results64,go_sem,d0,d1,d2]) rfl ⟨none,0,0,rfl,oN,om,
   ((V.Z.setCell sD _).setCell sD _).setCell sD _⟩
 obtain ⟨c8,d3⟩:=hx;by_cases hy:-1000<=dy/\dy<=1000
 case neg=>
  rw [qy (fun h=>hy ⟨h.2.2.2.1,h.2.2.2.2⟩)];have HY:=Jh hy;clear hy;go_in;go_wp2_with fail;refine (xW _ _ _ _ _ xs _ HN.Z (by exact (HA.Z.alloc _).alloc _) hl).mono ?_;rintro e w1 ⟨rfl,hb⟩;have V:=Jh (nV.trans (hb.mono sO));have L:=Jh (((Blk.new w 32 #[W,H, .slice ad n I]).alloc _).zA hb)
  have D:Hd (Blk w1 (w.heap.size+1) 32 ↑Zp):=by
   have h:=(Blk.new (w.alloc (.cells #[W,H, .slice ad n I] 32)) 32 ↑Zp).zA hb;exact Jh (by simpa using h)
  obtain ⟨l1,c0,c1,c2⟩:=L.Z.c3;obtain ⟨m1,d0,d1,d2⟩:=D.Z.c3;obtain ⟨f0,f1,f2⟩:=D.Z.f3;clear hb;rw [hp];go_wp2_with fail;refine (zz _ _ _ _ c8 d3).mono ?_;rintro e w2 ⟨rfl,rfl⟩;go_wp2_with fail;refine (yx _ _ _ _ HY.Z).mono ?_;rintro e w2 ⟨rfl,rfl⟩;go_wp2_with fail
  exact bodyPost_ret (v:= .agg ↑Zp) (by simp [results,results64,go_sem,d0,d1,d2]) rfl ⟨none,0,0,rfl,oN,om,
   ((V.Z.setCell sD _).setCell sD _).setCell sD _⟩
 obtain ⟨d4,d7⟩:=hy;rw [zBY HN.Z hp c8 d3 d4 d7];obtain ⟨hs,hq,hi,hd⟩:=kI HN.Z hp;obtain ⟨b1,b2,b3,b4,b5,b6⟩:=xA hs;have HQ:=Jh hq;have HI:=Jh hi;have HD:=Jh hd;have HS:=Jh hs;have e8:1<=n:=om;have d8:n<=256:=om;clear hq hi hs hd;go_in;go_wp2_with fail;refine (xW _ _ _ _ _ xs _ HN.Z (by exact (HA.Z.alloc _).alloc _) hl).mono ?_;rintro e w1 ⟨rfl,hb⟩;have V:=Jh (nV.trans (hb.mono sO));have L:=Jh (((Blk.new w 32 #[W,H, .slice ad n I]).alloc _).zA hb)
 have D:Hd (Blk w1 (w.heap.size+1) 32 ↑Zp):=by
  have h:=(Blk.new (w.alloc (.cells #[W,H, .slice ad n I] 32)) 32 ↑Zp).zA hb;exact Jh (by simpa using h)
 obtain ⟨l1,c0,c1,c2⟩:=L.Z.c3;obtain ⟨m1,d0,d1,d2⟩:=D.Z.c3;obtain ⟨f0,f1,f2⟩:=D.Z.f3;clear hb;rw [hp];go_wp2_with fail;refine (zz _ _ _ _ c8 d3).mono ?_;rintro e e6 ⟨rfl,rfl⟩;go_wp2_with fail;refine (zz _ _ _ _ d4 d7).mono ?_;rintro e e6 ⟨rfl,rfl⟩;go_wp2_with fail
 go_loopw [31] (fun i wr=> ∃(k:Nat) (Y:Option Addr) (M:Nat),k<=n/\i=↑k/\OwnA wr (w1.heap.size+1) Y k M (gen k (kp W H xs dx dy))/\Blk wr (w1.heap.size) 32 #[(W),(H), .slice Y k M]/\Below (w1.heap.size) (w1) wr) (fun i _=>n - (intOf i).toNat)
 case atStart=>exact ⟨0,none,0,nZ,rfl,oN,by first | exact Blk.new _ _ _ | exact Blk.zD _ _ sI,by first | exact nJ | exact bR.alloc sI _⟩
 obtain ⟨k,Y,M,hk,rfl,ho,d6,d5⟩:=hrel;have HO:=Jh ho;have KB:=Jh d6;have HW:=Jh d5;obtain ⟨l0,o0,o1,o2⟩:=KB.Z.c3;clear ho d6 d5;have c5:=Jh (V.Z.trans (HW.Z.mono (og V.Z.size)));have KP:=Jh (L.Z.below HW.Z L.Z.lt);obtain ⟨l9,T,X,U⟩:=KP.Z.c3;by_cases f5:k<n
 . have e1:0<=(k:Int) % W:=Yg _ om
   have e2:(k:Int) % W<W:=Ye _ om;have e3:0<=(k:Int)/W:=Yw om om;have e4:(k:Int)/W<=k:=Int.ediv_le_self _ om;have e7:(W==0)=false:=sO;have f4: ¬W=0:=om;go_wp2_with fail;have l:w1.heap.size≠w.heap.size:=by have:=L.Z.lt;omega
   have LP:=L.Z.lt;refine wp_region_held_drew (S:=fun v=>JA v w W H (.slice ad n I)) zK ⟨T,X,U⟩ ?_;intro c;refine zO 0 ?_;refine zO 2 ?_;refine zO 3 ?_;refine zO 4 ?_;refine zO 5 ?_;refine zO 6 ?_;refine zO 7 ?_;refine zO 8 ?_;refine zO 9 ?_;refine zO 10 ?_;refine zO 11 ?_;refine zO 12 ?_;refine zO 13 ?_;refine zO 14 ?_;refine wpAnyH_ready (rs:=[1,15]) zK sI ?_;refine AllReadyH.cons rfl (fun K hK=>?_) (AllReadyH.cons rfl (fun K hK=>?_) AllReadyH.nil)
   . go_simp
     refine hK.out _ _ ?_ (fun c=>?_)
     ((try dsimp only);first | exact ⟨T,X,U⟩ | exact ⟨z,C,t⟩ | exact ⟨zw z,zw C,zw t⟩ | exact ⟨z0,q,z2⟩ | exact ⟨zY z0 l,zY q l,zY z2 l⟩)
     clear hK K;refine zy 15 (fun K hK=>?_);go_simp
     go_at_call 88
     ((with_reducible refine (vG W H ad n I xs _ _ _ HN.Z (by exact (HA.Z.below c5.Z).of_heap rfl) HQ.Z b1 b3 d8 b2 b4).mono ?_);rintro e v1 ⟨rfl,m⟩);have z:=(m.cell l9).trans T;have C:=(m.cell l9).trans X;have t:=(m.cell l9).trans U;have y3:=(m.cell l0).trans o2;have F:=Jh (HO.Z.drew.zA m);have J:=Jh (KB.Z.drew.zA m);have lv:=J.Z.lt;go_wp2_with fail;refine hK.out _ _ ?_ (fun c=>?_)
     ((try dsimp only);first | exact ⟨T,X,U⟩ | exact ⟨z,C,t⟩ | exact ⟨zw z,zw C,zw t⟩ | exact ⟨z0,q,z2⟩ | exact ⟨zY z0 l,zY q l,zY z2 l⟩)
     clear hK K;refine zy 16 (fun K hK=>?_);go_simp;refine hK.out _ _ ?_ (fun c=>?_)
     ((try dsimp only);first | exact ⟨T,X,U⟩ | exact ⟨z,C,t⟩ | exact ⟨zw z,zw C,zw t⟩ | exact ⟨z0,q,z2⟩ | exact ⟨zY z0 l,zY q l,zY z2 l⟩)
     clear hK K;refine zy 17 (fun K hK=>?_);refine vo _ (by rfl) (.tmp 35) (.tmp 50) (by rfl) (w1.heap.size+1) k M Y (gen k (kp W H xs dx dy)) (by rfl) (F.Z.alloc _) v1.heap.size _ (by rfl) (vC _ _ _) om (oS J.Z.lt) ?_;intro s f w5 N A;have b0:=Jh (jI F.Z A (KP.Z.drew.zA m) om);obtain ⟨l6,z0,q,z2⟩:=b0.Z.c3;have u:=Jh (jI F.Z A J.Z om);obtain ⟨l5,t0,t1,t2⟩:=u.Z.c3;obtain ⟨f0,f1,f2⟩:=u.Z.f3;refine hK.out _ _ ?_ (fun c=>?_)
     ((try dsimp only);first | exact ⟨T,X,U⟩ | exact ⟨z,C,t⟩ | exact ⟨zw z,zw C,zw t⟩ | exact ⟨z0,q,z2⟩ | exact ⟨zY z0 l,zY q l,zY z2 l⟩)
     clear hK K;refine zO 18 ?_;refine zy 19 (fun K hK=>?_);go_simp;refine hK.out _ _ ?_ (fun c=>?_)
     ((try dsimp only);first | exact ⟨T,X,U⟩ | exact ⟨z,C,t⟩ | exact ⟨zw z,zw C,zw t⟩ | exact ⟨z0,q,z2⟩ | exact ⟨zY z0 l,zY q l,zY z2 l⟩)
     clear hK K;refine wpAnyH_done zK ?_ _;have b8:=Jh (HW.Z.trans ((xJ m).mono (by have:=KB.Z.lt;have e0:wr.drew.heap.size=wr.heap.size:=rfl;omega)));have c4:=Jh (vV F.Z A b8.Z om (og J.Z.lt));have b7:Hd (OwnA w5 (w1.heap.size+1) s (k+1) f (gen (k+1) (kp W H xs dx dy))):=Jh (by rw [<-jG];refine cast (congrArg (fun (v:Int)=>OwnA w5 (w1.heap.size+1) s (k+1) f (gen k (kp W H xs dx dy)++ [v])) ?_) N;(first | rfl | (unfold kp;rw [Yl om,Yc ((k:Int)/W) om,Yc ((k:Int) % W - dx) om,Yc ((k:Int)/W - dy) om])));clear N A;go_wp2_with fail;go_roundw
     case rel=>exact ⟨k+1,s,f,om,by go_num,b7.Z.other sI _,by first | exact u.Z.set 2 _ | (have h:=u.Z.set 2 (.slice s (k+1) f);simpa using h),c4.Z.setCell sI _⟩
     exact Jm
   go_simp
   go_at_call 88
   ((with_reducible refine (vG W H ad n I xs _ _ _ HN.Z (by exact (HA.Z.below c5.Z).of_heap rfl) HQ.Z b1 b3 d8 b2 b4).mono ?_);rintro e v1 ⟨rfl,m⟩);have z:=(m.cell l9).trans T;have C:=(m.cell l9).trans X;have t:=(m.cell l9).trans U;have y3:=(m.cell l0).trans o2;have F:=Jh (HO.Z.drew.zA m);have J:=Jh (KB.Z.drew.zA m);have lv:=J.Z.lt;go_wp2_with fail;refine hK.out _ _ ?_ (fun c=>?_)
   ((try dsimp only);first | exact ⟨T,X,U⟩ | exact ⟨z,C,t⟩ | exact ⟨zw z,zw C,zw t⟩ | exact ⟨z0,q,z2⟩ | exact ⟨zY z0 l,zY q l,zY z2 l⟩)
   clear hK K;refine wpAnyH_ready (rs:=[1,16]) zK sI ?_;refine AllReadyH.cons rfl (fun K hK=>?_) (AllReadyH.cons rfl (fun K hK=>?_) AllReadyH.nil)
   . go_simp
     refine hK.out _ _ ?_ (fun c=>?_)
     ((try dsimp only);first | exact ⟨T,X,U⟩ | exact ⟨z,C,t⟩ | exact ⟨zw z,zw C,zw t⟩ | exact ⟨z0,q,z2⟩ | exact ⟨zY z0 l,zY q l,zY z2 l⟩)
     clear hK K;refine zy 16 (fun K hK=>?_);go_simp;refine hK.out _ _ ?_ (fun c=>?_)
     ((try dsimp only);first | exact ⟨T,X,U⟩ | exact ⟨z,C,t⟩ | exact ⟨zw z,zw C,zw t⟩ | exact ⟨z0,q,z2⟩ | exact ⟨zY z0 l,zY q l,zY z2 l⟩)
     clear hK K;refine zy 17 (fun K hK=>?_);refine vo _ (by rfl) (.tmp 35) (.tmp 50) (by rfl) (w1.heap.size+1) k M Y (gen k (kp W H xs dx dy)) (by rfl) (F.Z.alloc _) v1.heap.size _ (by rfl) (vC _ _ _) om (oS J.Z.lt) ?_;intro s f w5 N A;have b0:=Jh (jI F.Z A (KP.Z.drew.zA m) om);obtain ⟨l6,z0,q,z2⟩:=b0.Z.c3;have u:=Jh (jI F.Z A J.Z om);obtain ⟨l5,t0,t1,t2⟩:=u.Z.c3;obtain ⟨f0,f1,f2⟩:=u.Z.f3;refine hK.out _ _ ?_ (fun c=>?_)
     ((try dsimp only);first | exact ⟨T,X,U⟩ | exact ⟨z,C,t⟩ | exact ⟨zw z,zw C,zw t⟩ | exact ⟨z0,q,z2⟩ | exact ⟨zY z0 l,zY q l,zY z2 l⟩)
     clear hK K;refine zO 18 ?_;refine zy 19 (fun K hK=>?_);go_simp;refine hK.out _ _ ?_ (fun c=>?_)
     ((try dsimp only);first | exact ⟨T,X,U⟩ | exact ⟨z,C,t⟩ | exact ⟨zw z,zw C,zw t⟩ | exact ⟨z0,q,z2⟩ | exact ⟨zY z0 l,zY q l,zY z2 l⟩)
     clear hK K;refine wpAnyH_done zK ?_ _;have b8:=Jh (HW.Z.trans ((xJ m).mono (by have:=KB.Z.lt;have e0:wr.drew.heap.size=wr.heap.size:=rfl;omega)));have c4:=Jh (vV F.Z A b8.Z om (og J.Z.lt));have b7:Hd (OwnA w5 (w1.heap.size+1) s (k+1) f (gen (k+1) (kp W H xs dx dy))):=Jh (by rw [<-jG];refine cast (congrArg (fun (v:Int)=>OwnA w5 (w1.heap.size+1) s (k+1) f (gen k (kp W H xs dx dy)++ [v])) ?_) N;(first | rfl | (unfold kp;rw [Yl om,Yc ((k:Int)/W) om,Yc ((k:Int) % W - dx) om,Yc ((k:Int)/W - dy) om])));clear N A;go_wp2_with fail;go_roundw
     case rel=>exact ⟨k+1,s,f,om,by go_num,b7.Z.other sI _,by first | exact u.Z.set 2 _ | (have h:=u.Z.set 2 (.slice s (k+1) f);simpa using h),c4.Z.setCell sI _⟩
     exact Jm
   go_simp;refine hK.out _ _ ?_ (fun c=>?_)
   ((try dsimp only);first | exact ⟨T,X,U⟩ | exact ⟨z,C,t⟩ | exact ⟨zw z,zw C,zw t⟩ | exact ⟨z0,q,z2⟩ | exact ⟨zY z0 l,zY q l,zY z2 l⟩)
   clear hK K;refine zy 1 (fun K hK=>?_);go_simp;refine hK.out _ _ ?_ (fun c=>?_)
   ((try dsimp only);first | exact ⟨T,X,U⟩ | exact ⟨z,C,t⟩ | exact ⟨zw z,zw C,zw t⟩ | exact ⟨z0,q,z2⟩ | exact ⟨zY z0 l,zY q l,zY z2 l⟩)
   clear hK K;refine zy 17 (fun K hK=>?_);refine vo _ (by rfl) (.tmp 35) (.tmp 50) (by rfl) (w1.heap.size+1) k M Y (gen k (kp W H xs dx dy)) (by rfl) (F.Z.alloc _) v1.heap.size _ (by rfl) (vC _ _ _) om (oS J.Z.lt) ?_;intro s f w5 N A;have b0:=Jh (jI F.Z A (KP.Z.drew.zA m) om);obtain ⟨l6,z0,q,z2⟩:=b0.Z.c3;have u:=Jh (jI F.Z A J.Z om);obtain ⟨l5,t0,t1,t2⟩:=u.Z.c3;obtain ⟨f0,f1,f2⟩:=u.Z.f3;refine hK.out _ _ ?_ (fun c=>?_)
   ((try dsimp only);first | exact ⟨T,X,U⟩ | exact ⟨z,C,t⟩ | exact ⟨zw z,zw C,zw t⟩ | exact ⟨z0,q,z2⟩ | exact ⟨zY z0 l,zY q l,zY z2 l⟩)
   clear hK K;refine zO 18 ?_;refine zy 19 (fun K hK=>?_);go_simp;refine hK.out _ _ ?_ (fun c=>?_)
   ((try dsimp only);first | exact ⟨T,X,U⟩ | exact ⟨z,C,t⟩ | exact ⟨zw z,zw C,zw t⟩ | exact ⟨z0,q,z2⟩ | exact ⟨zY z0 l,zY q l,zY z2 l⟩)
   clear hK K;refine wpAnyH_done zK ?_ _;have b8:=Jh (HW.Z.trans ((xJ m).mono (by have:=KB.Z.lt;have e0:wr.drew.heap.size=wr.heap.size:=rfl;omega)));have c4:=Jh (vV F.Z A b8.Z om (og J.Z.lt));have b7:Hd (OwnA w5 (w1.heap.size+1) s (k+1) f (gen (k+1) (kp W H xs dx dy))):=Jh (by rw [<-jG];refine cast (congrArg (fun (v:Int)=>OwnA w5 (w1.heap.size+1) s (k+1) f (gen k (kp W H xs dx dy)++ [v])) ?_) N;(first | rfl | (unfold kp;rw [Yl om,Yc ((k:Int)/W) om,Yc ((k:Int) % W - dx) om,Yc ((k:Int)/W - dy) om])));clear N A;go_wp2_with fail;go_roundw
   case rel=>exact ⟨k+1,s,f,om,by go_num,b7.Z.other sI _,by first | exact u.Z.set 2 _ | (have h:=u.Z.set 2 (.slice s (k+1) f);simpa using h),c4.Z.setCell sI _⟩
   exact Jm
 obtain rfl:n=k:=om;have KR:=Jh (D.Z.below HW.Z D.Z.lt);obtain ⟨r0,r1,r2,r3⟩:=KR.Z.c3;obtain ⟨q0,q1,q2⟩:=KR.Z.f3;go_wp2_with fail
 exact bodyPost_ret (v:= .agg #[(W),(H), .slice Y _ M]) (by simp [results,results64,go_sem,r1,r2,r3]) rfl
  ⟨_,_,_,rfl,(((HO.Z.other (by simp;try omega) _).other (by simp;try omega) _).other (by simp;try omega) _).mono (by have:=c5.Z.size;try simp;omega),om,
   ((c5.Z.setCell sD _).setCell sD _).setCell sD _⟩
end
end Go.Proofs.YtlenfgdjdianiaaGreatDoor
