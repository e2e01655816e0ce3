/-
  Contracts and plain facts on which the theorem of this claim rests, text 45.
-/
import Derived.Test.YtanccoopbgamdaaGreatDoorKC5
import Derived.Test.YtanccoopbgamdaaGreatDoorKC9
import Derived.Test.YtanccoopbgamdaaGreatDoorKC10
import Derived.Test.YtanccoopbgamdaaGreatDoorKC22
import Derived.Test.YtanccoopbgamdaaGreatDoorKC44
namespace Go.Proofs.YtanccoopbgamdaaGreatDoor
open Go.RowKit
set_option linter.unusedVariables false
set_option linter.unusedSimpArgs false
theorem wp_appVl {P:Program} (w:World) {ops:Array Oper} {rest:List Oper} {o:Oper} {a:Act} {Q:Exit→Act→World→Prop}
   (hgd:o.guard=none) (t:Nat) (ht:P.underlying t=some (.slice 27)) (hi0:(P.info? 27).map (fun i=>(i.zero,i.size,i.bytes))=some (some (.agg #[.int .i64 0, .int .i64 0, .slice none 0 0]),3,40))
   (s x:Operand) (hop:o.op= .call {callee:= .builtin .append,args:=#[s,x],argTypes:=#[t,t]})
   (B n cap:Nat) (ad:Option Addr) (L:List PV) (hs:a.eval s= .slice ad n cap) (ho:RowVA w B ad n cap L) (g:Nat) (p:PV) (hx:a.eval x= .slice (some ⟨g,0,none⟩) 1 1)
   (h0:w.cell? ⟨g,0,none⟩=some (.int .i64 p.W)) (h1:w.cell? ⟨g,1,none⟩=some (.int .i64 p.H)) (h2:w.cell? ⟨g,2,none⟩=some (.slice p.a p.n p.c)) (hn:n≤1048576) (hB:B≤w.heap.size)
   (hK: ∀ad' cap' w',RowVA w' B ad' (n+1) cap' (L++ [p])→w.grownBy w' (blockOf ad)→(blockOf ad'=blockOf ad∨blockOf ad'=some w.heap.size)→wpList P ops Q rest (a.put o.dst (.slice ad' (n+1) cap')) w'):
   wpList P ops Q (o::rest) a w:=by
 obtain ⟨i,hi,hz0,hz1,hz2⟩:=info_parts hi0
 have hf:flatV L++p.cells=flatV (L++ [p]):=by simp [flatV]
 refine wpList_append_own_at w hgd s x t hop B 27 i (.agg #[.int .i64 0, .int .i64 0, .slice none 0 0]) 3 40 ht hi hz0 hz1 hz2 (by simp [Value.cells]) (by omega) _ n (flatV L) hs ho.toRow ⟨g,0,none⟩ 1 1 p.cells hx (by simp [PV.cells]) ?_ ?_ (by unfold maxLen;omega) (by omega) hB ?_
 · intro j u hj
   have hj3:j=0∨j=1∨j=2:=by
     have:=(List.getElem?_eq_some_iff.1 hj).1
     simp [PV.cells] at this
     omega
   rcases hj3 with rfl | rfl | rfl
   · simp [PV.cells] at hj;subst hj;simpa [Addr.add] using h0
   · simp [PV.cells] at hj;subst hj;simpa [Addr.add] using h1
   · simp [PV.cells] at hj;subst hj;simpa [Addr.add] using h2
 · intro u hu
   simp [PV.cells] at hu
   rcases hu with rfl | rfl | rfl <;>rfl
 · intro v' w' q2 q3 _ q5
   rw [hf] at q2
   obtain ⟨ad',cap',rfl,h5⟩:=RowVA.ofRow (by rw [List.length_append,ho.1];rfl) q2
   rw [blockOf_ownT] at q3
   rw [blockOf_ownT,blockOf_ownT] at q5
   exact hK ad' cap' w' h5 q3 q5
structure AnyS (w0 w:World) (c:Nat) (ac:Option Addr) (nc capc:Nat) (bs:List Int) (db:Nat) (D:Dsk):Prop where
 box:Blk w db 43 D.cells
 own:OwnD w (w0.heap.size+1) D
 cur:Cur w c ac nc capc bs
 grow:w0.grownBy w (some c)
 res:Blk w w0.heap.size 43 #[.int .i64 0, .int .i64 0, .slice none 0 0, .int .i64 0, .int .i64 0, .slice none 0 0, .slice none 0 0]
 cb:c<w0.heap.size
 dbB:w0.heap.size+1≤db
 apart: ∀b,D.blocks b→b≠db
namespace AnyS
variable {w0 w v : World} {c : Nat} {ac : Option Addr} {nc capc : Nat} {bs : List Int} {db : Nat} {D : Dsk}
theorem step (h:AnyS w0 w c ac nc capc bs db D) {S:Nat→Prop} (hk:KeepT S w v) (hcur:Cur v c ac nc capc bs) (hs: ∀b,S b→b=c∨(w0.heap.size+1≤b∧b≠db∧ ¬D.blocks b)):AnyS w0 v c ac nc capc bs db D:=by
 have cb:=h.cb
 have dB:=h.dbB
 refine ⟨hk.blk h.box (fun e=>?_),h.own.keepZ hk (fun b hb hd=>?_),hcur,⟨hk.os.trans h.grow.os,hk.tape.trans h.grow.tape,hk.output.trans h.grow.output,Nat.le_trans h.grow.size hk.size,fun i hi hr=>(hk.block i (Nat.lt_of_lt_of_le hi h.grow.size) (fun e=>?_)).trans (h.grow.block i hi hr)⟩,hk.blk h.res (fun e=>?_),h.cb,h.dbB,h.apart⟩
 · rcases hs _ e with e1 | ⟨_,e1,_⟩
   · omega
   · exact e1 rfl
 · rcases hs b hb with e1 | ⟨_,_,e1⟩
   · have:=(h.own.bd b hd).1;omega
   · exact e1 hd
 · rcases hs i e with e1 | ⟨e1,_,_⟩
   · exact hr (by rw [e1])
   · omega
 · rcases hs _ e with e1 | ⟨e1,_,_⟩ <;>omega
theorem call (h:AnyS w0 w c ac nc capc bs db D) (hcur:Cur v c ac nc capc bs) (hg:w.grownBy v (some c)):AnyS w0 v c ac nc capc bs db D:=
 h.step (S:=fun b=>b=c) (KeepT.ofGrown hg (fun b e=>(Option.some.inj e).symm)) hcur (fun b e=> .inl e)
theorem below (h:AnyS w0 w c ac nc capc bs db D) (hb:Below w.heap.size w v):AnyS w0 v c ac nc capc bs db D:=
 h.step (S:=fun _=>False) (KeepT.ofBelow hb) (h.cur.below' hb) (fun b e=>e.elim)
theorem alloc (h:AnyS w0 w c ac nc capc bs db D) (o:Obj):AnyS w0 (w.alloc o) c ac nc capc bs db D:=h.below (Joins.below_alloc1 w o)
theorem drew (h:AnyS w0 w c ac nc capc bs db D):AnyS w0 w.drew c ac nc capc bs db D:=h.below (Below.refl _ _).drew
theorem row (h:AnyS w0 w c ac nc capc bs db D) {ad:Option Addr} (hg:w.grownBy v (blockOf ad)) (hs: ∀b,blockOf ad=some b→w0.heap.size+1≤b∧b≠db∧ ¬D.blocks b):AnyS w0 v c ac nc capc bs db D:=
 h.step (S:=fun b=>blockOf ad=some b) (KeepT.ofGrown hg (fun b e=>e)) (h.cur.grown hg (fun b e=>by have:=(hs b e).1;have:=h.cb;omega)) (fun b e=> .inr (hs b e))
theorem set (h:AnyS w0 w c ac nc capc bs db D) {a:Addr} (hs:w0.heap.size+1≤a.block∧a.block≠db∧ ¬D.blocks a.block) (u:Value):AnyS w0 (w.setCell a u) c ac nc capc bs db D:=
 h.step (S:=fun b=>b=a.block) (KeepT.set (S:=fun b=>b=a.block) (KeepT.refl _ w) rfl u) (h.cur.other (by have:=h.cb;omega) u) (fun b e=> .inr (by subst e;exact hs))
theorem new (h:AnyS w0 w c ac nc capc bs db D) {b:Nat} (hb:w.heap.size≤b):w0.heap.size+1≤b∧b≠db∧ ¬D.blocks b:=
 ⟨by have:=h.res.lt;omega,by have:=h.box.lt;omega,fun e=>by have:=(h.own.bd b e).2;omega⟩
theorem snoc (h:AnyS w0 w c ac nc capc bs db D) {ad':Option Addr} {cap':Nat} {p:PV} (hr:RowVA v (w0.heap.size+1) ad' (D.n+1) cap' (D.ps++ [p])) (hg:w.grownBy v (blockOf D.a))
   (hz:blockOf ad'=blockOf D.a∨blockOf ad'=some w.heap.size) (hp:OwnA w (w0.heap.size+1) p.a p.n p.c p.ink) (h1: ∀b,blockOf p.a=some b→b≠db∧ ¬D.blocks b):
   AnyS w0 (v.setCell ⟨db,6,none⟩ (.slice ad' (D.n+1) cap')) c ac nc capc bs db ⟨D.P,D.M,ad',D.n+1,cap',D.ps++ [p]⟩:=by
 have cb:=h.cb
 have dB:=h.dbB
 have lt:=h.box.lt
 have bd:=h.own.bd
 have hk:KeepT (fun b=>blockOf D.a=some b) w v:=KeepT.ofGrown hg (fun b e=>e)
 have hrow: ∀b,blockOf D.a=some b→D.blocks b:=fun b e=> .inr (.inr (.inl e))
 have hdb: ∀b,blockOf D.a=some b→b≠db:=fun b e=>h.apart b (hrow b e)
 have hV:OwnV v (w0.heap.size+1) ad' (D.n+1) cap' (D.ps++ [p]):=OwnV.snoc h.own.s hr hg
   (fun b hb=>by
     rcases hz with e | e
     · rw [e] at hb;exact .inl hb
     · rw [e] at hb;injection hb with hb;exact .inr (by omega))
   (hp.grownS hg (fun b hb e=>(h1 b e).2 (hrow b hb)))
   (fun b hb=>⟨(hp.bd b hb).2,fun e=>(h1 b hb).2 (.inr (.inr e))⟩)
 have hbl: ∀b,OwnV.blocks ad' (D.ps++ [p]) b→OwnV.blocks D.a D.ps b∨b=w.heap.size∨blockOf p.a=some b:=by
   rintro b (hb | ⟨k,hk,hb⟩)
   · rcases hz with e | e
     · rw [e] at hb;exact .inl (.inl hb)
     · rw [e] at hb;injection hb with hb;exact .inr (.inl hb.symm)
   · by_cases e:k<D.ps.length
     · rw [pv_snoc_lt e] at hb
       exact .inl (.inr ⟨k,e,hb⟩)
     · obtain rfl:k=D.ps.length:=by simp at hk;omega
       rw [pv_snoc] at hb
       exact .inr (.inr hb)
 have hap: ∀b,OwnV.blocks ad' (D.ps++ [p]) b→b≠db:=fun b hb e=>by
   rcases hbl b hb with q | q | q
   · exact h.apart b (.inr (.inr q)) e
   · omega
   · exact (h1 b q).1 e
 have hks:KeepT (fun b=>b=db) v (v.setCell ⟨db,6,none⟩ (.slice ad' (D.n+1) cap')):=KeepT.set (S:=fun b=>b=db) (KeepT.refl _ v) rfl _
 refine ⟨?_,⟨?_,?_,?_,h.own.pm,?_,?_⟩,?_,?_,?_,cb,dB,?_⟩
 · exact Blk.putS (hk.blk h.box (fun e=>hdb _ e rfl)) _
 · exact hks.ownA (hk.ownA h.own.p (fun b hb e=>h.own.ps b (.inl e) hb)) (fun b hb e=>h.apart b (.inl hb) e)
 · exact hks.ownA (hk.ownA h.own.m (fun b hb e=>h.own.ms b (.inl e) hb)) (fun b hb e=>h.apart b (.inr (.inl hb)) e)
 · exact hks.ownV hV (fun b hb e=>hap b hb e)
 · intro b hb e
   rcases hbl b hb with q | q | q
   · exact h.own.ps b q e
   · have:=(bd b (.inl e)).2;omega
   · exact (h1 b q).2 (.inl e)
 · intro b hb e
   rcases hbl b hb with q | q | q
   · exact h.own.ms b q e
   · have:=(bd b (.inr (.inl e))).2;omega
   · exact (h1 b q).2 (.inr (.inl e))
 · exact (h.cur.grown hg (fun b e=>by have:=(bd b (hrow b e)).1;omega)).other (by simp;omega) _
 · exact ⟨hg.os.trans h.grow.os,hg.tape.trans h.grow.tape,hg.output.trans h.grow.output,by have:=hg.size;have:=h.grow.size;simp [World.setCell];omega,fun i hi hr=>((Below.heap_setCell v _ _ i (by simp;omega)).trans (hg.block i (by have:=h.grow.size;omega) (fun e=>by have:=(bd i (hrow i e.symm)).1;omega))).trans (h.grow.block i hi hr)⟩
 · exact (hk.blk h.res (fun e=>by have:=(bd _ (hrow _ e)).1;omega)).other (by simp;omega) _
 · rintro b (hb | hb | hb)
   · exact h.apart b (.inl hb)
   · exact h.apart b (.inr (.inl hb))
   · exact hap b hb
theorem put (h:AnyS w0 w c ac nc capc bs db D) (i:Nat) (u:Value) (D':Dsk) (hb:Blk (w.setCell ⟨db,i,none⟩ u) db 43 D'.cells) (e1:D'.P.a=D.P.a∧D'.P.n=D.P.n∧D'.P.c=D.P.c∧D'.P.ink=D.P.ink) (e2:D'.M=D.M) (e3:D'.a=D.a∧D'.n=D.n∧D'.c=D.c∧D'.ps=D.ps):
   AnyS w0 (w.setCell ⟨db,i,none⟩ u) c ac nc capc bs db D':=by
 have cb:=h.cb
 have dB:=h.dbB
 have hk:KeepT (fun b=>b=db) w (w.setCell ⟨db,i,none⟩ u):=KeepT.set (S:=fun b=>b=db) (KeepT.refl _ w) rfl u
 have ho:OwnD (w.setCell ⟨db,i,none⟩ u) (w0.heap.size+1) D:=h.own.keepZ hk (fun b e hd=>h.apart b hd e)
 obtain ⟨⟨W,H,pa,pn,pc,xs⟩,M,a,n,cp,ps⟩:=D
 obtain ⟨⟨W',H',pa',pn',pc',xs'⟩,M',a',n',cp',ps'⟩:=D'
 dsimp only at e1 e2 e3
 obtain ⟨rfl,rfl,rfl,rfl⟩:=e1
 subst e2
 obtain ⟨rfl,rfl,rfl,rfl⟩:=e3
 exact ⟨hb,⟨ho.p,ho.m,ho.s,ho.pm,ho.ps,ho.ms⟩,h.cur.other (by simp;omega) u,⟨h.grow.os,h.grow.tape,h.grow.output,by have:=h.grow.size;simp [World.setCell];omega,fun j hj hr=>(Below.heap_setCell w _ u j (by simp;omega)).trans (h.grow.block j hj hr)⟩,h.res.other (by simp;omega) u,cb,dB,h.apart⟩
theorem width (h:AnyS w0 w c ac nc capc bs db D) (x:Int):AnyS w0 (w.setCell ⟨db,0,none⟩ (.int .i64 x)) c ac nc capc bs db ⟨{D.P with W:=x},D.M,D.a,D.n,D.c,D.ps⟩:=
 h.put 0 _ _ (by have:=h.box.set 0 (.int .i64 x);simpa [Dsk.cells] using this) ⟨rfl,rfl,rfl,rfl⟩ rfl ⟨rfl,rfl,rfl,rfl⟩
theorem rank0 (h:AnyS w0 w c ac nc capc bs db D) {g:Nat} (hm:D.M.a=some ⟨g,0,none⟩) (x:Int):
   AnyS w0 (w.setCell ⟨g,0,none⟩ (.int .i64 x)) c ac nc capc bs db ⟨D.P,{D.M with ink:=D.M.ink.set 0 x},D.a,D.n,D.c,D.ps⟩:=by
 have cb:=h.cb
 have dB:=h.dbB
 have hgB:blockOf D.M.a=some g:=by rw [hm];rfl
 have hg:=h.own.m.bd g hgB
 have hgd:=h.apart g (.inr (.inl hgB))
 have hk:KeepT (fun b=>b=g) w (w.setCell ⟨g,0,none⟩ (.int .i64 x)):=KeepT.set (S:=fun b=>b=g) (KeepT.refl _ w) rfl _
 refine ⟨hk.blk h.box (fun e=>hgd e.symm),⟨hk.ownA h.own.p (fun b hb e=>by subst e;exact h.own.pm _ hb hgB),?_,hk.ownV h.own.s (fun b hb e=>by subst e;exact h.own.ms _ hb hgB),h.own.pm,h.own.ps,h.own.ms⟩,h.cur.other (by simp;omega) _,⟨h.grow.os,h.grow.tape,h.grow.output,by have:=h.grow.size;simp [World.setCell];omega,fun j hj hr=>(Below.heap_setCell w _ _ j (by simp;omega)).trans (h.grow.block j hj hr)⟩,h.res.other (by simp;omega) _,cb,dB,h.apart⟩
 rcases h.own.m with ⟨e,_⟩ | ⟨g2,e,h2,ho⟩
 · rw [hm] at e;cases e
 · rw [hm] at e
   cases e
   exact .inr ⟨g,hm,h2,ho.set 0 x⟩
theorem out7 (h:AnyS w0 w c ac nc capc bs db D) (a' b' c' d' e' f' h':Value):
   OwnD (((((((w.setCell ⟨w0.heap.size,0,none⟩ a').setCell ⟨w0.heap.size,1,none⟩ b').setCell ⟨w0.heap.size,2,none⟩ c').setCell ⟨w0.heap.size,3,none⟩ d').setCell ⟨w0.heap.size,4,none⟩ e').setCell ⟨w0.heap.size,5,none⟩ f').setCell ⟨w0.heap.size,6,none⟩ h') (w0.heap.size+1) D∧
   Cur (((((((w.setCell ⟨w0.heap.size,0,none⟩ a').setCell ⟨w0.heap.size,1,none⟩ b').setCell ⟨w0.heap.size,2,none⟩ c').setCell ⟨w0.heap.size,3,none⟩ d').setCell ⟨w0.heap.size,4,none⟩ e').setCell ⟨w0.heap.size,5,none⟩ f').setCell ⟨w0.heap.size,6,none⟩ h') c ac nc capc bs∧
   w0.grownBy (((((((w.setCell ⟨w0.heap.size,0,none⟩ a').setCell ⟨w0.heap.size,1,none⟩ b').setCell ⟨w0.heap.size,2,none⟩ c').setCell ⟨w0.heap.size,3,none⟩ d').setCell ⟨w0.heap.size,4,none⟩ e').setCell ⟨w0.heap.size,5,none⟩ f').setCell ⟨w0.heap.size,6,none⟩ h') (some c):=by
 refine ⟨h.own.set7 (fun b hb=>by have:=(h.own.bd b hb).1;omega) _ _ _ _ _ _ _,?_,?_⟩
 · have q: ∀ {u:World} (i:Nat) (v:Value),Cur u c ac nc capc bs→Cur (u.setCell ⟨w0.heap.size,i,none⟩ v) c ac nc capc bs:=fun i v k=>k.other (by have:=h.cb;simp;omega) v
   exact q 6 h' (q 5 f' (q 4 e' (q 3 d' (q 2 c' (q 1 b' (q 0 a' h.cur))))))
 · have q: ∀ {u:World} (i:Nat) (v:Value),w0.grownBy u (some c)→w0.grownBy (u.setCell ⟨w0.heap.size,i,none⟩ v) (some c):=fun i v k=>grown_setNew k (by simp) v
   exact q 6 h' (q 5 f' (q 4 e' (q 3 d' (q 2 c' (q 1 b' (q 0 a' h.grow))))))
end AnyS
structure PlD (D:Dsk):Prop where
 p:1≤D.P.n∧D.P.n≤1024
 w:1≤D.P.W∧D.P.W≤6
 pa: ∃b,D.P.a=some ⟨b,0,none⟩
 m:1≤D.M.n∧D.M.n≤1048576
 ma: ∃b,D.M.a=some ⟨b,0,none⟩
 s: ∀k,k<D.ps.length→(pv D.ps k).n≤1048576∧ ∃b,(pv D.ps k).a=some ⟨b,0,none⟩
theorem PlD.snoc {D:Dsk} (h:PlD D) {p:PV} (hp:p.n≤1048576) (ha: ∃b,p.a=some ⟨b,0,none⟩) (a:Option Addr) (n cap:Nat):PlD ⟨D.P,D.M,a,n,cap,D.ps++ [p]⟩:=
 ⟨h.p,h.w,h.pa,h.m,h.ma,fun k hk=>by
   by_cases e:k<D.ps.length
   · show (pv (D.ps++ [p]) k).n≤1048576∧_
     rw [pv_snoc_lt e];exact h.s k e
   · obtain rfl:k=D.ps.length:=by simp at hk;omega
     show (pv (D.ps++ [p]) D.ps.length).n≤1048576∧_
     rw [pv_snoc];exact ⟨hp,ha⟩⟩
theorem PlD.small {D:Dsk} (h:PlD D) (hn:D.n≤1048576):SmallD D:=⟨by have:=h.p;omega,h.m.2,hn,fun k hk=>(h.s k hk).1⟩
theorem PlD.addr {D:Dsk} (h:PlD D):AddrD D:=
 ⟨by obtain ⟨b,e⟩:=h.pa;exact ⟨b,0,e⟩,by obtain ⟨b,e⟩:=h.ma;exact ⟨b,0,e⟩,fun k hk=>by obtain ⟨_,b,e⟩:=h.s k hk;exact ⟨b,0,e⟩⟩
theorem ownA_addr {w:World} {B n cap:Nat} {ad:Option Addr} {xs:List Int} (h:OwnA w B ad n cap xs) (hn:1≤n): ∃b,ad=some ⟨b,0,none⟩:=by
 rcases h with ⟨_,h,_⟩ | ⟨g,e,_⟩
 · omega
 · exact ⟨g,e⟩
theorem ownA_own {w:World} {B n cap g:Nat} {xs:List Int} (h:OwnA w B (some ⟨g,0,none⟩) n cap xs):Own w g n cap xs:=by
 rcases h with ⟨e,_⟩ | ⟨g2,e,_,ho⟩
 · cases e
 · cases e;exact ho
def AnyOut (w:World) (c:Nat) (ac:Option Addr) (nc capc:Nat) (bs:List Int) (e:Ending) (w':World):Prop:=
 ∃D:Dsk,e= .returned D.val∧OwnD w' (w.heap.size+1) D∧SmallD D∧AddrD D∧Cur w' c ac nc capc bs∧w.grownBy w' (some c)
theorem icount_setR (xs:List Int) (i:Nat) (a v:Int) (h:i<xs.length):icount v (xs.set i a)+(if xs.getD i 0=v then 1 else 0)=icount v xs+(if a=v then 1 else 0):=by
 induction xs generalizing i with
 | nil=>simp at h
 | cons x xs ih=>
   match i with
   | 0=>
     simp only [List.set_cons_zero,icount_cons,List.getD_cons_zero]
     omega
   | i+1=>
     simp only [List.set_cons_succ,icount_cons,List.getD_cons_succ]
     have:=ih i (by simpa using h)
     omega
theorem icount_swapR (xs:List Int) (i k:Nat) (v:Int) (hi:i<xs.length) (hk:k<xs.length):icount v ((xs.set i (xs.getD k 0)).set k (xs.getD i 0))=icount v xs:=by
 have h1:=icount_setR xs i (xs.getD k 0) v hi
 have h2:=icount_setR (xs.set i (xs.getD k 0)) k (xs.getD i 0) v (by simpa using hk)
 rw [getD_set _ _ _ _ hi] at h2
 by_cases e:i=k
 · subst e;simp only [if_true] at h2;omega
 · rw [if_neg e] at h2;omega
theorem swap_nodup {xs:List Int} {i k:Nat} (hi:i<xs.length) (hk:k<xs.length) (h:xs.Nodup):((xs.set i (xs.getD k 0)).set k (xs.getD i 0)).Nodup:=
 nodup_of_icount (fun v=>by rw [icount_swapR xs i k v hi hk];exact icount_nodup h v)
theorem inR_set {xs:List Int} {n:Nat} (h:inR xs n=true) (k:Nat) (v:Int) (h0:0≤v) (h1:v<(n:Int)):inR (xs.set k v) n=true:=by
 unfold inR at h⊢
 rw [List.all_eq_true] at h⊢
 intro x hx
 rcases List.mem_or_eq_of_mem_set hx with h2 | h2
 · exact h x h2
 · subst h2;simp [h0,h1]
theorem row_inR (n:Nat):inR (gen n (fun i=>(i:Int))) n=true:=inR_gen (fun i hi=>⟨by omega,by omega⟩)
theorem row_nodup (n:Nat):(gen n (fun i=>(i:Int))).Nodup:=by
 unfold gen List.Nodup
 rw [List.pairwise_map]
 exact List.nodup_range.imp (fun h=>by omega)
def DrawMat (w:World) (c:Nat) (ac:Option Addr) (nc capc:Nat) (bs:List Int) (e:Ending) (w':World):Prop:=
 ∃(W H:Int) (a:Option Addr) (n cp:Nat) (xs:List Int),e= .returned (.agg #[.int .i64 W, .int .i64 H, .slice a n cp])∧matOk W H xs=true∧W≤16∧H≤16∧OwnA w' w.heap.size a n cp xs∧Cur w' c ac nc capc bs∧w.grownBy w' (some c)
theorem small_size {v1 v2:Int} (a0:0≤v1) (a1:v1<5) (b0:0≤v2) (b1:v2<5):matSize (1+v1) (1+v2)=true:=by
 have e:(1+v1)*(1+v2)≤5*5:=Int.mul_le_mul (by omega) (by omega) (by omega) (by omega)
 exact matSize_mk (by omega) (by omega) (by omega)
def SomeMat (w:World) (e:Ending) (w':World):Prop:=
 ∃(W H:Int) (a:Option Addr) (n cp:Nat) (xs:List Int),e= .returned (.tuple #[.agg #[.int .i64 W, .int .i64 H, .slice a n cp], .bool true])∧matOk W H xs=true∧W≤16∧H≤16∧OwnA w' w.heap.size a n cp xs∧Below w.heap.size w w'
theorem pow2_16 {j:Nat} (h:j≤4):(2:Int)^j≤16:=by
 match j,h with
 | 0,_=>decide
 | 1,_=>decide
 | 2,_=>decide
 | 3,_=>decide
 | 4,_=>decide
theorem bayer_some (k:Int) (w:World) (h0:0≤k) (h1:k≤4):Calls Tryz.prog 70 #[.int .i64 k] w (SomeMat w):=by
 obtain ⟨j,rfl⟩: ∃j:Nat,k=(j:Int):=⟨k.toNat,by omega⟩
 refine (spec_BayerMatrix _ _).mono ?_
 rintro e w' ⟨a,n,c,he,ho,hn,hb⟩
 rw [bayerF_yes (by omega)] at he ho
 obtain ⟨m1,m2,m3,m4⟩:=bayer_ok j (by omega)
 exact ⟨_,_,a,n,c,_,he,m1,by rw [m3];exact pow2_16 (by omega),by rw [m4];exact pow2_16 (by omega),ho,hb⟩
theorem spiral_some (k:Int) (w:World) (h0:1≤k) (h1:k≤16):Calls Tryz.prog 71 #[.int .i64 k] w (SomeMat w):=by
 obtain ⟨j,rfl⟩: ∃j:Nat,k=(j:Int):=⟨k.toNat,by omega⟩
 refine (spec_SpiralMatrix _ _).mono ?_
 rintro e w' ⟨a,n,c,he,ho,hn,hb⟩
 rw [spiralF_yes (by omega) (by omega)] at he ho
 exact ⟨_,_,a,n,c,_,he,(sp_facts j (by omega) (by omega)).2,by simp;omega,by simp;omega,ho,hb⟩
theorem row_some (v1 v2:Int) (w:World) (a0:0≤v1) (a1:v1<5) (b0:0≤v2) (b1:v2<5):Calls Tryz.prog 72 #[.int .i64 (1+v1), .int .i64 (1+v2)] w fun e w'=>
   ∃(g n cp:Nat) (xs:List Int),e= .returned (.tuple #[.agg #[.int .i64 (1+v1), .int .i64 (1+v2), .slice (some ⟨g,0,none⟩) n cp], .bool true])∧(n:Int)=(1+v1)*(1+v2)∧inR xs n=true∧xs.Nodup∧w.heap.size≤g∧Own w' g n cp xs∧Below w.heap.size w w':=by
 have hs:=small_size a0 a1 b0 b1
 obtain ⟨n,hq⟩: ∃n:Nat,(n:Int)=(1+v1)*(1+v2):=⟨_,(toNat_mulM hs).1⟩
 refine (spec_RowMatrix _ _ _).mono ?_
 rintro e w' ⟨a,m,c,he,ho,hn,hb⟩
 rw [rowF_yes hs hq] at he ho
 have hm:n=m:=by have:=ho.len;simp only [gen_len] at this;exact this
 subst hm
 obtain ⟨_,_,_,_,_,h6⟩:=matSize_bd hs
 rcases ho with ⟨_,h,_⟩ | ⟨g,h1,h2,h3⟩
 · omega
 · subst h1
   exact ⟨g,n,c,_,he,hq,row_inR n,row_nodup n,h2,h3,hb⟩
set_option maxHeartbeats 1600000 in
theorem spec_l2Draw (c:Nat) (ac:Option Addr) (nc capc:Nat) (bs:List Int) (w:World) (hc:Cur w c ac nc capc bs):
   Calls Tryz.prog 53 #[.pointer (some ⟨c,0,none⟩)] w (DrawMat w c ac nc capc bs):=by
 have hcl:=hc.lt
 go_enter Tryz.func53,Tryz.ntmps53
 go_wp2_with fail
 refine (spec_l01Below c ac nc capc bs 4 _ (hc.alloc _) (by omega) (by omega)).mono ?_
 rintro e w1 ⟨v1,rfl,a0,a1,hc1,hg1⟩
 have HC1:=Lib.hid hc1
 have G1:=Lib.hid (grown_trans (World.grownBy_alloc w (.cells #[.int .i64 0, .int .i64 0, .slice none 0 0] 31) (some c)) hg1)
 have KR1:=Lib.hid ((Blk.new w 31 #[.int .i64 0, .int .i64 0, .slice none 0 0]).grown hg1 (by intro e;have:=Option.some.inj e;omega))
 clear hc1 hg1
 by_cases k0:v1=0
 · subst k0
   go_wp2_with fail
   refine (spec_l01Below c ac nc capc bs 4 _ HC1.out (by omega) (by omega)).mono ?_
   rintro e w2 ⟨v2,rfl,b0,b1,hc2,hg2⟩
   have HC2:=Lib.hid hc2
   have G2:=Lib.hid (grown_trans G1.out hg2)
   have KR2:=Lib.hid (KR1.out.grown hg2 (by intro e;have:=Option.some.inj e;omega))
   clear hc2 hg2
   go_wp2_with fail
   refine (bayer_some _ _ (by omega) (by omega)).mono ?_
   rintro e w3 ⟨W3,H3,a3,n3,c3,xs3,rfl,mk3,mw3,mh3,ho3,hb3⟩
   have HC3:=Lib.hid (HC2.out.below' hb3)
   have G3:=Lib.hid (grown_bel G2.out hb3)
   have KR:=Lib.hid (KR2.out.below' hb3)
   have HOr:=Lib.hid ho3
   have HZ:=Lib.hid G2.out.size
   have LR:=Lib.hid KR2.out.lt
   have MK3:=Lib.hid mk3
   clear hb3 ho3 mk3
   obtain ⟨r0,r1,r2,r3⟩:=KR.out.c3
   obtain ⟨q0,q1,q2⟩:=KR.out.f3
   go_wp2_with fail
   exact bodyPost_ret (v:= .agg #[.int .i64 W3, .int .i64 H3, .slice a3 n3 c3]) (by simp [results,Tryz.results53,go_sem,r1,r2,r3,World.cell?_alloc_lt,r0]) rfl
     ⟨_,_,_,_,_,_,rfl,MK3.out,mw3,mh3,((((HOr.out.other (by have:=LR.out;simp;omega) _).other (by have:=LR.out;simp;omega) _).other (by have:=LR.out;simp;omega) _).mono HZ.out).alloc _,
       (((HC3.out.other (by simp;omega) _).other (by simp;omega) _).other (by simp;omega) _).alloc _,grown_trans (grown_setNew (grown_setNew (grown_setNew G3.out (by simp) _) (by simp) _) (by simp) _) (World.grownBy_alloc _ _ _)⟩
 · have q0 : (v1==0)=false:=by simpa using k0
   by_cases k1:v1=1
   · subst k1
     clear q0 k0
     go_wp2_with fail
     refine (spec_l01Below c ac nc capc bs 5 _ HC1.out (by omega) (by omega)).mono ?_
     rintro e w2 ⟨v2,rfl,b0,b1,hc2,hg2⟩
     have HC2:=Lib.hid hc2
     have G2:=Lib.hid (grown_trans G1.out hg2)
     have KR2:=Lib.hid (KR1.out.grown hg2 (by intro e;have:=Option.some.inj e;omega))
     clear hc2 hg2
     go_wp2_with fail
     refine (spiral_some _ _ (by omega) (by omega)).mono ?_
     rintro e w3 ⟨W3,H3,a3,n3,c3,xs3,rfl,mk3,mw3,mh3,ho3,hb3⟩
     have HC3:=Lib.hid (HC2.out.below' hb3)
     have G3:=Lib.hid (grown_bel G2.out hb3)
     have KR:=Lib.hid (KR2.out.below' hb3)
     have HOr:=Lib.hid ho3
     have HZ:=Lib.hid G2.out.size
     have LR:=Lib.hid KR2.out.lt
     have MK3:=Lib.hid mk3
     clear hb3 ho3 mk3
     obtain ⟨r0,r1,r2,r3⟩:=KR.out.c3
     obtain ⟨q0,q1,q2⟩:=KR.out.f3
     go_wp2_with fail
     exact bodyPost_ret (v:= .agg #[.int .i64 W3, .int .i64 H3, .slice a3 n3 c3]) (by simp [results,Tryz.results53,go_sem,r1,r2,r3,World.cell?_alloc_lt,r0]) rfl
       ⟨_,_,_,_,_,_,rfl,MK3.out,mw3,mh3,((((HOr.out.other (by have:=LR.out;simp;omega) _).other (by have:=LR.out;simp;omega) _).other (by have:=LR.out;simp;omega) _).mono HZ.out).alloc _,
         (((HC3.out.other (by simp;omega) _).other (by simp;omega) _).other (by simp;omega) _).alloc _,grown_trans (grown_setNew (grown_setNew (grown_setNew G3.out (by simp) _) (by simp) _) (by simp) _) (World.grownBy_alloc _ _ _)⟩
   · have q1 :(v1==1)=false:=by simpa using k1
     clear k0 k1
     go_wp2_with fail
     refine (spec_l01Below c ac nc capc bs 5 _ HC1.out (by omega) (by omega)).mono ?_
     rintro e w2 ⟨v2,rfl,b0,b1,hc2,hg2⟩
     have HC2:=Lib.hid hc2
     have G2:=Lib.hid (grown_trans G1.out hg2)
     have KR2:=Lib.hid (KR1.out.grown hg2 (by intro e;have:=Option.some.inj e;omega))
     clear hc2 hg2
     go_wp2_with fail
     refine (spec_l01Below c ac nc capc bs 5 _ HC2.out (by omega) (by omega)).mono ?_
     rintro e w3 ⟨v3,rfl,d0,d1,hc3,hg3⟩
     have HC3:=Lib.hid hc3
     have G3:=Lib.hid (grown_trans G2.out hg3)
     have KR3:=Lib.hid (KR2.out.grown hg3 (by intro e;have:=Option.some.inj e;omega))
     clear hc3 hg3
     go_wp2_with fail
     refine (row_some v2 v3 _ b0 b1 d0 d1).mono ?_
     rintro e w4 ⟨g,n,cp,xs0,rfl,hq,hi0,hd0,hg,ho,hb⟩
     have HC4:=Lib.hid (HC3.out.below' hb)
     have G4:=Lib.hid (grown_bel G3.out hb)
     have KR4:=Lib.hid (KR3.out.below' hb)
     have HO4:=Lib.hid ho
     have HI0:=Lib.hid hi0
     have HD0:=Lib.hid hd0
     have HQ:=Lib.hid hq
     have HG:Hid (w.heap.size<g):=Lib.hid (by have:=KR3.out.lt;omega)
     have hn2:1≤n∧n≤25:=by
       have e:(1+v2)*(1+v3)≤5*5:=Int.mul_le_mul (by omega) (by omega) (by omega) (by omega)
       have e2:1*1≤(1+v2)*(1+v3):=Int.mul_le_mul (by omega) (by omega) (by omega) (by omega)
       omega
     obtain ⟨hn1,hn2⟩:=hn2
     clear hb ho hi0 hd0 hq hg
     go_wp2_with fail
     go_loopw [9] (fun i wr=> ∃(j:Nat) (xs:List Int),j<n∧i= .int .i64 j∧Own wr g n cp xs∧Hid (inR xs n=true)∧Hid (xs.Nodup)∧Blk wr w4.heap.size 31 #[.int .i64 (1+v2), .int .i64 (1+v3), .slice (some ⟨g,0,none⟩) n cp]∧Blk wr w.heap.size 31 #[.int .i64 0, .int .i64 0, .slice none 0 0]∧Cur wr c ac nc capc bs∧w.grownBy wr (some c)) (fun i _=>(intOf i).toNat)
     case atStart=>exact ⟨n - 1,xs0,by omega,by go_num,HO4.out.alloc _,HI0,HD0,Blk.new _ _ _,KR4.out.alloc _,HC4.out.alloc _,grown_trans G4.out (World.grownBy_alloc _ _ _)⟩
     case round=>
       obtain ⟨j,xs,hj,rfl,ho,HI,HD,hb1,hb2,hcr,hgr⟩:=hrel
       have HO:=Lib.hid ho
       have KB:=Lib.hid hb1
       have KR:=Lib.hid hb2
       have HC:=Lib.hid hcr
       have HGr:=Lib.hid hgr
       obtain ⟨l0,o0,o1,o2⟩:=KB.out.c3
       have N3:w.heap.size<w4.heap.size:=KR4.out.lt
       have N2:g≠w4.heap.size:=by have:=HO4.out.lt;omega
       have N4:c<g:=by have:=HG.out;omega
       clear ho hb1 hb2 hcr hgr
       by_cases hlt:0<j
       · go_wp2_with fail
         refine (spec_l01Below c ac nc capc bs ((j:Int)+1) _ HC.out (by omega) (by omega)).mono ?_
         rintro e wq ⟨vk,rfl,u0,u1,hcq,hgq⟩
         obtain ⟨k,rfl⟩: ∃k:Nat,vk=(k:Int):=⟨vk.toNat,by omega⟩
         have hk:k<n:=by omega
         have HOq:=Lib.hid (HO.out.grown hgq (by intro e;have:=Option.some.inj e;omega))
         have KBq:=Lib.hid (KB.out.grown hgq (by intro e;have:=Option.some.inj e;omega))
         have KRq:=Lib.hid (KR.out.grown hgq (by intro e;have:=Option.some.inj e;omega))
         have HCq:=Lib.hid hcq
         have HGq:=Lib.hid (grown_trans HGr.out hgq)
         clear hcq hgq o0 o1 o2 l0
         obtain ⟨l0,o0,o1,o2⟩:=KBq.out.c3
         have t1:=HOq.out.cell hj
         have t2:=HOq.out.cell hk
         have t3:=HOq.out.frozen j
         have t4:=HOq.out.frozen k
         have t5:=(HOq.out.set j (xs[k]?.getD 0)).cell hk
         go_wp2_with fail
         go_region
         go_wp2_with fail
         go_roundw
         case rel=>
           have hl:=HOq.out.len
           obtain ⟨i0,i1⟩:=inR_at HI.out k (by omega)
           obtain ⟨i2,i3⟩:=inR_at HI.out j (by omega)
           exact ⟨j - 1,(xs.set j (xs[k]?.getD 0)).set k (xs[j]?.getD 0),by omega,by go_num,((HOq.out.set j _).set k _).drewN 1,inR_set (inR_set HI.out _ _ i0 i1) _ _ i2 i3,swap_nodup (by omega) (by omega) HD.out,((KBq.out.other (by simp;omega) _).other (by simp;omega) _).drew,((KRq.out.other (by have:=HG.out;simp;omega) _).other (by have:=HG.out;simp;omega) _).drew,((HCq.out.other (by simp;omega) _).other (by simp;omega) _).drew,grown_drewN (grown_setNew (grown_setNew HGq.out (by have:=HG.out;simp;omega) _) (by have:=HG.out;simp;omega) _) 1⟩
         case measure=>simp [intOf];omega
       · have hj0:j=0:=by omega
         subst hj0
         clear o0 o1 o2 l0
         obtain ⟨l0,o0,o1,o2⟩:=KB.out.c3
         obtain ⟨r0,r1,r2,r3⟩:=KR.out.c3
         obtain ⟨q0,q1,q2⟩:=KR.out.f3
         have MK:=Lib.hid (matOk_mk HO.out.len (small_size b0 b1 d0 d1) HQ.out HI.out HD.out)
         go_wp2_with fail
         exact bodyPost_ret (v:= .agg #[.int .i64 (1+v2), .int .i64 (1+v3), .slice (some ⟨g,0,none⟩) n cp]) (by simp [results,Tryz.results53,go_sem,r1,r2,r3]) rfl
           ⟨_,_,_,_,_,_,rfl,MK.out,by omega,by omega,OwnA.mk (((HO.out.other (by have:=HG.out;simp;omega) _).other (by have:=HG.out;simp;omega) _).other (by have:=HG.out;simp;omega) _) (by have:=HG.out;omega),
             ((HC.out.other (by simp;omega) _).other (by simp;omega) _).other (by simp;omega) _,grown_setNew (grown_setNew (grown_setNew HGr.out (by simp) _) (by simp) _) (by simp) _⟩
end Go.Proofs.YtanccoopbgamdaaGreatDoor
