/-
  Contracts and plain facts on which the theorem of this claim rests, text 7.
-/
import Derived.Test.YtanccoopbgamdaaGreatDoorKC1
import Derived.Test.YtanccoopbgamdaaGreatDoorKC2
import Derived.Test.YtanccoopbgamdaaGreatDoorKC6
namespace Go.Proofs.YtanccoopbgamdaaGreatDoor
open Go.RowKit
set_option linter.unusedVariables false
set_option linter.unusedSimpArgs false
structure KeepT (S:Nat→Prop) (w w':World):Prop where
 os:w'.os=w.os
 tape:w'.tape=w.tape
 output:w'.output=w.output
 size:w.heap.size≤w'.heap.size
 block: ∀i,i<w.heap.size→ ¬S i→w'.heap[i]? =w.heap[i]?
namespace KeepT
variable {S : Nat → Prop} {w w' w2 : World}
theorem refl (S:Nat→Prop) (w:World):KeepT S w w:=⟨rfl,rfl,rfl,Nat.le_refl _,fun _ _ _=>rfl⟩
theorem trans (h:KeepT S w w') (k:KeepT S w' w2):KeepT S w w2:=
 ⟨k.os.trans h.os,k.tape.trans h.tape,k.output.trans h.output,Nat.le_trans h.size k.size,fun i hi hs=>(k.block i (Nat.lt_of_lt_of_le hi h.size) hs).trans (h.block i hi hs)⟩
theorem ofBelow (h:Below w.heap.size w w'):KeepT S w w':=⟨h.os,h.tape,h.output,h.size,fun i hi _=>h.block i hi⟩
theorem ofGrown {row:Option Nat} (h:w.grownBy w' row) (hs: ∀b,row=some b→S b):KeepT S w w':=
 ⟨h.os,h.tape,h.output,h.size,fun i hi hn=>h.block i hi (fun e=>hn (hs i e.symm))⟩
theorem below {B:Nat} (h:KeepT S w w') (hS: ∀i,S i→B≤i) (hB:B≤w.heap.size):Below B w w':=
 ⟨h.os,h.tape,h.output,h.size,fun i hi=>h.block i (by omega) (fun hs=>by have:=hS i hs;omega)⟩
theorem set (h:KeepT S w w') {a:Addr} (ha:S a.block) (u:Value):KeepT S w (w'.setCell a u):=
 ⟨h.os,h.tape,h.output,by simpa [World.setCell] using h.size,fun i hi hs=>(Below.heap_setCell w' a u i (fun e=>hs (by rw [e];exact ha))).trans (h.block i hi hs)⟩
theorem call (h:KeepT S w w') (hb:Below w'.heap.size w' w2):KeepT S w w2:=h.trans (ofBelow hb)
theorem mono {S2:Nat→Prop} (h:KeepT S w w') (hs: ∀i,S i→S2 i):KeepT S2 w w':=⟨h.os,h.tape,h.output,h.size,fun i hi h2=>h.block i hi (fun h3=>h2 (hs i h3))⟩
theorem blk {g T:Nat} {cs:Array Value} (h:KeepT S w w') (hb:Blk w g T cs) (hs: ¬S g):Blk w' g T cs:=hb.of_block (h.block g hb.lt hs)
theorem ownA {B n cap:Nat} {ad:Option Addr} {xs:List Int} (h:KeepT S w w') (hb:OwnA w B ad n cap xs) (hs: ∀b,blockOf ad=some b→ ¬S b):OwnA w' B ad n cap xs:=by
 rcases hb with hb | ⟨g,h1,h2,hb⟩
 · exact .inl hb
 · subst h1
   exact .inr ⟨g,rfl,h2,hb.of_block (h.block g hb.lt (hs g rfl))⟩
theorem rd {ad:Option Addr} {xs:List Int} (h:KeepT S w w') (hr:Rd w ad xs) (hs: ∀b,blockOf ad=some b→ ¬S b):Rd w' ad xs:=fun k hk=>by
 obtain ⟨b,off,h1,h2,h3⟩:=hr k hk
 subst h1
 exact ⟨b,off,rfl,Nat.lt_of_lt_of_le h2 h.size,(World.cell?_of_block (by exact h.block b h2 (hs b rfl))).trans h3⟩
theorem rowV {g cap:Nat} {L:List PV} (h:KeepT S w w') (hr:RowV w g cap L) (hs: ¬S g):RowV w' g cap L:=hr.of_block (h.block g hr.lt hs)
theorem ownV {B n cap:Nat} {ad:Option Addr} {L:List PV} (h:KeepT S w w') (ho:OwnV w B ad n cap L) (hs: ∀i,OwnV.blocks ad L i→ ¬S i):OwnV w' B ad n cap L:=
 ⟨ho.len,by
   rcases ho.row with h0 | ⟨g,h1,h2,hr⟩
   · exact .inl h0
   · exact .inr ⟨g,h1,h2,h.rowV hr (hs g (.inl (by rw [h1];rfl)))⟩,
   fun k hk=>h.ownA (ho.ink k hk) (fun b hb=>hs b (.inr ⟨k,by rw [ho.len];exact hk,hb⟩)),ho.off,ho.apart⟩
end KeepT
theorem flatV_congr {L M:List PV} (hl:L.length=M.length) (h: ∀k,k<L.length→(pv L k).W=(pv M k).W∧(pv L k).H=(pv M k).H∧(pv L k).a=(pv M k).a∧(pv L k).n=(pv M k).n∧(pv L k).c=(pv M k).c):flatV L=flatV M:=by
 induction L generalizing M with
 | nil=>
   cases M with
   | nil=>rfl
   | cons q s=>simp at hl
 | cons p r ih=>
   cases M with
   | nil=>simp at hl
   | cons q s=>
     have h0:=h 0 (by simp)
     have hr:=ih (M:=s) (by simpa using hl) (fun k hk=>by
       have:=h (k+1) (by simpa using hk)
       simpa [pv] using this)
     simp only [pv,List.getD_cons_zero] at h0
     obtain ⟨e1,e2,e3,e4,e5⟩:=h0
     have e:p.cells=q.cells:=by unfold PV.cells;rw [e1,e2,e3,e4,e5]
     unfold flatV at hr⊢
     simp only [List.flatMap_cons]
     rw [e,hr]
theorem OwnA.otherT {w:World} {B n cap:Nat} {ad:Option Addr} {xs:List Int} (h:OwnA w B ad n cap xs) {a:Addr} (ha:blockOf ad≠some a.block) (u:Value):OwnA (w.setCell a u) B ad n cap xs:=by
 rcases h with h | ⟨g,h1,h2,h⟩
 · exact .inl h
 · subst h1
   exact .inr ⟨g,rfl,h2,h.other (fun e=>ha (by rw [e];rfl)) u⟩
namespace OwnV
variable {w w' : World} {B n cap g k : Nat} {L : List PV}
theorem snoc {ad ad':Option Addr} {cap':Nat} {p:PV} (h:OwnV w B ad n cap L) (hr:RowVA w' B ad' (n+1) cap' (L++ [p])) (hg:w.grownBy w' (blockOf ad)) (hz: ∀b,blockOf ad'=some b→blockOf ad=some b∨w.heap.size≤b)
   (hp:OwnA w' B p.a p.n p.c p.ink) (h1: ∀b,blockOf p.a=some b→b<w.heap.size∧ ¬blocks ad L b):OwnV w' B ad' (n+1) cap' (L++ [p]):=by
 have at1: ∀i,i<n→pv (L++ [p]) i=pv L i:=fun i hi=>pv_snoc_lt (by rw [h.len];exact hi)
 have at2:pv (L++ [p]) n=p:=by rw [←h.len];exact pv_snoc
 refine ⟨hr.1,hr.2,fun i hi=>?_,fun i b hi hb=>?_,fun i j b hij hj hb=>?_⟩
 · by_cases e:i<n
   · rw [at1 i e]
     exact (h.ink i e).grownS hg (fun b hb hb2=>h.off i b e hb2 hb)
   · obtain rfl:i=n:=by omega
     rw [at2];exact hp
 · intro e
   by_cases q:i<n
   · rw [at1 i q] at hb
     rcases hz b e with z | z
     · exact h.off i b q hb z
     · have:=(h.ink i q).bd b hb;omega
   · obtain rfl:i=n:=by omega
     rw [at2] at hb
     obtain ⟨b1,b2⟩:=h1 b hb
     rcases hz b e with z | z
     · exact b2 (.inl z)
     · omega
 · by_cases q:j<n
   · rw [at1 i (by omega)] at hb
     rw [at1 j q]
     exact h.apart i j b hij q hb
   · obtain rfl:j=n:=by omega
     rw [at1 i hij] at hb
     rw [at2]
     intro e
     exact (h1 b e).2 (.inr ⟨i,by rw [h.len];exact hij,hb⟩)
end OwnV
def picsV (L:List PV):List Pic:=L.map PV.pic
theorem picsV_len (L:List PV):(picsV L).length=L.length:=by simp [picsV]
theorem picsV_at (L:List PV) (k:Nat) (h:k<L.length):(picsV L).getD k noPic=(pv L k).pic:=by
 simp [picsV,pv,List.getD,List.getElem?_eq_getElem h]
theorem picsV_eq {L M:List PV} (hl:L.length=M.length) (h: ∀k,k<L.length→(pv L k).W=(pv M k).W∧(pv L k).H=(pv M k).H∧(pv L k).ink=(pv M k).ink):picsV L=picsV M:=by
 apply List.ext_getElem?
 intro k
 by_cases hk:k<L.length
 · have e:=h k hk
   unfold pv at e
   simp only [List.getD,List.getElem?_eq_getElem hk,List.getElem?_eq_getElem (show k<M.length by omega),Option.getD_some] at e
   simp only [picsV,List.getElem?_map,List.getElem?_eq_getElem hk,List.getElem?_eq_getElem (show k<M.length by omega),Option.map_some]
   obtain ⟨e1,e2,e3⟩:=e
   unfold PV.pic
   rw [e1,e2,e3]
 · rw [List.getElem?_eq_none (by simp [picsV];omega),List.getElem?_eq_none (by simp [picsV];omega)]
def BelowL (w v:World):Prop:=Hid (Below w.heap.size w v)
namespace BelowL
variable {w v v' : World}
theorem out (h:BelowL w v):Below w.heap.size w v:=Hid.out h
theorem mk (h:Below w.heap.size w v):BelowL w v:=Lib.hid h
theorem start (w:World):BelowL w w.drew:=mk (Below.refl _ _).drew
theorem alloc (h:BelowL w v) (o:Obj):BelowL w (v.alloc o):=mk (bAlloc h.out o)
theorem call (h:BelowL w v) (hq:Below v.heap.size v v'):BelowL w v':=mk (bTrans h.out hq)
theorem le (h:BelowL w v):w.heap.size≤v.heap.size:=h.out.size
theorem set (h:BelowL w v) {a:Addr} (ha:w.heap.size≤a.block) (u:Value):BelowL w (v.setCell a u):=mk (h.out.setCell ha u)
end BelowL
theorem limb2 {a b:Prop} (h:a∧b):b:=h.2
theorem limb3 {a b c:Prop} (h:a∧b∧c):c:=h.2.2
theorem limb4 {a b c d:Prop} (h:a∧b∧c∧d):d:=h.2.2.2
theorem limb5 {a b c d e:Prop} (h:a∧b∧c∧d∧e):e:=h.2.2.2.2
theorem limb6 {a b c d e f:Prop} (h:a∧b∧c∧d∧e∧f):f:=h.2.2.2.2.2
theorem limb8 {a b c d e f g h:Prop} (x:a∧b∧c∧d∧e∧f∧g∧h):h:=x.2.2.2.2.2.2.2
theorem limb7 {a b c d e f g:Prop} (h:a∧b∧c∧d∧e∧f∧g):g:=h.2.2.2.2.2.2
instance picDec:DecidableEq Pic:=fun a b=>
 if h:a.W=b.W∧a.H=b.H∧a.ink=b.ink then
   isTrue (by obtain ⟨h1,h2,h3⟩:=h;cases a;cases b;simp_all)
 else isFalse (fun e=>h (by rw [e];exact ⟨rfl,rfl,rfl⟩))
theorem flat_set2: ∀(L:List PV) (k:Nat) (a:Option Addr) (n c:Nat),k<L.length→(flatV L).set (k*3+2) (.slice a n c)=flatV (L.set k {pv L k with a:=a,n:=n,c:=c})
 | [],k,a,n,c,h=>by simp at h
 | p::r,0,a,n,c,h=>by simp [flatV,PV.cells,pv]
 | p::r,k+1,a,n,c,h=>by
   have ih:=flat_set2 r k a n c (by simpa using h)
   have e1:(k+1)*3+2=k*3+2+1+1+1:=by omega
   have e2: ∀(q:PV) (r:List PV),flatV (q::r)= .int .i64 q.W:: .int .i64 q.H:: .slice q.a q.n q.c::flatV r:=fun q r=>by simp [flatV,PV.cells]
   rw [e1,e2]
   simp only [List.set_cons_succ]
   rw [ih,e2]
   simp [pv]
theorem list_set_self (L:List PV) (k:Nat) (p q:PV):(L.set k p).set k q=L.set k q:=by
 apply List.ext_getElem?
 intro i
 simp only [List.getElem?_set,List.length_set]
 by_cases e:k=i
 · subst e;simp
 · simp [e]
theorem RowV.setPic {w:World} {g cap:Nat} {L:List PV} (h:RowV w g cap L) {k:Nat} (hk:k<L.length) (p:PV):
   RowV (((w.setCell ⟨g,k*3,none⟩ (.int .i64 p.W)).setCell ⟨g,k*3+1,none⟩ (.int .i64 p.H)).setCell ⟨g,k*3+2,none⟩ (.slice p.a p.n p.c)) g cap (L.set k p):=by
 have h1:=h.setAt hk _ (flat_set0 L k p.W hk)
 have hk1:k<(L.set k {pv L k with W:=p.W}).length:=by simpa using hk
 have h2:=h1.setAt hk1 _ (flat_set1 _ k p.H hk1)
 rw [list_set_self,pv_set_eq hk] at h2
 have hk2:k<(L.set k {{pv L k with W:=p.W} with H:=p.H}).length:=by simpa using hk
 have h3:=h2.setAt hk2 _ (flat_set2 _ k p.a p.n p.c hk2)
 rw [list_set_self,pv_set_eq hk] at h3
 have e:flatV (L.set k {{{pv L k with W:=p.W} with H:=p.H} with a:=p.a,n:=p.n,c:=p.c})=flatV (L.set k p):=flatV_congr (by simp) (fun i hi=>by
   by_cases q:k=i
   · subst q;rw [pv_set_eq hk,pv_set_eq hk];exact ⟨rfl,rfl,rfl,rfl,rfl⟩
   · rw [pv_set_ne q,pv_set_ne q];exact ⟨rfl,rfl,rfl,rfl,rfl⟩)
 obtain ⟨cur,q1,q2,q3,q4,q5⟩:=h3
 exact ⟨cur,q1,by simpa using q2,q3,q4,by rw [←e];simpa using q5⟩
namespace OwnV
variable {w w' : World} {B n cap g k : Nat} {L : List PV}
theorem setPic (h:OwnV w B (some ⟨g,0,none⟩) n cap L) (hk:k<n) (p:PV) (ho:OwnA w B p.a p.n p.c p.ink) (hp: ∀b,blockOf p.a=some b→b≠g∧ ¬blocks (some ⟨g,0,none⟩) L b):
   OwnV (((w.setCell ⟨g,k*3,none⟩ (.int .i64 p.W)).setCell ⟨g,k*3+1,none⟩ (.int .i64 p.H)).setCell ⟨g,k*3+2,none⟩ (.slice p.a p.n p.c)) B (some ⟨g,0,none⟩) n cap (L.set k p):=by
 have hkl:k<L.length:=by rw [h.len];exact hk
 have gb: ∀i b,i<n→blockOf (pv L i).a=some b→b≠g:=fun i b hi hb e=>h.off i b hi hb (by rw [e];rfl)
 refine ⟨by rw [List.length_set];exact h.len,?_,fun i hi=>?_,fun i b hi hb=>?_,fun i j b hij hj hb=>?_⟩
 · rcases h.row with ⟨h0,_⟩ | ⟨g2,h1,h2,hr⟩
   · cases h0
   · cases h1
     exact .inr ⟨g,rfl,h2,hr.setPic hkl p⟩
 · by_cases e:k=i
   · subst e
     rw [pv_set_eq hkl]
     exact ((ho.otherT (fun e=>(hp g e).1 rfl) _).otherT (fun e=>(hp g e).1 rfl) _).otherT (fun e=>(hp g e).1 rfl) _
   · rw [pv_set_ne e]
     exact (((h.ink i hi).otherT (fun q=>gb i g hi q rfl) _).otherT (fun q=>gb i g hi q rfl) _).otherT (fun q=>gb i g hi q rfl) _
 · by_cases e:k=i
   · subst e
     rw [pv_set_eq hkl] at hb
     intro q
     simp only [blockOf,Option.some.injEq] at q
     exact (hp b hb).1 q.symm
   · rw [pv_set_ne e] at hb
     exact h.off i b hi hb
 · by_cases e:k=i
   · subst e
     rw [pv_set_eq hkl] at hb
     rw [pv_set_ne (by omega)]
     intro q
     exact (hp b hb).2 (.inr ⟨j,by rw [h.len];exact hj,q⟩)
   · rw [pv_set_ne e] at hb
     by_cases e2:k=j
     · subst e2
       rw [pv_set_eq hkl]
       intro q
       exact (hp b q).2 (.inr ⟨i,by rw [h.len];omega,hb⟩)
     · rw [pv_set_ne e2]
       exact h.apart i j b hij hj hb
theorem lt (h:OwnV w B (some ⟨g,0,none⟩) n cap L):B≤g∧g<w.heap.size:=by
 rcases h.row with ⟨h0,_⟩ | ⟨g2,h1,h2,hr⟩
 · cases h0
 · cases h1;exact ⟨h2,hr.lt⟩
theorem rowOf (h:OwnV w B (some ⟨g,0,none⟩) n cap L):RowV w g cap L:=by
 rcases h.row with ⟨h0,_⟩ | ⟨g2,h1,h2,hr⟩
 · cases h0
 · cases h1;exact hr
end OwnV
theorem RdV.cells {w:World} {b off:Nat} {L:List PV} (h:RdV w (some ⟨b,off,none⟩) L) {k:Nat} (hk:k<L.length):b<w.heap.size∧w.cell? ⟨b,off+k*3,none⟩=some (.int .i64 (pv L k).W)∧w.cell? ⟨b,off+k*3+1,none⟩=some (.int .i64 (pv L k).H)∧w.cell? ⟨b,off+k*3+2,none⟩=some (.slice (pv L k).a (pv L k).n (pv L k).c):=by
 obtain ⟨b',off',h1,h2,h3,h4,h5⟩:=h.cellsAt hk
 have e:=Option.some.inj h1
 simp only [Addr.mk.injEq] at e
 obtain ⟨rfl,rfl,_⟩:=e
 exact ⟨h2,h3,h4,h5⟩
theorem RdV.addr {w:World} {ad:Option Addr} {L:List PV} (h:RdV w ad L) (h1:1≤L.length): ∃b off,ad=some ⟨b,off,none⟩∧b<w.heap.size:=by
 obtain ⟨b,off,h1,h2,_⟩:=h.cellsAt (k:=0) (by omega)
 exact ⟨b,off,h1,h2⟩
theorem picsV_lt (L:List PV) (k:Nat) (h:k<L.length):(picsV L)[k]? =some (pv L k).pic:=by
 simp [picsV,pv,List.getD,List.getElem?_eq_getElem h]
end Go.Proofs.YtanccoopbgamdaaGreatDoor
namespace Go.Proofs.YtanccoopbgamdaaGreatDoor
set_option linter.unusedVariables false
set_option linter.unusedSimpArgs false
def stackOk (L:List Pic):Bool:=decide (1≤L.length∧L.length≤4) && L.all (fun p=>picOk p.W p.H p.ink 1 && decide (p.W=(L.getD 0 noPic).W∧p.H=(L.getD 0 noPic).H))
theorem stack_bd {L:List Pic} (h:stackOk L=true):1≤L.length∧L.length≤4∧ ∀k,k<L.length→picOk (L.getD k noPic).W (L.getD k noPic).H (L.getD k noPic).ink 1=true∧(L.getD k noPic).W=(L.getD 0 noPic).W∧(L.getD k noPic).H=(L.getD 0 noPic).H:=by
 unfold stackOk at h
 simp only [Bool.and_eq_true,decide_eq_true_eq,List.all_eq_true] at h
 refine ⟨h.1.1,h.1.2,fun k hk=>?_⟩
 have hm:L.getD k noPic ∈ L:=by simp [List.getD,List.getElem?_eq_getElem hk]
 exact h.2 _ hm
theorem stack_mk {L:List Pic} (h1:1≤L.length) (h2:L.length≤4) (h: ∀k,k<L.length→picOk (L.getD k noPic).W (L.getD k noPic).H (L.getD k noPic).ink 1=true∧(L.getD k noPic).W=(L.getD 0 noPic).W∧(L.getD k noPic).H=(L.getD 0 noPic).H):stackOk L=true:=by
 unfold stackOk
 simp only [Bool.and_eq_true,decide_eq_true_eq,List.all_eq_true]
 refine ⟨⟨h1,h2⟩,fun p hp=>?_⟩
 obtain ⟨k,hk,rfl⟩:=List.mem_iff_getElem.1 hp
 have:=h k hk
 simp only [List.getD,List.getElem?_eq_getElem hk,Option.getD_some] at this⊢
 exact this
def bitsTo (b:Nat→Int):Nat→Int
 | 0=>0
 | k+1=>bitsTo b k+b k*2^k
theorem pow2_pos (k:Nat):1≤(2:Int)^k:=by
 induction k with
 | zero=>simp
 | succ k ih=>rw [Int.pow_succ];omega
theorem bitsTo_bd {b:Nat→Int} {m:Nat} (h: ∀k,k<m→b k=0∨b k=1):0≤bitsTo b m∧bitsTo b m<2^m:=by
 induction m with
 | zero=>simp [bitsTo]
 | succ m ih=>
   have a:=ih (fun k hk=>h k (by omega))
   have p:=pow2_pos m
   unfold bitsTo
   rw [Int.pow_succ]
   rcases h m (by omega) with e | e <;>rw [e] <;>omega
def markG (L:List Pic) (i:Nat):Int:=bitsTo (fun k=>(L.getD k noPic).ink.getD i 0) L.length
def cntI (f:Nat→Int) (r:Int):Nat→Int
 | 0=>0
 | n+1=>cntI f r n+(if f n=r then 1 else 0)
theorem cntI_bd (f:Nat→Int) (r:Int) (n:Nat):0≤cntI f r n∧cntI f r n≤n:=by
 induction n with
 | zero=>simp [cntI]
 | succ n ih=>unfold cntI;split <;>omega
def markCountsF (L:List Pic):List Int:=if stackOk L=true then gen (2^L.length) (fun r=>cntI (markG L) r (L.getD 0 noPic).ink.length) else []
end Go.Proofs.YtanccoopbgamdaaGreatDoor
namespace Go.Proofs.YtanccoopbgamdaaGreatDoor
open Go.RowKit
set_option linter.unusedVariables false
set_option linter.unusedSimpArgs false
theorem Blk.c7 {w:World} {g T:Nat} {a b c d e f h:Value} (k:Blk w g T #[a,b,c,d,e,f,h]):g<w.heap.size∧w.cell? ⟨g,0,none⟩=some a∧w.cell? ⟨g,1,none⟩=some b∧w.cell? ⟨g,2,none⟩=some c∧w.cell? ⟨g,3,none⟩=some d∧w.cell? ⟨g,4,none⟩=some e∧w.cell? ⟨g,5,none⟩=some f∧w.cell? ⟨g,6,none⟩=some h:=
 ⟨k.lt,by rw [k.cell];rfl,by rw [k.cell];rfl,by rw [k.cell];rfl,by rw [k.cell];rfl,by rw [k.cell];rfl,by rw [k.cell];rfl,by rw [k.cell];rfl⟩
theorem Blk.f7 {w:World} {g T:Nat} {cs:Array Value} (h:Blk w g T cs):w.frozen? ⟨g,0,none⟩=false∧w.frozen? ⟨g,1,none⟩=false∧w.frozen? ⟨g,2,none⟩=false∧w.frozen? ⟨g,3,none⟩=false∧w.frozen? ⟨g,4,none⟩=false∧w.frozen? ⟨g,5,none⟩=false∧w.frozen? ⟨g,6,none⟩=false:=
 ⟨h.frozen 0,h.frozen 1,h.frozen 2,h.frozen 3,h.frozen 4,h.frozen 5,h.frozen 6⟩
section
variable {w : World} {g T : Nat} {a b c d e f h : Value}
theorem Blk.putP (k:Blk w g T #[a,b,c,d,e,f,h]) (x y z:Value):Blk (((w.setCell ⟨g,0,none⟩ x).setCell ⟨g,1,none⟩ y).setCell ⟨g,2,none⟩ z) g T #[x,y,z,d,e,f,h]:=by
 have:=((k.set 0 x).set 1 y).set 2 z
 simpa using this
theorem Blk.putM (k:Blk w g T #[a,b,c,d,e,f,h]) (x y z:Value):Blk (((w.setCell ⟨g,3,none⟩ x).setCell ⟨g,4,none⟩ y).setCell ⟨g,5,none⟩ z) g T #[a,b,c,x,y,z,h]:=by
 have:=((k.set 3 x).set 4 y).set 5 z
 simpa using this
theorem Blk.putR (k:Blk w g T #[a,b,c,d,e,f,h]) (z:Value):Blk (w.setCell ⟨g,5,none⟩ z) g T #[a,b,c,d,e,z,h]:=by
 have:=k.set 5 z
 simpa using this
theorem Blk.putS (k:Blk w g T #[a,b,c,d,e,f,h]) (z:Value):Blk (w.setCell ⟨g,6,none⟩ z) g T #[a,b,c,d,e,f,z]:=by
 have:=k.set 6 z
 simpa using this
theorem Blk.put7 (k:Blk w g T #[a,b,c,d,e,f,h]) (a' b' c' d' e' f' h':Value):Blk (((((((w.setCell ⟨g,0,none⟩ a').setCell ⟨g,1,none⟩ b').setCell ⟨g,2,none⟩ c').setCell ⟨g,3,none⟩ d').setCell ⟨g,4,none⟩ e').setCell ⟨g,5,none⟩ f').setCell ⟨g,6,none⟩ h') g T #[a',b',c',d',e',f',h']:=by
 have:=((((((k.set 0 a').set 1 b').set 2 c').set 3 d').set 4 e').set 5 f').set 6 h'
 simpa using this
end
structure Dsk where
 P:PV
 M:PV
 a:Option Addr
 n:Nat
 c:Nat
 ps:List PV
def Dsk.val (D:Dsk):Value:= .agg #[.int .i64 D.P.W, .int .i64 D.P.H, .slice D.P.a D.P.n D.P.c, .int .i64 D.M.W, .int .i64 D.M.H, .slice D.M.a D.M.n D.M.c, .slice D.a D.n D.c]
def Dsk.cells (D:Dsk):Array Value:=#[.int .i64 D.P.W, .int .i64 D.P.H, .slice D.P.a D.P.n D.P.c, .int .i64 D.M.W, .int .i64 D.M.H, .slice D.M.a D.M.n D.M.c, .slice D.a D.n D.c]
def Dsk.dat (D:Dsk):Pic × Pic × List Pic:=(D.P.pic,D.M.pic,picsV D.ps)
structure RdD (w:World) (D:Dsk):Prop where
 pl:D.P.ink.length=D.P.n
 pr:Rd w D.P.a D.P.ink
 ml:D.M.ink.length=D.M.n
 mr:Rd w D.M.a D.M.ink
 sl:D.ps.length=D.n
 sr:RdV w D.a D.ps
theorem RdD.below {w w':World} {D:Dsk} (h:RdD w D) (hb:Below w.heap.size w w'):RdD w' D:=
 ⟨h.pl,h.pr.below hb,h.ml,h.mr.below hb,h.sl,h.sr.below hb⟩
theorem RdD.alloc {w:World} {D:Dsk} (h:RdD w D) (o:Obj):RdD (w.alloc o) D:=h.below (Joins.below_alloc1 w o)
structure SmallD (D:Dsk):Prop where
 p:D.P.n≤1048576
 m:D.M.n≤1048576
 n:D.n≤1048576
 s: ∀k,k<D.ps.length→(pv D.ps k).n≤1048576
theorem ownA_other7 {w:World} {B n cap g:Nat} {ad:Option Addr} {xs:List Int} (h:OwnA w B ad n cap xs) (hg:g<B) (a' b' c' d' e' f' h':Value):
   OwnA (((((((w.setCell ⟨g,0,none⟩ a').setCell ⟨g,1,none⟩ b').setCell ⟨g,2,none⟩ c').setCell ⟨g,3,none⟩ d').setCell ⟨g,4,none⟩ e').setCell ⟨g,5,none⟩ f').setCell ⟨g,6,none⟩ h') B ad n cap xs:=by
 have q: ∀ {u:World} (k:OwnA u B ad n cap xs) (i:Nat) (v:Value),OwnA (u.setCell ⟨g,i,none⟩ v) B ad n cap xs:=fun k i v=>k.otherT (fun e=>by have:=k.bd _ e;simp at this;omega) v
 exact q (q (q (q (q (q (q h 0 a') 1 b') 2 c') 3 d') 4 e') 5 f') 6 h'
theorem below_set7 {B g:Nat} {w w':World} (h:Below B w w') (hg:B≤g) (a' b' c' d' e' f' h':Value):
   Below B w (((((((w'.setCell ⟨g,0,none⟩ a').setCell ⟨g,1,none⟩ b').setCell ⟨g,2,none⟩ c').setCell ⟨g,3,none⟩ d').setCell ⟨g,4,none⟩ e').setCell ⟨g,5,none⟩ f').setCell ⟨g,6,none⟩ h'):=
 ((((((h.setCell hg _).setCell hg _).setCell hg _).setCell hg _).setCell hg _).setCell hg _).setCell hg _
structure OwnD (w:World) (B:Nat) (D:Dsk):Prop where
 p:OwnA w B D.P.a D.P.n D.P.c D.P.ink
 m:OwnA w B D.M.a D.M.n D.M.c D.M.ink
 s:OwnV w B D.a D.n D.c D.ps
 pm: ∀b,blockOf D.P.a=some b→blockOf D.M.a≠some b
 ps: ∀b,OwnV.blocks D.a D.ps b→blockOf D.P.a≠some b
 ms: ∀b,OwnV.blocks D.a D.ps b→blockOf D.M.a≠some b
theorem OwnD.rd {w:World} {B:Nat} {D:Dsk} (h:OwnD w B D):RdD w D:=
 ⟨h.p.len,h.p.rd,h.m.len,h.m.rd,h.s.len,h.s.rd⟩
theorem OwnD.below {w w':World} {B:Nat} {D:Dsk} (h:OwnD w B D) (hb:Below w.heap.size w w'):OwnD w' B D:=
 ⟨h.p.below' hb,h.m.below' hb,h.s.below hb,h.pm,h.ps,h.ms⟩
theorem OwnD.mono {w:World} {B B':Nat} {D:Dsk} (h:OwnD w B D) (hB:B'≤B):OwnD w B' D:=
 ⟨h.p.mono hB,h.m.mono hB,h.s.mono hB,h.pm,h.ps,h.ms⟩
theorem OwnD.alloc {w:World} {B:Nat} {D:Dsk} (h:OwnD w B D) (o:Obj):OwnD (w.alloc o) B D:=h.below (Joins.below_alloc1 w o)
theorem OwnV.other {w:World} {B n cap:Nat} {ad:Option Addr} {L:List PV} (h:OwnV w B ad n cap L) {a:Addr} (ha:a.block<B) (u:Value):OwnV (w.setCell a u) B ad n cap L:=by
 have hk:KeepT (fun i=>i=a.block) w (w.setCell a u):=KeepT.set (S:=fun i=>i=a.block) (KeepT.refl _ w) rfl u
 exact hk.ownV h (fun i hb e=>by have:=h.bd i hb;omega)
theorem OwnD.other {w:World} {B:Nat} {D:Dsk} (h:OwnD w B D) {a:Addr} (ha:a.block<B) (u:Value):OwnD (w.setCell a u) B D:=
 ⟨h.p.otherT (fun e=>by have:=h.p.bd _ e;omega) u,h.m.otherT (fun e=>by have:=h.m.bd _ e;omega) u,h.s.other ha u,h.pm,h.ps,h.ms⟩
def Dsk.blocks (D:Dsk) (b:Nat):Prop:=blockOf D.P.a=some b∨blockOf D.M.a=some b∨OwnV.blocks D.a D.ps b
theorem OwnD.bd {w:World} {B:Nat} {D:Dsk} (h:OwnD w B D): ∀b,D.blocks b→B≤b∧b<w.heap.size:=by
 intro b hb
 rcases hb with hb | hb | hb
 · exact h.p.bd b hb
 · exact h.m.bd b hb
 · exact h.s.bd b hb
def deskOk (d:Pic × Pic × List Pic):Bool:=
 picOk d.1.W d.1.H d.1.ink 255 && matOk d.2.1.W d.2.1.H d.2.1.ink && (decide (d.2.2.length=0) || (stackOk d.2.2 && decide ((d.2.2.getD 0 noPic).W=d.1.W∧(d.2.2.getD 0 noPic).H=d.1.H)))
theorem deskOk_p {d:Pic × Pic × List Pic} (h: ¬picOk d.1.W d.1.H d.1.ink 255=true):deskOk d=false:=by
 unfold deskOk
 simp [h]
theorem deskOk_m {d:Pic × Pic × List Pic} (h: ¬matOk d.2.1.W d.2.1.H d.2.1.ink=true):deskOk d=false:=by
 unfold deskOk
 simp [h]
theorem deskOk_0 {d:Pic × Pic × List Pic} (h1:picOk d.1.W d.1.H d.1.ink 255=true) (h2:matOk d.2.1.W d.2.1.H d.2.1.ink=true) (h3:d.2.2.length=0):deskOk d=true:=by
 unfold deskOk
 simp [h1,h2,h3]
theorem deskOk_s {d:Pic × Pic × List Pic} (h1:picOk d.1.W d.1.H d.1.ink 255=true) (h2:matOk d.2.1.W d.2.1.H d.2.1.ink=true) (h3: ¬d.2.2.length=0):
   deskOk d=(stackOk d.2.2 && decide ((d.2.2.getD 0 noPic).W=d.1.W∧(d.2.2.getD 0 noPic).H=d.1.H)):=by
 unfold deskOk
 simp [h1,h2,h3]
end Go.Proofs.YtanccoopbgamdaaGreatDoor
