/-
  Contracts and plain facts on which the theorem of this claim rests, text 5.
-/
import Derived.Test.YtmikajnpgcabfaaGreatDoorRows
import Derived.Test.YtmikajnpgcabfaaGreatDoorSC1
import Derived.Test.YtmikajnpgcabfaaGreatDoorSC4
namespace Go.Proofs.YtmikajnpgcabfaaGreatDoor
open Go.RowKit
set_option linter.unusedVariables false
set_option linter.unusedSimpArgs false
def RowT (w:World) (T sz g n cap:Nat) (xs:List Int):Prop:=
 xs.length=n*sz∧ ∃cur,w.heap[g]?=some (.cells cur T (0,0))∧n≤cap∧cap≤maxLen∧cur.size=cap*sz∧cur.toList.take (n*sz)=xs.map (Value.int .i64)
namespace RowT
variable {w w' : World} {T sz g n cap : Nat} {xs : List Int}
theorem len (h:RowT w T sz g n cap xs):xs.length=n*sz:=h.1
theorem lt (h:RowT w T sz g n cap xs):g<w.heap.size:=by
 obtain ⟨_,cur,hg,_⟩:=h
 exact (Array.getElem?_eq_some_iff.1 hg).1
theorem cell (h:RowT w T sz g n cap xs) {j:Nat} (hj:j<n*sz):w.cell? ⟨g,j,none⟩=some (.int .i64 (xs.getD j 0)):=by
 obtain ⟨hl,cur,hg,_,_,_,ht⟩:=h
 rw [cell_of_row w g j cur T (0,0) hg]
 have h2:(cur.toList.take (n*sz))[j]?=(xs.map (Value.int .i64))[j]?:=by rw [ht]
 rw [List.getElem?_take,if_pos hj] at h2
 simp only [Array.getElem?_toList] at h2
 rw [h2]
 simp [List.getD,List.getElem?_eq_getElem (show j<xs.length by omega)]
theorem frozen (h:RowT w T sz g n cap xs) (j:Nat):w.frozen? ⟨g,j,none⟩=false:=by
 obtain ⟨_,cur,hg,_⟩:=h
 exact frozen_of_row w g j cur T hg
theorem set (h:RowT w T sz g n cap xs) (j:Nat) (v:Int):RowT (w.setCell ⟨g,j,none⟩ (.int .i64 v)) T sz g n cap (xs.set j v):=by
 obtain ⟨hl,cur,hg,h1,h2,h3,ht⟩:=h
 refine ⟨by simpa using hl,cur.setIfInBounds j (.int .i64 v),heap_setCell_same w g j cur _ _ hg,h1,h2,by simpa using h3,?_⟩
 rw [Array.toList_setIfInBounds,List.map_set,←ht,List.take_set]
theorem of_block (h:RowT w T sz g n cap xs) (hb:w'.heap[g]?=w.heap[g]?):RowT w' T sz g n cap xs:=by
 obtain ⟨hl,cur,hg,r⟩:=h
 exact ⟨hl,cur,hb.trans hg,r⟩
theorem below {B:Nat} (h:RowT w T sz g n cap xs) (hb:Below B w w') (hg:g<B):RowT w' T sz g n cap xs:=h.of_block (hb.block g hg)
theorem grown {row:Option Nat} (h:RowT w T sz g n cap xs) (hb:w.grownBy w' row) (hg:some g≠row):RowT w' T sz g n cap xs:=h.of_block (hb.block g h.lt hg)
theorem alloc (h:RowT w T sz g n cap xs) (o:Obj):RowT (w.alloc o) T sz g n cap xs:=h.of_block (Below.heap_alloc w o g h.lt)
theorem drewN (h:RowT w T sz g n cap xs) (m:Nat):RowT (w.drewN m) T sz g n cap xs:=h.of_block rfl
theorem other (h:RowT w T sz g n cap xs) {a:Addr} (ha:a.block≠g) (u:Value):RowT (w.setCell a u) T sz g n cap xs:=h.of_block (Below.heap_setCell w a u g (by omega))
theorem rd (h:RowT w T sz g n cap xs):Rd w (some ⟨g,0,none⟩) xs:=fun k hk=>⟨g,0,rfl,h.lt,by rw [Nat.zero_add];exact h.cell (by have:=h.len;omega)⟩
end RowT
def RowA (w:World) (T sz B:Nat) (ad:Option Addr) (n cap:Nat) (xs:List Int):Prop:=
 (ad=none∧n=0∧cap=0∧xs=[])∨ ∃g,ad=some ⟨g,0,none⟩∧B≤g∧RowT w T sz g n cap xs
namespace RowA
variable {w w' : World} {T sz B n cap : Nat} {ad : Option Addr} {xs : List Int}
theorem mk {g:Nat} (h:RowT w T sz g n cap xs) (hB:B≤g):RowA w T sz B (some ⟨g,0,none⟩) n cap xs:= .inr ⟨g,rfl,hB,h⟩
theorem none (w:World) (T sz B:Nat):RowA w T sz B none 0 0 []:= .inl ⟨rfl,rfl,rfl,rfl⟩
theorem len (h:RowA w T sz B ad n cap xs):xs.length=n*sz:=by
 rcases h with ⟨_,rfl,_,rfl⟩ | ⟨g,_,_,h⟩
 · simp
 · exact h.len
theorem rd (h:RowA w T sz B ad n cap xs):Rd w ad xs:=by
 rcases h with ⟨_,_,_,rfl⟩ | ⟨g,rfl,_,h⟩
 · exact Rd.nil _ _
 · exact h.rd
theorem below {B':Nat} (h:RowA w T sz B ad n cap xs) (hb:Below B' w w') (hg:w.heap.size≤B'):RowA w' T sz B ad n cap xs:=by
 rcases h with h | ⟨g,h1,h2,h⟩
 · exact .inl h
 · exact .inr ⟨g,h1,h2,h.below hb (by have:=h.lt;omega)⟩
theorem below' (h:RowA w T sz B ad n cap xs) (hb:Below w.heap.size w w'):RowA w' T sz B ad n cap xs:=h.below hb (Nat.le_refl _)
theorem grown {row:Option Nat} (h:RowA w T sz B ad n cap xs) (hb:w.grownBy w' row) (hg: ∀k,row=some k→k<B):RowA w' T sz B ad n cap xs:=by
 rcases h with h | ⟨g,h1,h2,h⟩
 · exact .inl h
 · exact .inr ⟨g,h1,h2,h.grown hb (fun e=>by have:=hg g e.symm;omega)⟩
theorem grown2 {row:Option Nat} (h:RowA w T sz B ad n cap xs) (hb:w.grownBy w' row) (hg: ∀k,row=some k→w.heap.size≤k∨blockOf ad≠some k):RowA w' T sz B ad n cap xs:=by
 rcases h with h | ⟨g,h1,h2,h⟩
 · exact .inl h
 · refine .inr ⟨g,h1,h2,h.grown hb (fun e=>?_)⟩
   have hl:=h.lt
   rcases hg g e.symm with h3 | h3
   · omega
   · subst h1;simp [blockOf] at h3
theorem grownS {o:Option Addr} (h:RowA w T sz B ad n cap xs) (hb:w.grownBy w' (blockOf o)) (hs: ∀b,blockOf o=some b→blockOf ad≠some b):RowA w' T sz B ad n cap xs:=
 h.grown2 hb (fun k hk=> .inr (hs k hk))
theorem drewN (h:RowA w T sz B ad n cap xs) (m:Nat):RowA (w.drewN m) T sz B ad n cap xs:=by
 rcases h with h | ⟨g,h1,h2,h⟩
 · exact .inl h
 · exact .inr ⟨g,h1,h2,h.drewN m⟩
theorem drew (h:RowA w T sz B ad n cap xs):RowA w.drew T sz B ad n cap xs:=h.drewN 1
theorem alloc (h:RowA w T sz B ad n cap xs) (o:Obj):RowA (w.alloc o) T sz B ad n cap xs:=h.below (Joins.below_alloc1 w o) (Nat.le_refl _)
theorem other (h:RowA w T sz B ad n cap xs) {a:Addr} (ha:a.block<B) (u:Value):RowA (w.setCell a u) T sz B ad n cap xs:=by
 rcases h with h | ⟨g,h1,h2,h⟩
 · exact .inl h
 · exact .inr ⟨g,h1,h2,h.other (by omega) u⟩
theorem bd (h:RowA w T sz B ad n cap xs): ∀b,blockOf ad=some b→B≤b∧b<w.heap.size:=by
 intro b hb
 rcases h with ⟨rfl,_⟩ | ⟨g,rfl,h2,h⟩
 · simp [blockOf] at hb
 · simp only [blockOf,Option.some.injEq] at hb
   subst hb
   exact ⟨h2,h.lt⟩
theorem mono {B':Nat} (h:RowA w T sz B ad n cap xs) (hB:B'≤B):RowA w T sz B' ad n cap xs:=by
 rcases h with h | ⟨g,h1,h2,h⟩
 · exact .inl h
 · exact .inr ⟨g,h1,by omega,h⟩
theorem toRow (h:RowA w T sz B ad n cap xs):w.ownsRow B T sz (.slice ad n cap) n (xs.map (Value.int .i64)):=by
 rcases h with ⟨rfl,rfl,rfl,rfl⟩ | ⟨g,rfl,hB,hl,cur,hg,h1,h2,h3,h4⟩
 · exact ⟨by simp, .inl ⟨rfl,rfl⟩⟩
 · exact ⟨by simp [hl], .inr ⟨g,cap,cur,rfl,hB,hg,h1,h2,by omega,h4⟩⟩
theorem ofRow {v:Value} (h:w.ownsRow B T sz v n (xs.map (Value.int .i64))): ∃ad cap,v= .slice ad n cap∧RowA w T sz B ad n cap xs:=by
 obtain ⟨hl,h⟩:=h
 simp at hl
 rcases h with ⟨rfl,rfl⟩ | ⟨g,cap,cur,rfl,hB,hg,h1,h2,h3,h4⟩
 · obtain rfl:xs=[]:=List.eq_nil_of_length_eq_zero (by simpa using hl)
   exact ⟨Option.none,0,rfl,RowA.none _ _ _ _⟩
 · exact ⟨_,cap,rfl, .inr ⟨g,rfl,hB,hl,cur,hg,h1,h2,by omega,h4⟩⟩
end RowA
theorem blockOf_ownT (ad:Option Addr) (n cap:Nat):(Value.slice ad n cap).ownBlock=blockOf ad:=by cases ad <;>rfl
def zeros (sz:Nat):Value:= .agg (List.replicate sz (Value.int .i64 0)).toArray
theorem madeT (sz n:Nat) (hs:1≤sz):(madeCells (List.replicate sz (Value.int .i64 0)).toArray n).toList=(List.replicate n 0).map (Value.int .i64):=by
 apply List.ext_getElem?
 intro j
 by_cases hj:j<n
 · have h2:j % sz<sz:=Nat.mod_lt _ (by omega)
   simp [madeCells,hj,h2]
 · simp [madeCells,hj]
theorem wp_makeT {P:Program} (w:World) {ops:Array Oper} {rest:List Oper} {o:Oper} {a:Act} {Q:Exit→Act→World→Prop}
   (hg:o.guard=none) (t e sz bytes:Nat) (ht:P.underlying t=some (.slice e)) (hi0:(P.info? e).map (fun i=>(i.zero,i.size,i.bytes))=some (some (zeros sz),sz,bytes)) (hsz:1≤sz) (hby:bytes≤4096)
   (l c:Operand) (hop:o.op=Op.makeSlice t l c) (kl kc:IntKind) (L C:Int) (n:Nat) (hl:a.eval l= .int kl L) (hc:a.eval c= .int kc C) (hL:L=(n:Int)) (hC:C=(n:Int)) (hn:n≤1048576)
   (hK: ∀w',RowT w' e sz w.heap.size n n (List.replicate (n*sz) 0)→Below w.heap.size w w'→wpList P ops Q rest (a.put o.dst (.slice (some ⟨w.heap.size,0,none⟩) n n)) w'):
   wpList P ops Q (o::rest) a w:=by
 obtain ⟨i,hi,hz0,hz1,hz2⟩:=info_parts hi0
 refine wpList_plain hg fun K hK'=>?_
 subst hL
 subst hC
 have m1:(bytes:Int)*(n:Int)≤4096*1048576:=Int.mul_le_mul (by omega) (by omega) (by omega) (by omega)
 have hr:=run_make (P:=P) w t e i (zeros sz) ht hi hz0 kl kc n n (by omega) (Int.le_refl _) (by rw [hz2];omega) (by omega)
 simp only [Int.toNat_natCast,hz1] at hr
 have hm:RowT (w.alloc (.cells (madeCells (zeros sz).cells (n*sz)) e)) e sz w.heap.size n n (List.replicate (n*sz) 0):=by
   refine ⟨by simp,_,heap_alloc_new w _,Nat.le_refl _,by unfold maxLen;omega,size_madeCells _ _,?_⟩
   rw [List.take_of_length_le (by simp [size_madeCells])]
   exact madeT sz (n*sz) hsz
 unfold Oper.wp
 simp [execOp,hop,hl,hc,hr,Result.andThen]
 exact hK' _ _ (hK _ hm (Joins.below_alloc1 _ _))
theorem rd_part {w:World} {ad:Option Addr} {ks:List Prt} (h:Rd w ad (flat ks)) {k:Nat} (hk:k<ks.length):
   ∃b off,ad=some ⟨b,off,none⟩∧b<w.heap.size∧w.cell? ⟨b,off+k*3,none⟩=some (.int .i64 (prt ks k).dx)∧w.cell? ⟨b,off+k*3+1,none⟩=some (.int .i64 (prt ks k).dy)∧w.cell? ⟨b,off+k*3+2,none⟩=some (.int .i64 (prt ks k).wt):=by
 have hl:=flat_len ks
 obtain ⟨b,off,h1,h2,h3⟩:=h.at (by omega)
 obtain ⟨e1,e2,e3⟩:=flat_at ks k hk
 refine ⟨b,off,h1,h2,?_,?_,?_⟩
 · rw [←e1,Nat.mul_comm k 3];exact h3 _ (by omega)
 · rw [←e2,Nat.mul_comm k 3,Nat.add_assoc];exact h3 _ (by omega)
 · rw [←e3,Nat.mul_comm k 3,Nat.add_assoc];exact h3 _ (by omega)
theorem infoCell:(Tryz.prog.info? 191).map (fun i=>(i.zero,i.size,i.bytes))=some (some (zeros 2),2,16):=by kernel_rfl
def RowVA (w:World) (B:Nat) (ad:Option Addr) (n cap:Nat) (L:List PV):Prop:=
 L.length=n∧((ad=none∧n=0∧cap=0)∨ ∃g,ad=some ⟨g,0,none⟩∧B≤g∧RowV w g cap L)
namespace RowVA
variable {w w' : World} {B n cap : Nat} {ad : Option Addr} {L : List PV}
theorem nil (w:World) (B:Nat):RowVA w B none 0 0 []:=⟨rfl, .inl ⟨rfl,rfl,rfl⟩⟩
theorem mk {g:Nat} (h:RowV w g cap L) (hB:B≤g) (hl:L.length=n):RowVA w B (some ⟨g,0,none⟩) n cap L:=⟨hl, .inr ⟨g,rfl,hB,h⟩⟩
theorem below (h:RowVA w B ad n cap L) (hb:Below w.heap.size w w'):RowVA w' B ad n cap L:=
 ⟨h.1,by
   rcases h.2 with h0 | ⟨g,h1,h2,hr⟩
   · exact .inl h0
   · exact .inr ⟨g,h1,h2,hr.below hb⟩⟩
theorem alloc (h:RowVA w B ad n cap L) (o:Obj):RowVA (w.alloc o) B ad n cap L:=h.below (Joins.below_alloc1 w o)
theorem bd (h:RowVA w B ad n cap L): ∀b,blockOf ad=some b→B≤b∧b<w.heap.size:=by
 intro b hb
 rcases h.2 with ⟨h0,_⟩ | ⟨g,h1,h2,hr⟩
 · rw [h0] at hb;cases hb
 · rw [h1] at hb
   simp only [blockOf,Option.some.injEq] at hb
   subst hb
   exact ⟨h2,hr.lt⟩
theorem toRow (h:RowVA w B ad n cap L):w.ownsRow B 27 3 (.slice ad n cap) n (flatV L):=by
 obtain ⟨hl,h⟩:=h
 refine ⟨by rw [flatV_len,hl],?_⟩
 rcases h with ⟨rfl,rfl,rfl⟩ | ⟨g,rfl,hB,cur,hg,h1,h2,h3,h4⟩
 · exact .inl ⟨rfl,rfl⟩
 · exact .inr ⟨g,cap,cur,rfl,hB,hg,by omega,h2,by omega,by rw [←hl];exact h4⟩
theorem ofRow {v:Value} (hl:L.length=n) (h:w.ownsRow B 27 3 v n (flatV L)): ∃ad cap,v= .slice ad n cap∧RowVA w B ad n cap L:=by
 obtain ⟨_,h⟩:=h
 rcases h with ⟨rfl,rfl⟩ | ⟨g,cap,cur,rfl,hB,hg,h1,h2,h3,h4⟩
 · exact ⟨Option.none,0,rfl,hl, .inl ⟨rfl,rfl,rfl⟩⟩
 · exact ⟨_,cap,rfl,hl, .inr ⟨g,rfl,hB,cur,hg,by omega,h2,by omega,by rw [hl];exact h4⟩⟩
end RowVA
structure KeepT (S:Nat→Prop) (w w':World):Prop where
 os:w'.os=w.os
 tape:w'.tape=w.tape
 output:w'.output=w.output
 size:w.heap.size≤w'.heap.size
 block: ∀i,i<w.heap.size→ ¬S i→w'.heap[i]?=w.heap[i]?
namespace KeepT
variable {S : Nat → Prop} {w w' w2 : World}
theorem refl (S:Nat→Prop) (w:World):KeepT S w w:=⟨rfl,rfl,rfl,Nat.le_refl _,fun _ _ _=>rfl⟩
theorem trans (h:KeepT S w w') (k:KeepT S w' w2):KeepT S w w2:=
 ⟨k.os.trans h.os,k.tape.trans h.tape,k.output.trans h.output,Nat.le_trans h.size k.size,fun i hi hs=>(k.block i (Nat.lt_of_lt_of_le hi h.size) hs).trans (h.block i hi hs)⟩
theorem ofBelow (h:Below w.heap.size w w'):KeepT S w w':=⟨h.os,h.tape,h.output,h.size,fun i hi _=>h.block i hi⟩
theorem ofGrown {row:Option Nat} (h:w.grownBy w' row) (hs: ∀b,row=some b→S b):KeepT S w w':=
 ⟨h.os,h.tape,h.output,h.size,fun i hi hn=>h.block i hi (fun e=>hn (hs i e.symm))⟩
theorem below {B:Nat} (h:KeepT S w w') (hS: ∀i,S i→B≤i) (hB:B≤w.heap.size):Below B w w':=
 ⟨h.os,h.tape,h.output,h.size,fun i hi=>h.block i (by omega) (fun hs=>by have:=hS i hs;omega)⟩
theorem set (h:KeepT S w w') {a:Addr} (ha:S a.block) (u:Value):KeepT S w (w'.setCell a u):=
 ⟨h.os,h.tape,h.output,by simpa [World.setCell] using h.size,fun i hi hs=>(Below.heap_setCell w' a u i (fun e=>hs (by rw [e];exact ha))).trans (h.block i hi hs)⟩
theorem call (h:KeepT S w w') (hb:Below w'.heap.size w' w2):KeepT S w w2:=h.trans (ofBelow hb)
theorem mono {S2:Nat→Prop} (h:KeepT S w w') (hs: ∀i,S i→S2 i):KeepT S2 w w':=⟨h.os,h.tape,h.output,h.size,fun i hi h2=>h.block i hi (fun h3=>h2 (hs i h3))⟩
theorem blk {g T:Nat} {cs:Array Value} (h:KeepT S w w') (hb:Blk w g T cs) (hs: ¬S g):Blk w' g T cs:=hb.of_block (h.block g hb.lt hs)
theorem ownA {B n cap:Nat} {ad:Option Addr} {xs:List Int} (h:KeepT S w w') (hb:OwnA w B ad n cap xs) (hs: ∀b,blockOf ad=some b→ ¬S b):OwnA w' B ad n cap xs:=by
 rcases hb with hb | ⟨g,h1,h2,hb⟩
 · exact .inl hb
 · subst h1
   exact .inr ⟨g,rfl,h2,hb.of_block (h.block g hb.lt (hs g rfl))⟩
theorem rd {ad:Option Addr} {xs:List Int} (h:KeepT S w w') (hr:Rd w ad xs) (hs: ∀b,blockOf ad=some b→ ¬S b):Rd w' ad xs:=fun k hk=>by
 obtain ⟨b,off,h1,h2,h3⟩:=hr k hk
 subst h1
 exact ⟨b,off,rfl,Nat.lt_of_lt_of_le h2 h.size,(World.cell?_of_block (by exact h.block b h2 (hs b rfl))).trans h3⟩
theorem rowV {g cap:Nat} {L:List PV} (h:KeepT S w w') (hr:RowV w g cap L) (hs: ¬S g):RowV w' g cap L:=hr.of_block (h.block g hr.lt hs)
theorem ownV {B n cap:Nat} {ad:Option Addr} {L:List PV} (h:KeepT S w w') (ho:OwnV w B ad n cap L) (hs: ∀i,OwnV.blocks ad L i→ ¬S i):OwnV w' B ad n cap L:=
 ⟨ho.len,by
   rcases ho.row with h0 | ⟨g,h1,h2,hr⟩
   · exact .inl h0
   · exact .inr ⟨g,h1,h2,h.rowV hr (hs g (.inl (by rw [h1];rfl)))⟩,
   fun k hk=>h.ownA (ho.ink k hk) (fun b hb=>hs b (.inr ⟨k,by rw [ho.len];exact hk,hb⟩)),ho.off,ho.apart⟩
end KeepT
theorem flatV_congr {L M:List PV} (hl:L.length=M.length) (h: ∀k,k<L.length→(pv L k).W=(pv M k).W∧(pv L k).H=(pv M k).H∧(pv L k).a=(pv M k).a∧(pv L k).n=(pv M k).n∧(pv L k).c=(pv M k).c):flatV L=flatV M:=by
 induction L generalizing M with
 | nil=>
   cases M with
   | nil=>rfl
   | cons q s=>simp at hl
 | cons p r ih=>
   cases M with
   | nil=>simp at hl
   | cons q s=>
     have h0:=h 0 (by simp)
     have hr:=ih (M:=s) (by simpa using hl) (fun k hk=>by
       have:=h (k+1) (by simpa using hk)
       simpa [pv] using this)
     simp only [pv,List.getD_cons_zero] at h0
     obtain ⟨e1,e2,e3,e4,e5⟩:=h0
     have e:p.cells=q.cells:=by unfold PV.cells;rw [e1,e2,e3,e4,e5]
     unfold flatV at hr⊢
     simp only [List.flatMap_cons]
     rw [e,hr]
theorem OwnA.otherT {w:World} {B n cap:Nat} {ad:Option Addr} {xs:List Int} (h:OwnA w B ad n cap xs) {a:Addr} (ha:blockOf ad≠some a.block) (u:Value):OwnA (w.setCell a u) B ad n cap xs:=by
 rcases h with h | ⟨g,h1,h2,h⟩
 · exact .inl h
 · subst h1
   exact .inr ⟨g,rfl,h2,h.other (fun e=>ha (by rw [e];rfl)) u⟩
namespace OwnV
variable {w w' : World} {B n cap g k : Nat} {L : List PV}
theorem snoc {ad ad':Option Addr} {cap':Nat} {p:PV} (h:OwnV w B ad n cap L) (hr:RowVA w' B ad' (n+1) cap' (L++ [p])) (hg:w.grownBy w' (blockOf ad)) (hz: ∀b,blockOf ad'=some b→blockOf ad=some b∨w.heap.size≤b)
   (hp:OwnA w' B p.a p.n p.c p.ink) (h1: ∀b,blockOf p.a=some b→b<w.heap.size∧ ¬blocks ad L b):OwnV w' B ad' (n+1) cap' (L++ [p]):=by
 have at1: ∀i,i<n→pv (L++ [p]) i=pv L i:=fun i hi=>pv_snoc_lt (by rw [h.len];exact hi)
 have at2:pv (L++ [p]) n=p:=by rw [←h.len];exact pv_snoc
 refine ⟨hr.1,hr.2,fun i hi=>?_,fun i b hi hb=>?_,fun i j b hij hj hb=>?_⟩
 · by_cases e:i<n
   · rw [at1 i e]
     exact (h.ink i e).grownS hg (fun b hb hb2=>h.off i b e hb2 hb)
   · obtain rfl:i=n:=by omega
     rw [at2];exact hp
 · intro e
   by_cases q:i<n
   · rw [at1 i q] at hb
     rcases hz b e with z | z
     · exact h.off i b q hb z
     · have:=(h.ink i q).bd b hb;omega
   · obtain rfl:i=n:=by omega
     rw [at2] at hb
     obtain ⟨b1,b2⟩:=h1 b hb
     rcases hz b e with z | z
     · exact b2 (.inl z)
     · omega
 · by_cases q:j<n
   · rw [at1 i (by omega)] at hb
     rw [at1 j q]
     exact h.apart i j b hij q hb
   · obtain rfl:j=n:=by omega
     rw [at1 i hij] at hb
     rw [at2]
     intro e
     exact (h1 b e).2 (.inr ⟨i,by rw [h.len];exact hij,hb⟩)
end OwnV
def picsV (L:List PV):List Pic:=L.map PV.pic
theorem picsV_len (L:List PV):(picsV L).length=L.length:=by simp [picsV]
theorem picsV_at (L:List PV) (k:Nat) (h:k<L.length):(picsV L).getD k noPic=(pv L k).pic:=by
 simp [picsV,pv,List.getD,List.getElem?_eq_getElem h]
theorem picsV_eq {L M:List PV} (hl:L.length=M.length) (h: ∀k,k<L.length→(pv L k).W=(pv M k).W∧(pv L k).H=(pv M k).H∧(pv L k).ink=(pv M k).ink):picsV L=picsV M:=by
 apply List.ext_getElem?
 intro k
 by_cases hk:k<L.length
 · have e:=h k hk
   unfold pv at e
   simp only [List.getD,List.getElem?_eq_getElem hk,List.getElem?_eq_getElem (show k<M.length by omega),Option.getD_some] at e
   simp only [picsV,List.getElem?_map,List.getElem?_eq_getElem hk,List.getElem?_eq_getElem (show k<M.length by omega),Option.map_some]
   obtain ⟨e1,e2,e3⟩:=e
   unfold PV.pic
   rw [e1,e2,e3]
 · rw [List.getElem?_eq_none (by simp [picsV];omega),List.getElem?_eq_none (by simp [picsV];omega)]
def BelowL (w v:World):Prop:=Hid (Below w.heap.size w v)
namespace BelowL
variable {w v v' : World}
theorem out (h:BelowL w v):Below w.heap.size w v:=Hid.out h
theorem mk (h:Below w.heap.size w v):BelowL w v:=Lib.hid h
theorem start (w:World):BelowL w w.drew:=mk (Below.refl _ _).drew
theorem alloc (h:BelowL w v) (o:Obj):BelowL w (v.alloc o):=mk (bAlloc h.out o)
theorem call (h:BelowL w v) (hq:Below v.heap.size v v'):BelowL w v':=mk (bTrans h.out hq)
theorem le (h:BelowL w v):w.heap.size≤v.heap.size:=h.out.size
theorem set (h:BelowL w v) {a:Addr} (ha:w.heap.size≤a.block) (u:Value):BelowL w (v.setCell a u):=mk (h.out.setCell ha u)
end BelowL
theorem limb2 {a b:Prop} (h:a∧b):b:=h.2
theorem limb3 {a b c:Prop} (h:a∧b∧c):c:=h.2.2
theorem limb4 {a b c d:Prop} (h:a∧b∧c∧d):d:=h.2.2.2
theorem limb5 {a b c d e:Prop} (h:a∧b∧c∧d∧e):e:=h.2.2.2.2
theorem limb8 {a b c d e f g h:Prop} (x:a∧b∧c∧d∧e∧f∧g∧h):h:=x.2.2.2.2.2.2.2
theorem limb7 {a b c d e f g:Prop} (h:a∧b∧c∧d∧e∧f∧g):g:=h.2.2.2.2.2.2
instance picDec:DecidableEq Pic:=fun a b=>
 if h:a.W=b.W∧a.H=b.H∧a.ink=b.ink then
   isTrue (by obtain ⟨h1,h2,h3⟩:=h;cases a;cases b;simp_all)
 else isFalse (fun e=>h (by rw [e];exact ⟨rfl,rfl,rfl⟩))
theorem flat_set2: ∀(L:List PV) (k:Nat) (a:Option Addr) (n c:Nat),k<L.length→(flatV L).set (k*3+2) (.slice a n c)=flatV (L.set k {pv L k with a:=a,n:=n,c:=c})
 | [],k,a,n,c,h=>by simp at h
 | p::r,0,a,n,c,h=>by simp [flatV,PV.cells,pv]
 | p::r,k+1,a,n,c,h=>by
   have ih:=flat_set2 r k a n c (by simpa using h)
   have e1:(k+1)*3+2=k*3+2+1+1+1:=by omega
   have e2: ∀(q:PV) (r:List PV),flatV (q::r)= .int .i64 q.W:: .int .i64 q.H:: .slice q.a q.n q.c::flatV r:=fun q r=>by simp [flatV,PV.cells]
   rw [e1,e2]
   simp only [List.set_cons_succ]
   rw [ih,e2]
   simp [pv]
theorem list_set_self (L:List PV) (k:Nat) (p q:PV):(L.set k p).set k q=L.set k q:=by
 apply List.ext_getElem?
 intro i
 simp only [List.getElem?_set,List.length_set]
 by_cases e:k=i
 · subst e;simp
 · simp [e]
theorem RowV.setPic {w:World} {g cap:Nat} {L:List PV} (h:RowV w g cap L) {k:Nat} (hk:k<L.length) (p:PV):
   RowV (((w.setCell ⟨g,k*3,none⟩ (.int .i64 p.W)).setCell ⟨g,k*3+1,none⟩ (.int .i64 p.H)).setCell ⟨g,k*3+2,none⟩ (.slice p.a p.n p.c)) g cap (L.set k p):=by
 have h1:=h.setAt hk _ (flat_set0 L k p.W hk)
 have hk1:k<(L.set k {pv L k with W:=p.W}).length:=by simpa using hk
 have h2:=h1.setAt hk1 _ (flat_set1 _ k p.H hk1)
 rw [list_set_self,pv_set_eq hk] at h2
 have hk2:k<(L.set k {{pv L k with W:=p.W} with H:=p.H}).length:=by simpa using hk
 have h3:=h2.setAt hk2 _ (flat_set2 _ k p.a p.n p.c hk2)
 rw [list_set_self,pv_set_eq hk] at h3
 have e:flatV (L.set k {{{pv L k with W:=p.W} with H:=p.H} with a:=p.a,n:=p.n,c:=p.c})=flatV (L.set k p):=flatV_congr (by simp) (fun i hi=>by
   by_cases q:k=i
   · subst q;rw [pv_set_eq hk,pv_set_eq hk];exact ⟨rfl,rfl,rfl,rfl,rfl⟩
   · rw [pv_set_ne q,pv_set_ne q];exact ⟨rfl,rfl,rfl,rfl,rfl⟩)
 obtain ⟨cur,q1,q2,q3,q4,q5⟩:=h3
 exact ⟨cur,q1,by simpa using q2,q3,q4,by rw [←e];simpa using q5⟩
namespace OwnV
variable {w w' : World} {B n cap g k : Nat} {L : List PV}
theorem setPic (h:OwnV w B (some ⟨g,0,none⟩) n cap L) (hk:k<n) (p:PV) (ho:OwnA w B p.a p.n p.c p.ink) (hp: ∀b,blockOf p.a=some b→b≠g∧ ¬blocks (some ⟨g,0,none⟩) L b):
   OwnV (((w.setCell ⟨g,k*3,none⟩ (.int .i64 p.W)).setCell ⟨g,k*3+1,none⟩ (.int .i64 p.H)).setCell ⟨g,k*3+2,none⟩ (.slice p.a p.n p.c)) B (some ⟨g,0,none⟩) n cap (L.set k p):=by
 have hkl:k<L.length:=by rw [h.len];exact hk
 have gb: ∀i b,i<n→blockOf (pv L i).a=some b→b≠g:=fun i b hi hb e=>h.off i b hi hb (by rw [e];rfl)
 refine ⟨by rw [List.length_set];exact h.len,?_,fun i hi=>?_,fun i b hi hb=>?_,fun i j b hij hj hb=>?_⟩
 · rcases h.row with ⟨h0,_⟩ | ⟨g2,h1,h2,hr⟩
   · cases h0
   · cases h1
     exact .inr ⟨g,rfl,h2,hr.setPic hkl p⟩
 · by_cases e:k=i
   · subst e
     rw [pv_set_eq hkl]
     exact ((ho.otherT (fun e=>(hp g e).1 rfl) _).otherT (fun e=>(hp g e).1 rfl) _).otherT (fun e=>(hp g e).1 rfl) _
   · rw [pv_set_ne e]
     exact (((h.ink i hi).otherT (fun q=>gb i g hi q rfl) _).otherT (fun q=>gb i g hi q rfl) _).otherT (fun q=>gb i g hi q rfl) _
 · by_cases e:k=i
   · subst e
     rw [pv_set_eq hkl] at hb
     intro q
     simp only [blockOf,Option.some.injEq] at q
     exact (hp b hb).1 q.symm
   · rw [pv_set_ne e] at hb
     exact h.off i b hi hb
 · by_cases e:k=i
   · subst e
     rw [pv_set_eq hkl] at hb
     rw [pv_set_ne (by omega)]
     intro q
     exact (hp b hb).2 (.inr ⟨j,by rw [h.len];exact hj,q⟩)
   · rw [pv_set_ne e] at hb
     by_cases e2:k=j
     · subst e2
       rw [pv_set_eq hkl]
       intro q
       exact (hp b q).2 (.inr ⟨i,by rw [h.len];omega,hb⟩)
     · rw [pv_set_ne e2]
       exact h.apart i j b hij hj hb
theorem lt (h:OwnV w B (some ⟨g,0,none⟩) n cap L):B≤g∧g<w.heap.size:=by
 rcases h.row with ⟨h0,_⟩ | ⟨g2,h1,h2,hr⟩
 · cases h0
 · cases h1;exact ⟨h2,hr.lt⟩
theorem rowOf (h:OwnV w B (some ⟨g,0,none⟩) n cap L):RowV w g cap L:=by
 rcases h.row with ⟨h0,_⟩ | ⟨g2,h1,h2,hr⟩
 · cases h0
 · cases h1;exact hr
end OwnV
theorem RdV.cells {w:World} {b off:Nat} {L:List PV} (h:RdV w (some ⟨b,off,none⟩) L) {k:Nat} (hk:k<L.length):b<w.heap.size∧w.cell? ⟨b,off+k*3,none⟩=some (.int .i64 (pv L k).W)∧w.cell? ⟨b,off+k*3+1,none⟩=some (.int .i64 (pv L k).H)∧w.cell? ⟨b,off+k*3+2,none⟩=some (.slice (pv L k).a (pv L k).n (pv L k).c):=by
 obtain ⟨b',off',h1,h2,h3,h4,h5⟩:=h.cellsAt hk
 have e:=Option.some.inj h1
 simp only [Addr.mk.injEq] at e
 obtain ⟨rfl,rfl,_⟩:=e
 exact ⟨h2,h3,h4,h5⟩
theorem RdV.addr {w:World} {ad:Option Addr} {L:List PV} (h:RdV w ad L) (h1:1≤L.length): ∃b off,ad=some ⟨b,off,none⟩∧b<w.heap.size:=by
 obtain ⟨b,off,h1,h2,_⟩:=h.cellsAt (k:=0) (by omega)
 exact ⟨b,off,h1,h2⟩
theorem picsV_lt (L:List PV) (k:Nat) (h:k<L.length):(picsV L)[k]?=some (pv L k).pic:=by
 simp [picsV,pv,List.getD,List.getElem?_eq_getElem h]
end Go.Proofs.YtmikajnpgcabfaaGreatDoor
namespace Go.Proofs.YtmikajnpgcabfaaGreatDoor
set_option linter.unusedVariables false
set_option linter.unusedSimpArgs false
def stackOk (L:List Pic):Bool:=decide (1≤L.length∧L.length≤4) && L.all (fun p=>picOk p.W p.H p.ink 1 && decide (p.W=(L.getD 0 noPic).W∧p.H=(L.getD 0 noPic).H))
theorem stack_bd {L:List Pic} (h:stackOk L=true):1≤L.length∧L.length≤4∧ ∀k,k<L.length→picOk (L.getD k noPic).W (L.getD k noPic).H (L.getD k noPic).ink 1=true∧(L.getD k noPic).W=(L.getD 0 noPic).W∧(L.getD k noPic).H=(L.getD 0 noPic).H:=by
 unfold stackOk at h
 simp only [Bool.and_eq_true,decide_eq_true_eq,List.all_eq_true] at h
 refine ⟨h.1.1,h.1.2,fun k hk=>?_⟩
 have hm:L.getD k noPic ∈ L:=by simp [List.getD,List.getElem?_eq_getElem hk]
 exact h.2 _ hm
theorem stack_mk {L:List Pic} (h1:1≤L.length) (h2:L.length≤4) (h: ∀k,k<L.length→picOk (L.getD k noPic).W (L.getD k noPic).H (L.getD k noPic).ink 1=true∧(L.getD k noPic).W=(L.getD 0 noPic).W∧(L.getD k noPic).H=(L.getD 0 noPic).H):stackOk L=true:=by
 unfold stackOk
 simp only [Bool.and_eq_true,decide_eq_true_eq,List.all_eq_true]
 refine ⟨⟨h1,h2⟩,fun p hp=>?_⟩
 obtain ⟨k,hk,rfl⟩:=List.mem_iff_getElem.1 hp
 have:=h k hk
 simp only [List.getD,List.getElem?_eq_getElem hk,Option.getD_some] at this⊢
 exact this
def bitsTo (b:Nat→Int):Nat→Int
 | 0=>0
 | k+1=>bitsTo b k+b k*2^k
theorem pow2_pos (k:Nat):1≤(2:Int)^k:=by
 induction k with
 | zero=>simp
 | succ k ih=>rw [Int.pow_succ];omega
theorem bitsTo_bd {b:Nat→Int} {m:Nat} (h: ∀k,k<m→b k=0∨b k=1):0≤bitsTo b m∧bitsTo b m<2^m:=by
 induction m with
 | zero=>simp [bitsTo]
 | succ m ih=>
   have a:=ih (fun k hk=>h k (by omega))
   have p:=pow2_pos m
   unfold bitsTo
   rw [Int.pow_succ]
   rcases h m (by omega) with e | e <;>rw [e] <;>omega
def markG (L:List Pic) (i:Nat):Int:=bitsTo (fun k=>(L.getD k noPic).ink.getD i 0) L.length
def cntI (f:Nat→Int) (r:Int):Nat→Int
 | 0=>0
 | n+1=>cntI f r n+(if f n=r then 1 else 0)
theorem cntI_bd (f:Nat→Int) (r:Int) (n:Nat):0≤cntI f r n∧cntI f r n≤n:=by
 induction n with
 | zero=>simp [cntI]
 | succ n ih=>unfold cntI;split <;>omega
def markCountsF (L:List Pic):List Int:=if stackOk L=true then gen (2^L.length) (fun r=>cntI (markG L) r (L.getD 0 noPic).ink.length) else []
end Go.Proofs.YtmikajnpgcabfaaGreatDoor
