/-
  Contracts and plain facts on which the theorem of this claim rests, text 6.
-/
import Derived.Test.YtanccoopbgamdaaGreatDoorRows
import Derived.Test.YtanccoopbgamdaaGreatDoorKC1
import Derived.Test.YtanccoopbgamdaaGreatDoorKC2
namespace Go.Proofs.YtanccoopbgamdaaGreatDoor
open Go.RowKit
set_option linter.unusedVariables false
set_option linter.unusedSimpArgs false
structure PV where
 W:Int
 H:Int
 a:Option Addr
 n:Nat
 c:Nat
 ink:List Int
def PV.pic (p:PV):Pic:=⟨p.W,p.H,p.ink⟩
def PV.val (p:PV):Value:= .agg #[.int .i64 p.W, .int .i64 p.H, .slice p.a p.n p.c]
def PV.cells (p:PV):List Value:=[.int .i64 p.W, .int .i64 p.H, .slice p.a p.n p.c]
def noV:PV:=⟨0,0,none,0,0,[]⟩
def pv (L:List PV) (k:Nat):PV:=L.getD k noV
def flatV (L:List PV):List Value:=L.flatMap PV.cells
theorem flatV_len (L:List PV):(flatV L).length=L.length*3:=by
 induction L with
 | nil=>rfl
 | cons p r ih=>unfold flatV at ih⊢;simp only [List.flatMap_cons,List.length_append,ih];simp [PV.cells];omega
theorem flatV_at: ∀(L:List PV) (k:Nat),k<L.length→(flatV L)[k*3]? =some (.int .i64 (pv L k).W)∧(flatV L)[k*3+1]? =some (.int .i64 (pv L k).H)∧(flatV L)[k*3+2]? =some (.slice (pv L k).a (pv L k).n (pv L k).c)
 | [],k,h=>by simp at h
 | p::r,0,h=>by simp [flatV,PV.cells,pv]
 | p::r,k+1,h=>by
   have ih:=flatV_at r k (by simpa using h)
   have e1:(k+1)*3=k*3+1+1+1:=by omega
   have e2:flatV (p::r)= .int .i64 p.W:: .int .i64 p.H:: .slice p.a p.n p.c::flatV r:=by simp [flatV,PV.cells]
   rw [e2,e1]
   simpa [pv] using ih
theorem pv_snoc_lt {L:List PV} {p:PV} {k:Nat} (h:k<L.length):pv (L++ [p]) k=pv L k:=by
 unfold pv;simp [List.getD,List.getElem?_append_left h]
theorem pv_snoc {L:List PV} {p:PV}:pv (L++ [p]) L.length=p:=by
 unfold pv;simp [List.getD]
theorem pv_set_eq {L:List PV} {p:PV} {k:Nat} (h:k<L.length):pv (L.set k p) k=p:=by
 unfold pv;simp [List.getD,List.getElem?_set,h]
theorem pv_set_ne {L:List PV} {p:PV} {k j:Nat} (h:k≠j):pv (L.set k p) j=pv L j:=by
 unfold pv;simp [List.getD,List.getElem?_set,h]
def RdV (w:World) (ad:Option Addr) (L:List PV):Prop:=
 ∀k,k<L.length→ ∃b off,ad=some ⟨b,off,none⟩∧b<w.heap.size∧w.cell? ⟨b,off+k*3,none⟩=some (.int .i64 (pv L k).W)∧w.cell? ⟨b,off+k*3+1,none⟩=some (.int .i64 (pv L k).H)∧w.cell? ⟨b,off+k*3+2,none⟩=some (.slice (pv L k).a (pv L k).n (pv L k).c)∧(pv L k).ink.length=(pv L k).n∧Rd w (pv L k).a (pv L k).ink
namespace RdV
variable {w w' : World} {ad : Option Addr} {L : List PV}
theorem nil (w:World) (ad:Option Addr):RdV w ad []:=fun _ hk=>by simp at hk
theorem below (h:RdV w ad L) (hb:Below w.heap.size w w'):RdV w' ad L:=fun k hk=>by
 obtain ⟨b,off,h1,h2,h3,h4,h5,h6,h7⟩:=h k hk
 exact ⟨b,off,h1,Nat.lt_of_lt_of_le h2 hb.size,(hb.cell (p:=⟨b,off+k*3,none⟩) h2).trans h3,(hb.cell (p:=⟨b,off+k*3+1,none⟩) h2).trans h4,(hb.cell (p:=⟨b,off+k*3+2,none⟩) h2).trans h5,h6,h7.below hb⟩
theorem alloc (h:RdV w ad L) (o:Obj):RdV (w.alloc o) ad L:=h.below (Joins.below_alloc1 w o)
theorem drew (h:RdV w ad L):RdV w.drew ad L:=h.below (Below.refl _ _).drew
theorem cellsAt (h:RdV w ad L) {k:Nat} (hk:k<L.length): ∃b off,ad=some ⟨b,off,none⟩∧b<w.heap.size∧w.cell? ⟨b,off+k*3,none⟩=some (.int .i64 (pv L k).W)∧w.cell? ⟨b,off+k*3+1,none⟩=some (.int .i64 (pv L k).H)∧w.cell? ⟨b,off+k*3+2,none⟩=some (.slice (pv L k).a (pv L k).n (pv L k).c):=by
 obtain ⟨b,off,h1,h2,h3,h4,h5,_⟩:=h k hk
 exact ⟨b,off,h1,h2,h3,h4,h5⟩
theorem len (h:RdV w ad L) {k:Nat} (hk:k<L.length):(pv L k).ink.length=(pv L k).n:=by
 obtain ⟨b,off,_,_,_,_,_,h6,_⟩:=h k hk
 exact h6
theorem rd (h:RdV w ad L) {k:Nat} (hk:k<L.length):Rd w (pv L k).a (pv L k).ink:=by
 obtain ⟨b,off,_,_,_,_,_,_,h7⟩:=h k hk
 exact h7
end RdV
def RowV (w:World) (g cap:Nat) (L:List PV):Prop:=
 ∃cur,w.heap[g]? =some (.cells cur 27 (0,0))∧L.length≤cap∧cap≤maxLen∧cur.size=cap*3∧cur.toList.take (L.length*3)=flatV L
namespace RowV
variable {w w' : World} {g cap : Nat} {L : List PV}
theorem lt (h:RowV w g cap L):g<w.heap.size:=by
 obtain ⟨cur,hg,_⟩:=h
 exact (Array.getElem?_eq_some_iff.1 hg).1
theorem cellAt (h:RowV w g cap L) {j:Nat} (hj:j<L.length*3):w.cell? ⟨g,j,none⟩=(flatV L)[j]?:=by
 obtain ⟨cur,hg,_,_,_,ht⟩:=h
 rw [cell_of_row w g j cur 27 (0,0) hg,←ht,List.getElem?_take,if_pos hj]
 simp
theorem frozen (h:RowV w g cap L) (j:Nat):w.frozen? ⟨g,j,none⟩=false:=by
 obtain ⟨cur,hg,_⟩:=h
 exact frozen_of_row w g j cur 27 hg
theorem of_block (h:RowV w g cap L) (hb:w'.heap[g]? =w.heap[g]?):RowV w' g cap L:=by
 obtain ⟨cur,hg,r⟩:=h
 exact ⟨cur,hb.trans hg,r⟩
theorem below (h:RowV w g cap L) (hb:Below w.heap.size w w'):RowV w' g cap L:=h.of_block (hb.block g h.lt)
theorem other (h:RowV w g cap L) {a:Addr} (ha:a.block≠g) (u:Value):RowV (w.setCell a u) g cap L:=h.of_block (Below.heap_setCell w a u g (by omega))
theorem setAt (h:RowV w g cap L) {k j:Nat} {p:PV} (hk:k<L.length) (v:Value) (hf:(flatV L).set j v=flatV (L.set k p)):RowV (w.setCell ⟨g,j,none⟩ v) g cap (L.set k p):=by
 obtain ⟨cur,hg,h1,h2,h3,ht⟩:=h
 refine ⟨cur.setIfInBounds j v,heap_setCell_same w g j cur _ _ hg,by simpa using h1,h2,by simpa using h3,?_⟩
 rw [List.length_set,Array.toList_setIfInBounds,←hf,←ht,List.take_set]
end RowV
theorem flat_set0: ∀(L:List PV) (k:Nat) (x:Int),k<L.length→(flatV L).set (k*3) (.int .i64 x)=flatV (L.set k {pv L k with W:=x})
 | [],k,x,h=>by simp at h
 | p::r,0,x,h=>by simp [flatV,PV.cells,pv]
 | p::r,k+1,x,h=>by
   have ih:=flat_set0 r k x (by simpa using h)
   have e1:(k+1)*3=k*3+1+1+1:=by omega
   have e2: ∀(q:PV) (r:List PV),flatV (q::r)= .int .i64 q.W:: .int .i64 q.H:: .slice q.a q.n q.c::flatV r:=fun q r=>by simp [flatV,PV.cells]
   rw [e1,e2]
   simp only [List.set_cons_succ,ih]
   rw [e2]
   simp [pv]
theorem flat_set1: ∀(L:List PV) (k:Nat) (x:Int),k<L.length→(flatV L).set (k*3+1) (.int .i64 x)=flatV (L.set k {pv L k with H:=x})
 | [],k,x,h=>by simp at h
 | p::r,0,x,h=>by simp [flatV,PV.cells,pv]
 | p::r,k+1,x,h=>by
   have ih:=flat_set1 r k x (by simpa using h)
   have e1:(k+1)*3+1=k*3+1+1+1+1:=by omega
   have e2: ∀(q:PV) (r:List PV),flatV (q::r)= .int .i64 q.W:: .int .i64 q.H:: .slice q.a q.n q.c::flatV r:=fun q r=>by simp [flatV,PV.cells]
   rw [e1,e2]
   simp only [List.set_cons_succ]
   rw [ih,e2]
   simp [pv]
structure OwnV (w:World) (B:Nat) (ad:Option Addr) (n cap:Nat) (L:List PV):Prop where
 len:L.length=n
 row:(ad=none∧n=0∧cap=0)∨ ∃g,ad=some ⟨g,0,none⟩∧B≤g∧RowV w g cap L
 ink: ∀k,k<n→OwnA w B (pv L k).a (pv L k).n (pv L k).c (pv L k).ink
 off: ∀k b,k<n→blockOf (pv L k).a=some b→blockOf ad≠some b
 apart: ∀j k b,j<k→k<n→blockOf (pv L j).a=some b→blockOf (pv L k).a≠some b
namespace OwnV
variable {w w' : World} {B n cap : Nat} {ad : Option Addr} {L : List PV}
theorem nil (w:World) (B:Nat):OwnV w B none 0 0 []:=⟨rfl, .inl ⟨rfl,rfl,rfl⟩,fun k hk=>by omega,fun k b hk=>by omega,fun j k b h1 hk=>by omega⟩
theorem rd (h:OwnV w B ad n cap L):RdV w ad L:=fun k hk=>by
 have hk':k<n:=by rw [←h.len];exact hk
 rcases h.row with ⟨_,h0,_⟩ | ⟨g,hg,_,hr⟩
 · omega
 · obtain ⟨e0,e1,e2⟩:=flatV_at L k hk
   refine ⟨g,0,hg,hr.lt,?_,?_,?_,(h.ink k hk').len,(h.ink k hk').rd⟩
   · rw [Nat.zero_add,hr.cellAt (by omega),e0]
   · rw [Nat.zero_add,hr.cellAt (by omega),e1]
   · rw [Nat.zero_add,hr.cellAt (by omega),e2]
theorem below (h:OwnV w B ad n cap L) (hb:Below w.heap.size w w'):OwnV w' B ad n cap L:=
 ⟨h.len,by
   rcases h.row with h0 | ⟨g,hg,hB,hr⟩
   · exact .inl h0
   · exact .inr ⟨g,hg,hB,hr.below hb⟩,fun k hk=>(h.ink k hk).below' hb,h.off,h.apart⟩
theorem alloc (h:OwnV w B ad n cap L) (o:Obj):OwnV (w.alloc o) B ad n cap L:=h.below (Joins.below_alloc1 w o)
theorem drew (h:OwnV w B ad n cap L):OwnV w.drew B ad n cap L:=h.below (Below.refl _ _).drew
theorem mono {B':Nat} (h:OwnV w B ad n cap L) (hB:B'≤B):OwnV w B' ad n cap L:=
 ⟨h.len,by
   rcases h.row with h0 | ⟨g,hg,h1,hr⟩
   · exact .inl h0
   · exact .inr ⟨g,hg,by omega,hr⟩,fun k hk=>(h.ink k hk).mono hB,h.off,h.apart⟩
def blocks (ad:Option Addr) (L:List PV) (i:Nat):Prop:=blockOf ad=some i∨ ∃k,k<L.length∧blockOf (pv L k).a=some i
theorem bd (h:OwnV w B ad n cap L): ∀i,blocks ad L i→B≤i∧i<w.heap.size:=by
 rintro i (hi | ⟨k,hk,hi⟩)
 · rcases h.row with ⟨h0,_⟩ | ⟨g,hg,h1,hr⟩
   · rw [h0] at hi;cases hi
   · rw [hg] at hi
     simp only [blockOf,Option.some.injEq] at hi
     subst hi
     exact ⟨h1,hr.lt⟩
 · exact (h.ink k (by rw [←h.len];exact hk)).bd i hi
end OwnV
end Go.Proofs.YtanccoopbgamdaaGreatDoor
namespace Go.Proofs.YtanccoopbgamdaaGreatDoor
set_option linter.unusedVariables false
set_option linter.unusedSimpArgs false
structure Prt where
 dx:Int
 dy:Int
 wt:Int
def noPrt:Prt:=⟨0,0,0⟩
def Prt.nums (p:Prt):List Int:=[p.dx,p.dy,p.wt]
def flat (ks:List Prt):List Int:=ks.flatMap Prt.nums
def prt (ks:List Prt) (k:Nat):Prt:=ks.getD k noPrt
theorem flat_len (ks:List Prt):(flat ks).length=3*ks.length:=by
 induction ks with
 | nil=>rfl
 | cons p ks ih=>simp only [flat,List.flatMap_cons,List.length_append,List.length_cons] at ih⊢;rw [ih];simp [Prt.nums];omega
theorem flat_cons (p:Prt) (ks:List Prt):flat (p::ks)=p.dx::p.dy::p.wt::flat ks:=rfl
theorem prt_cons (p:Prt) (ks:List Prt) (k:Nat):prt (p::ks) (k+1)=prt ks k:=by simp [prt]
theorem flat_at (ks:List Prt) (k:Nat) (h:k<ks.length):(flat ks).getD (3*k) 0=(prt ks k).dx∧(flat ks).getD (3*k+1) 0=(prt ks k).dy∧(flat ks).getD (3*k+2) 0=(prt ks k).wt:=by
 induction ks generalizing k with
 | nil=>simp at h
 | cons p ks ih=>
   cases k with
   | zero=>exact ⟨rfl,rfl,rfl⟩
   | succ k=>
     have:=ih k (by simpa using h)
     rw [flat_cons,prt_cons,show 3*(k+1)=3*k+1+1+1 by omega]
     simpa [List.getD] using this
theorem take_prt (ks:List Prt) (k:Nat) (h:k<ks.length):ks.take (k+1)=ks.take k++ [prt ks k]:=by
 rw [List.take_succ_eq_append_getElem h]
 simp [prt,h]
def partOk (p:Prt):Bool:=decide (-4≤p.dx∧p.dx≤4∧0≤p.dy∧p.dy≤4∧(p.dy=0→1≤p.dx)∧1≤p.wt∧p.wt≤100)
def placed (L:List Prt) (x y:Int):Bool:=L.any (fun q=>decide (q.dx=x∧q.dy=y))
def kernTo (ks:List Prt) (k:Nat):Bool:=(List.range k).all (fun i=>partOk (prt ks i) && !placed (ks.take i) (prt ks i).dx (prt ks i).dy)
def kernOk (ks:List Prt):Bool:=decide (1≤ks.length∧ks.length≤12) && kernTo ks ks.length
theorem placed_nil (x y:Int):placed [] x y=false:=rfl
theorem placed_take (ks:List Prt) (k:Nat) (x y:Int) (h:k<ks.length):placed (ks.take (k+1)) x y=(placed (ks.take k) x y || decide ((prt ks k).dx=x∧(prt ks k).dy=y)):=by
 unfold placed
 rw [take_prt ks k h,List.any_append]
 simp
theorem placed_le {ks:List Prt} {k m:Nat} {x y:Int} (h:placed (ks.take k) x y=true) (hk:k≤m):placed (ks.take m) x y=true:=by
 unfold placed at*
 rw [List.any_eq_true] at*
 obtain ⟨q,hq,h2⟩:=h
 refine ⟨q,?_,h2⟩
 have e:ks.take k=(ks.take m).take k:=by rw [List.take_take];congr 1;omega
 rw [e] at hq
 exact List.mem_of_mem_take hq
theorem kernTo_succ (ks:List Prt) (k:Nat):kernTo ks (k+1)=(kernTo ks k && (partOk (prt ks k) && !placed (ks.take k) (prt ks k).dx (prt ks k).dy)):=by
 unfold kernTo
 rw [List.range_succ,List.all_append]
 simp
theorem kernTo_le {ks:List Prt} {k m:Nat} (h:kernTo ks m=true) (hk:k≤m):kernTo ks k=true:=by
 unfold kernTo at*
 rw [List.all_eq_true] at*
 intro i hi
 exact h i (by simp at hi⊢;omega)
theorem kernTo_no {ks:List Prt} {k m:Nat} (hk:k<m) (h:(partOk (prt ks k) && !placed (ks.take k) (prt ks k).dx (prt ks k).dy)=false):kernTo ks m=false:=by
 by_cases c:kernTo ks m=true
 · have:=kernTo_le c (show k+1≤m by omega)
   rw [kernTo_succ,h] at this
   simp at this
 · simpa using c
theorem kernOk_no1 {ks:List Prt} {n:Nat} (hn:ks.length=n) (h: ¬(1≤n∧n≤12)):kernOk ks=false:=by unfold kernOk;rw [hn,decide_eq_false h];rfl
theorem kernOk_no2 {ks:List Prt} {n k:Nat} (hn:ks.length=n) (hk:k<n) (h:(partOk (prt ks k) && !placed (ks.take k) (prt ks k).dx (prt ks k).dy)=false):kernOk ks=false:=by
 unfold kernOk;rw [hn,kernTo_no hk h];simp
theorem kernOk_yes {ks:List Prt} {n:Nat} (hn:ks.length=n) (h1:1≤n) (h2:n≤12) (h:kernTo ks n=true):kernOk ks=true:=by
 unfold kernOk;rw [hn,h,decide_eq_true ⟨h1,h2⟩];rfl
theorem kernOk_bd {ks:List Prt} {n:Nat} (hn:ks.length=n) (h:kernOk ks=true):1≤n∧n≤12∧kernTo ks n=true:=by
 unfold kernOk at h
 rw [hn] at h
 simp only [Bool.and_eq_true,decide_eq_true_eq] at h
 exact ⟨h.1.1,h.1.2,h.2⟩
theorem partOk_bd {p:Prt} (h:partOk p=true):-4≤p.dx∧p.dx≤4∧0≤p.dy∧p.dy≤4∧(p.dy=0→1≤p.dx)∧1≤p.wt∧p.wt≤100:=of_decide_eq_true h
theorem kern_part {ks:List Prt} {n k:Nat} (h:kernTo ks n=true) (hk:k<n):partOk (prt ks k)=true∧placed (ks.take k) (prt ks k).dx (prt ks k).dy=false:=by
 have:=kernTo_le h (show k+1≤n by omega)
 rw [kernTo_succ] at this
 simp only [Bool.and_eq_true,Bool.not_eq_true'] at this
 exact this.2
def wtTo (ks:List Prt):Nat→Int
 | 0=>0
 | k+1=>wtTo ks k+(prt ks k).wt
def weightF (ks:List Prt):Int:=if kernOk ks=true then wtTo ks ks.length else 0
theorem weightF_no {ks:List Prt} (h: ¬kernOk ks=true):weightF ks=0:=by unfold weightF;rw [if_neg h]
theorem weightF_yes {ks:List Prt} {n:Nat} (hn:ks.length=n) (h:kernOk ks=true):weightF ks=wtTo ks n:=by unfold weightF;rw [if_pos h,hn]
theorem wtTo_bd {ks:List Prt} {n:Nat} (h:kernTo ks n=true) (k:Nat) (hk:k≤n):(k:Int)≤wtTo ks k∧wtTo ks k≤100*k:=by
 induction k with
 | zero=>simp [wtTo]
 | succ k ih=>
   have h1:=ih (by omega)
   have h2:=partOk_bd (kern_part h (show k<n by omega)).1
   simp only [wtTo]
   omega
def shareB (ks:List Prt) (W e:Int) (k:Nat):Int:=e*(prt ks k).wt/W
def shSum (ks:List Prt) (W e:Int):Nat→Int
 | 0=>0
 | k+1=>shSum ks W e k+shareB ks W e k
def sharesG (ks:List Prt) (W e:Int):List Int:=(gen ks.length (shareB ks W e)).set 0 (shareB ks W e 0+(e - shSum ks W e ks.length))
theorem sharesG_len (ks:List Prt) (W e:Int):(sharesG ks W e).length=ks.length:=by simp [sharesG,gen_len]
theorem sharesG_at (ks:List Prt) (W e:Int) (k:Nat) (hk:k<ks.length):(sharesG ks W e).getD k 0=shareB ks W e k+(if k=0 then e - shSum ks W e ks.length else 0):=by
 unfold sharesG
 rw [getD_set _ _ _ _ (by rw [gen_len];omega)]
 by_cases h:k=0
 · subst h;simp
 · rw [if_neg (by omega),if_neg h,gen_get _ _ _ hk];omega
theorem shareB_bd {ks:List Prt} {n:Nat} {e:Int} (h:kernTo ks n=true) (k:Nat) (hk:k<n) (hn:1≤n):
   shareB ks (wtTo ks n) e k*wtTo ks n≤e*(prt ks k).wt∧e*(prt ks k).wt<shareB ks (wtTo ks n) e k*wtTo ks n+wtTo ks n:=by
 have h1:=(wtTo_bd h n (Nat.le_refl _)).1
 unfold shareB
 have a:=Int.emod_add_mul_ediv (e*(prt ks k).wt) (wtTo ks n)
 have b:=Int.emod_nonneg (e*(prt ks k).wt) (show wtTo ks n≠0 by omega)
 have c:=Int.emod_lt_of_pos (e*(prt ks k).wt) (show 0<wtTo ks n by omega)
 rw [Int.mul_comm (e*(prt ks k).wt/wtTo ks n)]
 omega
theorem mul_abs {e b c:Int} (h1:1≤b) (h2:b≤100) (hc:0≤c) (he1:-c≤e) (he2:e≤c):-(c*100)≤e*b∧e*b≤c*100:=by
 have m1:=Int.mul_le_mul_of_nonneg_left h2 hc
 have m2:=Int.mul_le_mul_of_nonneg_right he2 (show 0≤b by omega)
 have m3:=Int.mul_le_mul_of_nonneg_right he1 (show 0≤b by omega)
 rw [Int.neg_mul] at m3
 omega
theorem shareB_wide {ks:List Prt} {n:Nat} {e:Int} (h:kernTo ks n=true) (k:Nat) (hk:k<n) (he1:-1000000≤e) (he2:e≤1000000):
   -100000000≤e*(prt ks k).wt∧e*(prt ks k).wt≤100000000∧-100000000≤shareB ks (wtTo ks n) e k∧shareB ks (wtTo ks n) e k≤100000000:=by
 have h1:=(wtTo_bd h n (Nat.le_refl _)).1
 have h2:=partOk_bd (kern_part h hk).1
 obtain ⟨m1,m2⟩:=mul_abs (e:=e) (c:=1000000) h2.2.2.2.2.2.1 h2.2.2.2.2.2.2 (by omega) he1 he2
 refine ⟨by omega,by omega,?_,?_⟩
 · unfold shareB
   exact Int.le_ediv_of_mul_le (by omega) (by
     have:=Int.mul_le_mul_of_nonneg_left (show (1:Int)≤wtTo ks n by omega) (show (0:Int)≤100000000 by omega)
     rw [Int.neg_mul];omega)
 · unfold shareB
   exact Int.ediv_le_of_le_mul (by omega) (by
     have:=Int.mul_le_mul_of_nonneg_left (show (1:Int)≤wtTo ks n by omega) (show (0:Int)≤100000000 by omega)
     omega)
theorem shSum_wide {ks:List Prt} {n:Nat} {e:Int} (h:kernTo ks n=true) (he1:-1000000≤e) (he2:e≤1000000) (k:Nat) (hk:k≤n):-(100000000*(k:Int))≤shSum ks (wtTo ks n) e k∧shSum ks (wtTo ks n) e k≤100000000*k:=by
 induction k with
 | zero=>simp [shSum]
 | succ k ih=>
   have h1:=ih (by omega)
   have h2:=shareB_wide h k (by omega) he1 he2
   simp only [shSum]
   omega
theorem shSum_mul {ks:List Prt} {n:Nat} {e:Int} (h:kernTo ks n=true) (k:Nat) (hk:k≤n):shSum ks (wtTo ks n) e k*wtTo ks n≤e*wtTo ks k∧e*wtTo ks k≤shSum ks (wtTo ks n) e k*wtTo ks n+(k:Int)*(wtTo ks n - 1):=by
 induction k with
 | zero=>simp [shSum,wtTo]
 | succ k ih=>
   obtain ⟨a,b⟩:=ih (by omega)
   obtain ⟨c,d⟩:=shareB_bd (e:=e) h k (by omega) (by omega)
   simp only [shSum,wtTo]
   rw [Int.add_mul,Int.mul_add]
   have e1:((k+1:Nat):Int)*(wtTo ks n - 1)=(k:Int)*(wtTo ks n - 1)+(wtTo ks n - 1):=by
     rw [Int.natCast_add,Int.add_mul];simp
   rw [e1]
   omega
theorem shSum_near {ks:List Prt} {n:Nat} {e:Int} (h:kernTo ks n=true) (hn:1≤n):shSum ks (wtTo ks n) e n≤e∧e≤shSum ks (wtTo ks n) e n+n - 1:=by
 obtain ⟨a,b⟩:=shSum_mul (e:=e) h n (Nat.le_refl _)
 have h1:=(wtTo_bd h n (Nat.le_refl _)).1
 have hW:0<wtTo ks n:=by omega
 refine ⟨Int.le_of_mul_le_mul_right a hW,?_⟩
 have c:e*wtTo ks n<(shSum ks (wtTo ks n) e n+n)*wtTo ks n:=by
   rw [Int.add_mul]
   rw [Int.mul_sub] at b
   omega
 have:=Int.lt_of_mul_lt_mul_right c (by omega)
 omega
end Go.Proofs.YtanccoopbgamdaaGreatDoor
namespace Go.Proofs.YtanccoopbgamdaaGreatDoor
open Go.RowKit
set_option linter.unusedVariables false
set_option linter.unusedSimpArgs false
def RowT (w:World) (T sz g n cap:Nat) (xs:List Int):Prop:=
 xs.length=n*sz∧ ∃cur,w.heap[g]? =some (.cells cur T (0,0))∧n≤cap∧cap≤maxLen∧cur.size=cap*sz∧cur.toList.take (n*sz)=xs.map (Value.int .i64)
namespace RowT
variable {w w' : World} {T sz g n cap : Nat} {xs : List Int}
theorem len (h:RowT w T sz g n cap xs):xs.length=n*sz:=h.1
theorem lt (h:RowT w T sz g n cap xs):g<w.heap.size:=by
 obtain ⟨_,cur,hg,_⟩:=h
 exact (Array.getElem?_eq_some_iff.1 hg).1
theorem cell (h:RowT w T sz g n cap xs) {j:Nat} (hj:j<n*sz):w.cell? ⟨g,j,none⟩=some (.int .i64 (xs.getD j 0)):=by
 obtain ⟨hl,cur,hg,_,_,_,ht⟩:=h
 rw [cell_of_row w g j cur T (0,0) hg]
 have h2:(cur.toList.take (n*sz))[j]? =(xs.map (Value.int .i64))[j]?:=by rw [ht]
 rw [List.getElem?_take,if_pos hj] at h2
 simp only [Array.getElem?_toList] at h2
 rw [h2]
 simp [List.getD,List.getElem?_eq_getElem (show j<xs.length by omega)]
theorem frozen (h:RowT w T sz g n cap xs) (j:Nat):w.frozen? ⟨g,j,none⟩=false:=by
 obtain ⟨_,cur,hg,_⟩:=h
 exact frozen_of_row w g j cur T hg
theorem set (h:RowT w T sz g n cap xs) (j:Nat) (v:Int):RowT (w.setCell ⟨g,j,none⟩ (.int .i64 v)) T sz g n cap (xs.set j v):=by
 obtain ⟨hl,cur,hg,h1,h2,h3,ht⟩:=h
 refine ⟨by simpa using hl,cur.setIfInBounds j (.int .i64 v),heap_setCell_same w g j cur _ _ hg,h1,h2,by simpa using h3,?_⟩
 rw [Array.toList_setIfInBounds,List.map_set,←ht,List.take_set]
theorem of_block (h:RowT w T sz g n cap xs) (hb:w'.heap[g]? =w.heap[g]?):RowT w' T sz g n cap xs:=by
 obtain ⟨hl,cur,hg,r⟩:=h
 exact ⟨hl,cur,hb.trans hg,r⟩
theorem below {B:Nat} (h:RowT w T sz g n cap xs) (hb:Below B w w') (hg:g<B):RowT w' T sz g n cap xs:=h.of_block (hb.block g hg)
theorem grown {row:Option Nat} (h:RowT w T sz g n cap xs) (hb:w.grownBy w' row) (hg:some g≠row):RowT w' T sz g n cap xs:=h.of_block (hb.block g h.lt hg)
theorem alloc (h:RowT w T sz g n cap xs) (o:Obj):RowT (w.alloc o) T sz g n cap xs:=h.of_block (Below.heap_alloc w o g h.lt)
theorem drewN (h:RowT w T sz g n cap xs) (m:Nat):RowT (w.drewN m) T sz g n cap xs:=h.of_block rfl
theorem other (h:RowT w T sz g n cap xs) {a:Addr} (ha:a.block≠g) (u:Value):RowT (w.setCell a u) T sz g n cap xs:=h.of_block (Below.heap_setCell w a u g (by omega))
theorem rd (h:RowT w T sz g n cap xs):Rd w (some ⟨g,0,none⟩) xs:=fun k hk=>⟨g,0,rfl,h.lt,by rw [Nat.zero_add];exact h.cell (by have:=h.len;omega)⟩
end RowT
def RowA (w:World) (T sz B:Nat) (ad:Option Addr) (n cap:Nat) (xs:List Int):Prop:=
 (ad=none∧n=0∧cap=0∧xs=[])∨ ∃g,ad=some ⟨g,0,none⟩∧B≤g∧RowT w T sz g n cap xs
namespace RowA
variable {w w' : World} {T sz B n cap : Nat} {ad : Option Addr} {xs : List Int}
theorem mk {g:Nat} (h:RowT w T sz g n cap xs) (hB:B≤g):RowA w T sz B (some ⟨g,0,none⟩) n cap xs:= .inr ⟨g,rfl,hB,h⟩
theorem none (w:World) (T sz B:Nat):RowA w T sz B none 0 0 []:= .inl ⟨rfl,rfl,rfl,rfl⟩
theorem len (h:RowA w T sz B ad n cap xs):xs.length=n*sz:=by
 rcases h with ⟨_,rfl,_,rfl⟩ | ⟨g,_,_,h⟩
 · simp
 · exact h.len
theorem rd (h:RowA w T sz B ad n cap xs):Rd w ad xs:=by
 rcases h with ⟨_,_,_,rfl⟩ | ⟨g,rfl,_,h⟩
 · exact Rd.nil _ _
 · exact h.rd
theorem below {B':Nat} (h:RowA w T sz B ad n cap xs) (hb:Below B' w w') (hg:w.heap.size≤B'):RowA w' T sz B ad n cap xs:=by
 rcases h with h | ⟨g,h1,h2,h⟩
 · exact .inl h
 · exact .inr ⟨g,h1,h2,h.below hb (by have:=h.lt;omega)⟩
theorem below' (h:RowA w T sz B ad n cap xs) (hb:Below w.heap.size w w'):RowA w' T sz B ad n cap xs:=h.below hb (Nat.le_refl _)
theorem grown {row:Option Nat} (h:RowA w T sz B ad n cap xs) (hb:w.grownBy w' row) (hg: ∀k,row=some k→k<B):RowA w' T sz B ad n cap xs:=by
 rcases h with h | ⟨g,h1,h2,h⟩
 · exact .inl h
 · exact .inr ⟨g,h1,h2,h.grown hb (fun e=>by have:=hg g e.symm;omega)⟩
theorem grown2 {row:Option Nat} (h:RowA w T sz B ad n cap xs) (hb:w.grownBy w' row) (hg: ∀k,row=some k→w.heap.size≤k∨blockOf ad≠some k):RowA w' T sz B ad n cap xs:=by
 rcases h with h | ⟨g,h1,h2,h⟩
 · exact .inl h
 · refine .inr ⟨g,h1,h2,h.grown hb (fun e=>?_)⟩
   have hl:=h.lt
   rcases hg g e.symm with h3 | h3
   · omega
   · subst h1;simp [blockOf] at h3
theorem grownS {o:Option Addr} (h:RowA w T sz B ad n cap xs) (hb:w.grownBy w' (blockOf o)) (hs: ∀b,blockOf o=some b→blockOf ad≠some b):RowA w' T sz B ad n cap xs:=
 h.grown2 hb (fun k hk=> .inr (hs k hk))
theorem drewN (h:RowA w T sz B ad n cap xs) (m:Nat):RowA (w.drewN m) T sz B ad n cap xs:=by
 rcases h with h | ⟨g,h1,h2,h⟩
 · exact .inl h
 · exact .inr ⟨g,h1,h2,h.drewN m⟩
theorem drew (h:RowA w T sz B ad n cap xs):RowA w.drew T sz B ad n cap xs:=h.drewN 1
theorem alloc (h:RowA w T sz B ad n cap xs) (o:Obj):RowA (w.alloc o) T sz B ad n cap xs:=h.below (Joins.below_alloc1 w o) (Nat.le_refl _)
theorem other (h:RowA w T sz B ad n cap xs) {a:Addr} (ha:a.block<B) (u:Value):RowA (w.setCell a u) T sz B ad n cap xs:=by
 rcases h with h | ⟨g,h1,h2,h⟩
 · exact .inl h
 · exact .inr ⟨g,h1,h2,h.other (by omega) u⟩
theorem bd (h:RowA w T sz B ad n cap xs): ∀b,blockOf ad=some b→B≤b∧b<w.heap.size:=by
 intro b hb
 rcases h with ⟨rfl,_⟩ | ⟨g,rfl,h2,h⟩
 · simp [blockOf] at hb
 · simp only [blockOf,Option.some.injEq] at hb
   subst hb
   exact ⟨h2,h.lt⟩
theorem mono {B':Nat} (h:RowA w T sz B ad n cap xs) (hB:B'≤B):RowA w T sz B' ad n cap xs:=by
 rcases h with h | ⟨g,h1,h2,h⟩
 · exact .inl h
 · exact .inr ⟨g,h1,by omega,h⟩
theorem toRow (h:RowA w T sz B ad n cap xs):w.ownsRow B T sz (.slice ad n cap) n (xs.map (Value.int .i64)):=by
 rcases h with ⟨rfl,rfl,rfl,rfl⟩ | ⟨g,rfl,hB,hl,cur,hg,h1,h2,h3,h4⟩
 · exact ⟨by simp, .inl ⟨rfl,rfl⟩⟩
 · exact ⟨by simp [hl], .inr ⟨g,cap,cur,rfl,hB,hg,h1,h2,by omega,h4⟩⟩
theorem ofRow {v:Value} (h:w.ownsRow B T sz v n (xs.map (Value.int .i64))): ∃ad cap,v= .slice ad n cap∧RowA w T sz B ad n cap xs:=by
 obtain ⟨hl,h⟩:=h
 simp at hl
 rcases h with ⟨rfl,rfl⟩ | ⟨g,cap,cur,rfl,hB,hg,h1,h2,h3,h4⟩
 · obtain rfl:xs=[]:=List.eq_nil_of_length_eq_zero (by simpa using hl)
   exact ⟨Option.none,0,rfl,RowA.none _ _ _ _⟩
 · exact ⟨_,cap,rfl, .inr ⟨g,rfl,hB,hl,cur,hg,h1,h2,by omega,h4⟩⟩
end RowA
theorem blockOf_ownT (ad:Option Addr) (n cap:Nat):(Value.slice ad n cap).ownBlock=blockOf ad:=by cases ad <;>rfl
def zeros (sz:Nat):Value:= .agg (List.replicate sz (Value.int .i64 0)).toArray
theorem madeT (sz n:Nat) (hs:1≤sz):(madeCells (List.replicate sz (Value.int .i64 0)).toArray n).toList=(List.replicate n 0).map (Value.int .i64):=by
 apply List.ext_getElem?
 intro j
 by_cases hj:j<n
 · have h2:j % sz<sz:=Nat.mod_lt _ (by omega)
   simp [madeCells,hj,h2]
 · simp [madeCells,hj]
theorem wp_makeT {P:Program} (w:World) {ops:Array Oper} {rest:List Oper} {o:Oper} {a:Act} {Q:Exit→Act→World→Prop}
   (hg:o.guard=none) (t e sz bytes:Nat) (ht:P.underlying t=some (.slice e)) (hi0:(P.info? e).map (fun i=>(i.zero,i.size,i.bytes))=some (some (zeros sz),sz,bytes)) (hsz:1≤sz) (hby:bytes≤4096)
   (l c:Operand) (hop:o.op=Op.makeSlice t l c) (kl kc:IntKind) (L C:Int) (n:Nat) (hl:a.eval l= .int kl L) (hc:a.eval c= .int kc C) (hL:L=(n:Int)) (hC:C=(n:Int)) (hn:n≤1048576)
   (hK: ∀w',RowT w' e sz w.heap.size n n (List.replicate (n*sz) 0)→Below w.heap.size w w'→wpList P ops Q rest (a.put o.dst (.slice (some ⟨w.heap.size,0,none⟩) n n)) w'):
   wpList P ops Q (o::rest) a w:=by
 obtain ⟨i,hi,hz0,hz1,hz2⟩:=info_parts hi0
 refine wpList_plain hg fun K hK'=>?_
 subst hL
 subst hC
 have m1:(bytes:Int)*(n:Int)≤4096*1048576:=Int.mul_le_mul (by omega) (by omega) (by omega) (by omega)
 have hr:=run_make (P:=P) w t e i (zeros sz) ht hi hz0 kl kc n n (by omega) (Int.le_refl _) (by rw [hz2];omega) (by omega)
 simp only [Int.toNat_natCast,hz1] at hr
 have hm:RowT (w.alloc (.cells (madeCells (zeros sz).cells (n*sz)) e)) e sz w.heap.size n n (List.replicate (n*sz) 0):=by
   refine ⟨by simp,_,heap_alloc_new w _,Nat.le_refl _,by unfold maxLen;omega,size_madeCells _ _,?_⟩
   rw [List.take_of_length_le (by simp [size_madeCells])]
   exact madeT sz (n*sz) hsz
 unfold Oper.wp
 simp [execOp,hop,hl,hc,hr,Result.andThen]
 exact hK' _ _ (hK _ hm (Joins.below_alloc1 _ _))
theorem rd_part {w:World} {ad:Option Addr} {ks:List Prt} (h:Rd w ad (flat ks)) {k:Nat} (hk:k<ks.length):
   ∃b off,ad=some ⟨b,off,none⟩∧b<w.heap.size∧w.cell? ⟨b,off+k*3,none⟩=some (.int .i64 (prt ks k).dx)∧w.cell? ⟨b,off+k*3+1,none⟩=some (.int .i64 (prt ks k).dy)∧w.cell? ⟨b,off+k*3+2,none⟩=some (.int .i64 (prt ks k).wt):=by
 have hl:=flat_len ks
 obtain ⟨b,off,h1,h2,h3⟩:=h.at (by omega)
 obtain ⟨e1,e2,e3⟩:=flat_at ks k hk
 refine ⟨b,off,h1,h2,?_,?_,?_⟩
 · rw [←e1,Nat.mul_comm k 3];exact h3 _ (by omega)
 · rw [←e2,Nat.mul_comm k 3,Nat.add_assoc];exact h3 _ (by omega)
 · rw [←e3,Nat.mul_comm k 3,Nat.add_assoc];exact h3 _ (by omega)
theorem infoCell:(Tryz.prog.info? 149).map (fun i=>(i.zero,i.size,i.bytes))=some (some (zeros 2),2,16):=by kernel_rfl
def RowVA (w:World) (B:Nat) (ad:Option Addr) (n cap:Nat) (L:List PV):Prop:=
 L.length=n∧((ad=none∧n=0∧cap=0)∨ ∃g,ad=some ⟨g,0,none⟩∧B≤g∧RowV w g cap L)
namespace RowVA
variable {w w' : World} {B n cap : Nat} {ad : Option Addr} {L : List PV}
theorem nil (w:World) (B:Nat):RowVA w B none 0 0 []:=⟨rfl, .inl ⟨rfl,rfl,rfl⟩⟩
theorem mk {g:Nat} (h:RowV w g cap L) (hB:B≤g) (hl:L.length=n):RowVA w B (some ⟨g,0,none⟩) n cap L:=⟨hl, .inr ⟨g,rfl,hB,h⟩⟩
theorem below (h:RowVA w B ad n cap L) (hb:Below w.heap.size w w'):RowVA w' B ad n cap L:=
 ⟨h.1,by
   rcases h.2 with h0 | ⟨g,h1,h2,hr⟩
   · exact .inl h0
   · exact .inr ⟨g,h1,h2,hr.below hb⟩⟩
theorem alloc (h:RowVA w B ad n cap L) (o:Obj):RowVA (w.alloc o) B ad n cap L:=h.below (Joins.below_alloc1 w o)
theorem bd (h:RowVA w B ad n cap L): ∀b,blockOf ad=some b→B≤b∧b<w.heap.size:=by
 intro b hb
 rcases h.2 with ⟨h0,_⟩ | ⟨g,h1,h2,hr⟩
 · rw [h0] at hb;cases hb
 · rw [h1] at hb
   simp only [blockOf,Option.some.injEq] at hb
   subst hb
   exact ⟨h2,hr.lt⟩
theorem toRow (h:RowVA w B ad n cap L):w.ownsRow B 27 3 (.slice ad n cap) n (flatV L):=by
 obtain ⟨hl,h⟩:=h
 refine ⟨by rw [flatV_len,hl],?_⟩
 rcases h with ⟨rfl,rfl,rfl⟩ | ⟨g,rfl,hB,cur,hg,h1,h2,h3,h4⟩
 · exact .inl ⟨rfl,rfl⟩
 · exact .inr ⟨g,cap,cur,rfl,hB,hg,by omega,h2,by omega,by rw [←hl];exact h4⟩
theorem ofRow {v:Value} (hl:L.length=n) (h:w.ownsRow B 27 3 v n (flatV L)): ∃ad cap,v= .slice ad n cap∧RowVA w B ad n cap L:=by
 obtain ⟨_,h⟩:=h
 rcases h with ⟨rfl,rfl⟩ | ⟨g,cap,cur,rfl,hB,hg,h1,h2,h3,h4⟩
 · exact ⟨Option.none,0,rfl,hl, .inl ⟨rfl,rfl,rfl⟩⟩
 · exact ⟨_,cap,rfl,hl, .inr ⟨g,rfl,hB,cur,hg,by omega,h2,by omega,by rw [hl];exact h4⟩⟩
end RowVA
end Go.Proofs.YtanccoopbgamdaaGreatDoor
