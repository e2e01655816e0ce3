/- Facts on which this claim rests, 5. -/
import Derived.Test.YtlenfgdjdianiaaGreatDoorF1
set_option linter.all false
set_option maxHeartbeats 6400000
namespace Go.Proofs.YtlenfgdjdianiaaGreatDoor
section
open Go.RowKit Tq Go.Proofs.Tryz
variable {a : Addr} {j k : Nat}
structure PV where
 W:Int
 H:Int
 a:Option Addr
 n:Nat
 c:Nat
 ink:List Int
instance:Coe PV (Array Value):=⟨fun q=>#[.int .i64 q.W, .int .i64 q.H, .slice q.a q.n q.c]⟩
def PV.pic (p:PV):Pic:=⟨p.W,p.H,p.ink⟩
def PV.val (p:PV):Value:= .agg ↑p
def PV.cells (p:PV):List Value:=[↑p.W,↑p.H, .slice p.a p.n p.c]
def noV:PV:=⟨0,0,none,0,0,[]⟩
def pv (L:List PV) (k:Nat):PV:=L.getD k noV
def yZ (L:List PV):List Value:=L.flatMap PV.cells
theorem zCr (L:List PV):(yZ L).length=L.length*3:=by
 induction L with
 | nil=>rfl
 | cons p r i=>unfold yZ at i⊢;simp only [List.flatMap_cons,Yn,i];simp [PV.cells];omega
theorem zEm: ∀(L:List PV) (k:Nat),k<L.length->(yZ L)[k*3]? =some ↑(pv L k).W/\(yZ L)[k*3+1]? =some ↑(pv L k).H/\(yZ L)[k*3+2]? =some (.slice (pv L k).a (pv L k).n (pv L k).c)
 | [],k,h=>by simp at h
 | p::r,0,h=>by simp [yZ,PV.cells,pv]
 | p::r,k+1,h=>by
  have l:=zEm r k (by simpa using h);have i:(k+1)*3=k*3+1+1+1:=om;have q:yZ (p::r)=↑p.W::↑p.H:: .slice p.a p.n p.c::yZ r:=by simp [yZ,PV.cells]
  rw [q,i];simpa [pv] using l
theorem uV {L:List PV} {p:PV} (h:k<L.length):pv (L++ [p]) k=pv L k:=by
 unfold pv;simp [List.getD,List.getElem?_append_left h]
theorem ww {L:List PV} {p:PV}:pv (L++ [p]) L.length=p:=by
 unfold pv;simp [List.getD]
theorem xw {L:List PV} {p:PV} (h:k<L.length):pv (L.set k p) k=p:=by
 unfold pv;simp [List.getD,List.getElem?_set,h]
theorem kz {L:List PV} {p:PV} (h:k≠j):pv (L.set k p) j=pv L j:=by
 unfold pv;simp [List.getD,List.getElem?_set,h]
def RdV (w:World) (ad:Option Addr) (L:List PV):Prop:=
 ∀k,k<L.length-> ∃b off,ad=some ⟨b,off,none⟩/\b<w.heap.size/\w.cell? ⟨b,off+k*3,none⟩=some (.int .i64 (pv L k).W)/\w.cell? ⟨b,off+k*3+1,none⟩=some (.int .i64 (pv L k).H)/\w.cell? ⟨b,off+k*3+2,none⟩=some (.slice (pv L k).a (pv L k).n (pv L k).c)/\(pv L k).ink.length=(pv L k).n/\Rd w (pv L k).a (pv L k).ink
namespace RdV
variable {w w' : World} {ad : Option Addr} {L : List PV}
theorem nil (w:World) (ad:Option Addr):RdV w ad []:=fun _ hk=>by simp at hk
theorem below (h:RdV w ad L) (hb:Below w w w'):RdV w' ad L:=fun k hk=>by
 obtain ⟨b,off,h1,h2,h3,h4,q,l,i⟩:=h k hk;exact ⟨b,off,h1,Yb h2 hb.size,(hb.cell (p:=↑(b,off+k*3)) h2).trans h3,(hb.cell (p:=↑(b,off+k*3+1)) h2).trans h4,(hb.cell (p:=↑(b,off+k*3+2)) h2).trans q,l,i.below hb⟩
theorem alloc (h:RdV w ad L) (o:Obj):RdV (w.alloc o) ad L:=h.below (Joins.below_alloc1 w o)
theorem drew (h:RdV w ad L):RdV w.drew ad L:=h.below bR.drew
theorem cellsAt (h:RdV w ad L) (hk:k<L.length): ∃b off,ad=some ⟨b,off,none⟩/\b<w.heap.size/\w.cell? ⟨b,off+k*3,none⟩=some ↑(pv L k).W/\w.cell? ⟨b,off+k*3+1,none⟩=some ↑(pv L k).H/\w.cell? ⟨b,off+k*3+2,none⟩=some (.slice (pv L k).a (pv L k).n (pv L k).c):=by
 obtain ⟨b,off,h1,h2,h3,h4,i,_⟩:=h k hk;exact ⟨b,off,h1,h2,h3,h4,i⟩
theorem len (h:RdV w ad L) (hk:k<L.length):(pv L k).ink.length=(pv L k).n:=by
 obtain ⟨b,off,_,_,_,_,_,i,_⟩:=h k hk;exact i
theorem rd (h:RdV w ad L) (hk:k<L.length):Rd w (pv L k).a (pv L k).ink:=by
 obtain ⟨b,off,_,_,_,_,_,_,i⟩:=h k hk;exact i
end RdV
def RowV (w:World) (g cap:Nat) (L:List PV):Prop:=
 ∃cur,w.heap[g]? =some (.cells cur 31 (0,0))/\L.length<=cap/\cap<=maxLen/\cur.size=cap*3/\cur.toList.take (L.length*3)=yZ L
namespace RowV
variable {w w' : World} {g cap : Nat} {L : List PV}
theorem lt (h:RowV w g cap L):g<w.heap.size:=by
 obtain ⟨i,hg,_⟩:=h;exact (Array.getElem?_eq_some_iff.1 hg).1
theorem cellAt (h:RowV w g cap L) (q:j<L.length*3):w.cell? (g,j)=(yZ L)[j]?:=by
 obtain ⟨i,hg,_,_,_,l⟩:=h;rw [cell_of_row w g j i 31 (0,0) hg,<-l,List.getElem?_take,if_pos q];simp
theorem frozen (h:RowV w g cap L) (j:Nat):w.frozen? (g,j)=false:=by
 obtain ⟨i,hg,_⟩:=h;exact frozen_of_row w g j i 31 hg
theorem of_block (h:RowV w g cap L) (hb:w'.heap[g]? =w.heap[g]?):RowV w' g cap L:=by
 obtain ⟨i,hg,r⟩:=h;exact ⟨i,hb.trans hg,r⟩
theorem below (h:RowV w g cap L) (hb:Below w w w'):RowV w' g cap L:=h.of_block (hb.block g h.lt)
theorem other (h:RowV w g cap L) (ha:a.block≠g) (u:Value):RowV (w.setCell a u) g cap L:=h.of_block (Below.heap_setCell w a u g om)
theorem setAt (h:RowV w g cap L) {p:PV} (hk:k<L.length) (v:Value) (hf:(yZ L).set j v=yZ (L.set k p)):RowV (w.setCell (g,j) v) g cap (L.set k p):=by
 obtain ⟨i,hg,h1,h2,h3,l⟩:=h;refine ⟨i.setIfInBounds j v,heap_setCell_same w g j i _ _ hg,by simpa using h1,h2,by simpa using h3,?_⟩;rw [List.length_set,Array.toList_setIfInBounds,<-hf,<-l,List.take_set]
end RowV
theorem zCs: ∀(L:List PV) (k:Nat) (x:Int),k<L.length->(yZ L).set (k*3) ↑x=yZ (L.set k {pv L k with W:=x})
 | [],k,x,h=>by simp at h
 | p::r,0,x,h=>by simp [yZ,PV.cells,pv]
 | p::r,k+1,x,h=>by
  have l:=zCs r k x (by simpa using h);have s:(k+1)*3=k*3+1+1+1:=om;have i: ∀(q:PV) (r:List PV),yZ (q::r)=↑q.W::↑q.H:: .slice q.a q.n q.c::yZ r:=fun q r=>by simp [yZ,PV.cells]
  rw [s,i];simp only [List.set_cons_succ,l];rw [i];simp [pv]
theorem zCt: ∀(L:List PV) (k:Nat) (x:Int),k<L.length->(yZ L).set (k*3+1) ↑x=yZ (L.set k {pv L k with H:=x})
 | [],k,x,h=>by simp at h
 | p::r,0,x,h=>by simp [yZ,PV.cells,pv]
 | p::r,k+1,x,h=>by
  have l:=zCt r k x (by simpa using h);have s:(k+1)*3+1=k*3+1+1+1+1:=om;have i: ∀(q:PV) (r:List PV),yZ (q::r)=↑q.W::↑q.H:: .slice q.a q.n q.c::yZ r:=fun q r=>by simp [yZ,PV.cells]
  rw [s,i];simp only [List.set_cons_succ];rw [l,i];simp [pv]
structure OwnV (w:World) (B:Nat) (ad:Option Addr) (n cap:Nat) (L:List PV):Prop where
 len:L.length=n
 row:(ad=none/\n=0/\cap=0)\/ ∃g,ad=some ⟨g,0,none⟩/\B<=g/\RowV w g cap L
 ink: ∀k,k<n->OwnA w B (pv L k).a (pv L k).n (pv L k).c (pv L k).ink
 off: ∀k b,k<n->zL (pv L k).a=some b->zL ad≠some b
 apart: ∀j k b,j<k->k<n->zL (pv L j).a=some b->zL (pv L k).a≠some b
namespace OwnV
variable {w w' : World} {B n cap : Nat} {ad : Option Addr} {L : List PV}
theorem nil (w:World) (B:Nat):OwnV w B none 0 0 []:=⟨rfl, .inl ⟨rfl,rfl,rfl⟩,fun k hk=>om,fun k b hk=>om,fun j k b h1 hk=>om⟩
theorem rd (h:OwnV w B ad n cap L):RdV w ad L:=fun k hk=>by
 have i:k<n:=by rw [<-h.len];exact hk
 rcases h.row with ⟨_,t,_⟩ | ⟨g,hg,_,hr⟩
 omega;obtain ⟨s,l,q⟩:=zEm L k hk;refine ⟨g,0,hg,hr.lt,?_,?_,?_,(h.ink k i).len,(h.ink k i).rd⟩;rw [Nat.zero_add,hr.cellAt om,s];rw [Nat.zero_add,hr.cellAt om,l];rw [Nat.zero_add,hr.cellAt om,q]
theorem below (h:OwnV w B ad n cap L) (hb:Below w w w'):OwnV w' B ad n cap L:=
 ⟨h.len,by
  rcases h.row with i | ⟨g,hg,l,hr⟩
  exact .inl i
  exact .inr ⟨g,hg,l,hr.below hb⟩,fun k hk=>(h.ink k hk).zA hb,h.off,h.apart⟩
theorem alloc (h:OwnV w B ad n cap L) (o:Obj):OwnV (w.alloc o) B ad n cap L:=h.below (Joins.below_alloc1 w o)
theorem drew (h:OwnV w B ad n cap L):OwnV w.drew B ad n cap L:=h.below bR.drew
theorem mono {B':Nat} (h:OwnV w B ad n cap L) (l:B'<=B):OwnV w B' ad n cap L:=
 ⟨h.len,by
  rcases h.row with i | ⟨g,hg,h1,hr⟩
  exact .inl i
  exact .inr ⟨g,hg,om,hr⟩,fun k hk=>(h.ink k hk).mono l,h.off,h.apart⟩
def blocks (ad:Option Addr) (L:List PV) (i:Nat):Prop:=zL ad=some i\/ ∃k,k<L.length/\zL (pv L k).a=some i
theorem bd (h:OwnV w B ad n cap L): ∀i,blocks ad L i->B<=i/\i<w.heap.size:=by
 rintro i (hi | ⟨k,hk,hi⟩);rcases h.row with ⟨l,_⟩ | ⟨g,hg,h1,hr⟩
 rw [l] at hi;cases hi;rw [hg] at hi;simp only [zL,Option.some.injEq] at hi;subst hi;exact ⟨h1,hr.lt⟩;exact (h.ink k (by rw [<-h.len];exact hk)).bd i hi
end OwnV
end
section
variable {b c e x y : Int} {k m n : Nat}
open Tq Go.Proofs.Tryz
structure Prt where
 dx:Int
 dy:Int
 wt:Int
def zRT:Prt:=⟨0,0,0⟩
def Prt.nums (p:Prt):List Int:=[p.dx,p.dy,p.wt]
def flat (ks:List Prt):List Int:=ks.flatMap Prt.nums
def prt (ks:List Prt) (k:Nat):Prt:=ks.getD k zRT
theorem zNJ (ks:List Prt):(flat ks).length=3*ks.length:=by
 induction ks with
 | nil=>rfl
 | cons p ks i=>simp only [flat,List.flatMap_cons,Yn,List.length_cons] at i⊢;rw [i];simp [Prt.nums];omega
theorem zKa (p:Prt) (ks:List Prt):flat (p::ks)=p.dx::p.dy::p.wt::flat ks:=rfl
theorem zNw (p:Prt) (ks:List Prt) (k:Nat):prt (p::ks) (k+1)=prt ks k:=by simp [prt]
theorem zPY (ks:List Prt) (k:Nat) (h:k<ks.length):(flat ks).getD (3*k) 0=(prt ks k).dx/\(flat ks).getD (3*k+1) 0=(prt ks k).dy/\(flat ks).getD (3*k+2) 0=(prt ks k).wt:=by
 induction ks generalizing k with
 | nil=>simp at h
 | cons p ks i=>
  cases k with
  | zero=>exact ⟨rfl,rfl,rfl⟩
  | succ k=>
   have:=i k (by simpa using h);rw [zKa,zNw,show 3*(k+1)=3*k+1+1+1 by omega];simpa [List.getD] using this
theorem zOd (ks:List Prt) (k:Nat) (h:k<ks.length):ks.take (k+1)=ks.take k++ [prt ks k]:=by
 rw [Ym h];simp [prt,h]
def jp (p:Prt):Bool:=decide (-4<=p.dx/\p.dx<=4/\0<=p.dy/\p.dy<=4/\(p.dy=0->1<=p.dx)/\1<=p.wt/\p.wt<=100)
def ko (L:List Prt) (x y:Int):Bool:=L.any (fun q=>decide (q.dx=x/\q.dy=y))
def xg (ks:List Prt) (k:Nat):Bool:=(List.range k).all (fun i=>jp (prt ks i) && !ko (ks.take i) (prt ks i).dx (prt ks i).dy)
def xF (ks:List Prt):Bool:=decide (1<=ks.length/\ks.length<=12) && xg ks ks.length
theorem zBQ (x y:Int):ko [] x y=false:=rfl
theorem Xn (ks:List Prt) (k:Nat) (x y:Int) (h:k<ks.length):ko (ks.take (k+1)) x y=(ko (ks.take k) x y || decide ((prt ks k).dx=x/\(prt ks k).dy=y)):=by
 unfold ko;rw [zOd ks k h,List.any_append];simp
theorem zDT {ks:List Prt} (h:ko (ks.take k) x y=true) (hk:k<=m):ko (ks.take m) x y=true:=by
 unfold ko at*;rw [List.any_eq_true] at*;obtain ⟨q,i,h2⟩:=h;refine ⟨q,?_,h2⟩;have e:ks.take k=(ks.take m).take k:=by rw [List.take_take];congr 1;omega
 rw [e] at i;exact List.mem_of_mem_take i
theorem ZL (ks:List Prt) (k:Nat):xg ks (k+1)=(xg ks k && (jp (prt ks k) && !ko (ks.take k) (prt ks k).dx (prt ks k).dy)):=by
 unfold xg;rw [List.range_succ,List.all_append];simp
theorem zDD {ks:List Prt} (h:xg ks m=true) (hk:k<=m):xg ks k=true:=by
 unfold xg at*;rw [Yp] at*;intro i hi;exact h i (by simp at hi⊢;omega)
theorem zKx {ks:List Prt} (hk:k<m) (h:(jp (prt ks k) && !ko (ks.take k) (prt ks k).dx (prt ks k).dy)=false):xg ks m=false:=by
 by_cases c:xg ks m=true
 have:=zDD c (show k+1<=m by omega);rw [ZL,h] at this;simp at this;simpa using c
theorem JM {ks:List Prt} (hn:ks.length=n) (h: ¬(1<=n/\n<=12)):xF ks=false:=by unfold xF;rw [hn,decide_eq_false h];rfl
theorem YB {ks:List Prt} (hn:ks.length=n) (hk:k<n) (h:(jp (prt ks k) && !ko (ks.take k) (prt ks k).dx (prt ks k).dy)=false):xF ks=false:=by
 unfold xF;rw [hn,zKx hk h];simp
theorem zAx {ks:List Prt} (hn:ks.length=n) (h1:1<=n) (h2:n<=12) (h:xg ks n=true):xF ks=true:=by
 unfold xF;rw [hn,h,decide_eq_true ⟨h1,h2⟩];rfl
theorem qv {ks:List Prt} (hn:ks.length=n) (h:xF ks=true):1<=n/\n<=12/\xg ks n=true:=by
 unfold xF at h;rw [hn] at h;simp only [Bool.and_eq_true,decide_eq_true_eq] at h;exact ⟨h.1.1,h.1.2,h.2⟩
theorem vc {p:Prt} (h:jp p=true):-4<=p.dx/\p.dx<=4/\0<=p.dy/\p.dy<=4/\(p.dy=0->1<=p.dx)/\1<=p.wt/\p.wt<=100:=of_decide_eq_true h
theorem vZ {ks:List Prt} (h:xg ks n=true) (hk:k<n):jp (prt ks k)=true/\ko (ks.take k) (prt ks k).dx (prt ks k).dy=false:=by
 have:=zDD h (show k+1<=n by omega);rw [ZL] at this;simp only [Bool.and_eq_true,Bool.not_eq_true'] at this;exact this.2
def yB (ks:List Prt):Nat->Int
 | 0=>0
 | k+1=>yB ks k+(prt ks k).wt
def YJ (ks:List Prt):Int:=if xF ks=true then yB ks ks.length else 0
theorem zBh {ks:List Prt} (h: ¬xF ks=true):YJ ks=0:=by unfold YJ;rw [if_neg h]
theorem ZU {ks:List Prt} (hn:ks.length=n) (h:xF ks=true):YJ ks=yB ks n:=by unfold YJ;rw [if_pos h,hn]
theorem wA {ks:List Prt} (h:xg ks n=true) (k:Nat) (hk:k<=n):(k:Int)<=yB ks k/\yB ks k<=100*k:=by
 induction k with
 | zero=>simp [yB]
 | succ k i=>
  have h1:=i om;have h2:=vc (vZ h (show k<n by omega)).1;simp only [yB];omega
def xQ (ks:List Prt) (W e:Int) (k:Nat):Int:=e*(prt ks k).wt/W
def xB (ks:List Prt) (W e:Int):Nat->Int
 | 0=>0
 | k+1=>xB ks W e k+xQ ks W e k
def yI (ks:List Prt) (W e:Int):List Int:=(gen ks.length (xQ ks W e)).set 0 (xQ ks W e 0+(e - xB ks W e ks.length))
theorem Xo (ks:List Prt) (W e:Int):(yI ks W e).length=ks.length:=by simp [yI,zZ]
theorem zBX (ks:List Prt) (W e:Int) (k:Nat) (hk:k<ks.length):(yI ks W e).getD k 0=xQ ks W e k+(if k=0 then e - xB ks W e ks.length else 0):=by
 unfold yI;rw [kw _ _ _ _ (by rw [zZ];omega)];by_cases h:k=0
 subst h;simp;rw [if_neg om,if_neg h,yN _ _ _ hk];omega
theorem zMB {ks:List Prt} (h:xg ks n=true) (k:Nat) (hk:k<n) (hn:1<=n):
 xQ ks (yB ks n) e k*yB ks n<=e*(prt ks k).wt/\e*(prt ks k).wt<xQ ks (yB ks n) e k*yB ks n+yB ks n:=by
 have h1:=(wA h n nI).1;unfold xQ;have a:=Int.emod_add_mul_ediv (e*(prt ks k).wt) (yB ks n);have b:=Yg (e*(prt ks k).wt) (show yB ks n≠0 by omega);have c:=Ye (e*(prt ks k).wt) (show 0<yB ks n by omega);rw [Ys (e*(prt ks k).wt/yB ks n)];omega
theorem zPi (h1:1<=b) (h2:b<=100) (hc:0<=c) (l:-c<=e) (i:e<=c):-(c*100)<=e*b/\e*b<=c*100:=by
 have t:=YA h2 hc;have s:=Yo i (show 0<=b by omega);have q:=Yo l (show 0<=b by omega);rw [Int.neg_mul] at q;omega
theorem qT {ks:List Prt} (h:xg ks n=true) (k:Nat) (hk:k<n) (l:-1000000<=e) (i:e<=1000000):
 -100000000<=e*(prt ks k).wt/\e*(prt ks k).wt<=100000000/\-100000000<=xQ ks (yB ks n) e k/\xQ ks (yB ks n) e k<=100000000:=by
 have h1:=(wA h n nI).1;have h2:=vc (vZ h hk).1;obtain ⟨s,q⟩:=zPi (e:=e) (c:=1000000) h2.2.2.2.2.2.1 h2.2.2.2.2.2.2 om l i;refine ⟨om,om,?_,?_⟩;unfold xQ
 exact Int.le_ediv_of_mul_le om (by
  have:=YA (show (1:Int)<=yB ks n by omega) (show (0:Int)<=100000000 by omega)
  rw [Int.neg_mul];omega)
 unfold xQ
 exact Int.ediv_le_of_le_mul om (by
  have:=YA (show (1:Int)<=yB ks n by omega) (show (0:Int)<=100000000 by omega)
  omega)
theorem YE {ks:List Prt} (h:xg ks n=true) (l:-1000000<=e) (i:e<=1000000) (k:Nat) (hk:k<=n):-(100000000*(k:Int))<=xB ks (yB ks n) e k/\xB ks (yB ks n) e k<=100000000*k:=by
 induction k with
 | zero=>simp [xB]
 | succ k q=>
  have h1:=q om;have h2:=qT h k om l i;simp only [xB];omega
theorem zMA {ks:List Prt} (h:xg ks n=true) (k:Nat) (hk:k<=n):xB ks (yB ks n) e k*yB ks n<=e*yB ks k/\e*yB ks k<=xB ks (yB ks n) e k*yB ks n+(k:Int)*(yB ks n - 1):=by
 induction k with
 | zero=>simp [xB,yB]
 | succ k l=>
  obtain ⟨a,b⟩:=l om;obtain ⟨c,d⟩:=zMB (e:=e) h k om om;simp only [xB,yB];rw [Int.add_mul,Int.mul_add]
  have i:((k+1:Nat):Int)*(yB ks n - 1)=(k:Int)*(yB ks n - 1)+(yB ks n - 1):=by
   rw [Int.natCast_add,Int.add_mul];simp
  rw [i];omega
theorem zJL {ks:List Prt} (h:xg ks n=true) (hn:1<=n):xB ks (yB ks n) e n<=e/\e<=xB ks (yB ks n) e n+n - 1:=by
 obtain ⟨a,b⟩:=zMA (e:=e) h n nI;have h1:=(wA h n nI).1;have i:0<yB ks n:=om;refine ⟨Int.le_of_mul_le_mul_right a i,?_⟩
 have c:e*yB ks n<(xB ks (yB ks n) e n+n)*yB ks n:=by
  rw [Int.add_mul];rw [Int.mul_sub] at b;omega
 have:=Int.lt_of_mul_lt_mul_right c om;omega
end
section
open Go.RowKit Tq Go.Proofs.Tryz
variable {B B' T cap cap' g k n off : Nat} {P : Program} {Q : Exit → Act → World → Prop} {S2 : Nat → Prop} {a b c e f h : Prop} {ad ad' o : Option Addr} {cs : Array Value} {ops : Array Oper} {row : Option Nat} {v : Value} {w : World} {xs : List Int}
def RowT (w:World) (T sz g n cap:Nat) (xs:List Int):Prop:=
 xs.length=n*sz/\ ∃cur,w.heap[g]? =some (.cells cur T (0,0))/\n<=cap/\cap<=maxLen/\cur.size=cap*sz/\cur.toList.take (n*sz)=xs.map (Value.int .i64)
namespace RowT
variable {w w' : World} {T sz g n cap : Nat} {xs : List Int}
theorem len (h:RowT w T sz g n cap xs):xs.length=n*sz:=h.1
theorem lt (h:RowT w T sz g n cap xs):g<w.heap.size:=by
 obtain ⟨_,i,hg,_⟩:=h;exact (Array.getElem?_eq_some_iff.1 hg).1
theorem cell (h:RowT w T sz g n cap xs) {j:Nat} (q:j<n*sz):w.cell? (g,j)=some ↑(xs.getD j 0):=by
 obtain ⟨hl,i,hg,_,_,_,l⟩:=h;rw [cell_of_row w g j i T (0,0) hg];have h2:(i.toList.take (n*sz))[j]? =(xs.map (Value.int .i64))[j]?:=by rw [l]
 rw [List.getElem?_take,if_pos q] at h2;simp only [Array.getElem?_toList] at h2;rw [h2];simp [List.getD,Ya (show j<xs.length by omega)]
theorem frozen (h:RowT w T sz g n cap xs) (j:Nat):w.frozen? (g,j)=false:=by
 obtain ⟨_,i,hg,_⟩:=h;exact frozen_of_row w g j i T hg
theorem set (h:RowT w T sz g n cap xs) (j:Nat) (v:Int):RowT (w.setCell (g,j) ↑v) T sz g n cap (xs.set j v):=by
 obtain ⟨hl,i,hg,h1,h2,h3,l⟩:=h;refine ⟨by simpa using hl,i.setIfInBounds j ↑v,heap_setCell_same w g j i _ _ hg,h1,h2,by simpa using h3,?_⟩;rw [Array.toList_setIfInBounds,List.map_set,<-l,List.take_set]
theorem of_block (h:RowT w T sz g n cap xs) (hb:w'.heap[g]? =w.heap[g]?):RowT w' T sz g n cap xs:=by
 obtain ⟨hl,i,hg,r⟩:=h;exact ⟨hl,i,hb.trans hg,r⟩
theorem below (h:RowT w T sz g n cap xs) (hb:Below B w w') (hg:g<B):RowT w' T sz g n cap xs:=h.of_block (hb.block g hg)
theorem grown (h:RowT w T sz g n cap xs) (hb:w.grownBy w' row) (hg:some g≠row):RowT w' T sz g n cap xs:=h.of_block (hb.block g h.lt hg)
theorem alloc (h:RowT w T sz g n cap xs) (o:Obj):RowT (w.alloc o) T sz g n cap xs:=h.of_block (Below.heap_alloc w o g h.lt)
theorem drewN (h:RowT w T sz g n cap xs) (m:Nat):RowT (w.drewN m) T sz g n cap xs:=h.of_block rfl
theorem other (h:RowT w T sz g n cap xs) {a:Addr} (ha:a.block≠g) (u:Value):RowT (w.setCell a u) T sz g n cap xs:=h.of_block (Below.heap_setCell w a u g om)
theorem rd (h:RowT w T sz g n cap xs):Rd w ↑g xs:=fun k hk=>⟨g,0,rfl,h.lt,by rw [Nat.zero_add];exact h.cell (og h.len)⟩
end RowT
def RowA (w:World) (T sz B:Nat) (ad:Option Addr) (n cap:Nat) (xs:List Int):Prop:=
 (ad=none/\n=0/\cap=0/\xs=[])\/ ∃g,ad=some ⟨g,0,none⟩/\B<=g/\RowT w T sz g n cap xs
namespace RowA
variable {w w' : World} {T sz B n cap : Nat} {ad : Option Addr} {xs : List Int}
theorem mk (h:RowT w T sz g n cap xs) (i:B<=g):RowA w T sz B ↑g n cap xs:= .inr ⟨g,rfl,i,h⟩
theorem none (w:World) (T sz B:Nat):RowA w T sz B none 0 0 []:= .inl ⟨rfl,rfl,rfl,rfl⟩
theorem len (h:RowA w T sz B ad n cap xs):xs.length=n*sz:=by
 rcases h with ⟨_,rfl,_,rfl⟩ | ⟨g,_,_,h⟩
 simp;exact h.len
theorem rd (h:RowA w T sz B ad n cap xs):Rd w ad xs:=by
 rcases h with ⟨_,_,_,rfl⟩ | ⟨g,rfl,_,h⟩
 exact Rd.nil _ _;exact h.rd
theorem below {B':Nat} (h:RowA w T sz B ad n cap xs) (hb:Below B' w w') (hg:w.heap.size<=B'):RowA w' T sz B ad n cap xs:=by
 rcases h with h | ⟨g,h1,h2,h⟩
 exact .inl h;exact .inr ⟨g,h1,h2,h.below hb (og h.lt)⟩
theorem zA (h:RowA w T sz B ad n cap xs) (hb:Below w w w'):RowA w' T sz B ad n cap xs:=h.below hb nI
theorem grown {row:Option Nat} (h:RowA w T sz B ad n cap xs) (hb:w.grownBy w' row) (hg: ∀k,row=some k->k<B):RowA w' T sz B ad n cap xs:=by
 rcases h with h | ⟨g,h1,h2,h⟩
 exact .inl h;exact .inr ⟨g,h1,h2,h.grown hb (fun e=>by have:=hg g e.symm;omega)⟩
theorem grown2 (h:RowA w T sz B ad n cap xs) (hb:w.grownBy w' row) (hg: ∀k,row=some k->w.heap.size<=k\/zL ad≠some k):RowA w' T sz B ad n cap xs:=by
 rcases h with h | ⟨g,h1,h2,h⟩
 exact .inl h;refine .inr ⟨g,h1,h2,h.grown hb (fun e=>?_)⟩;have hl:=h.lt;rcases hg g e.symm with h3 | h3
 omega;subst h1;simp [zL] at h3
theorem zG (h:RowA w T sz B ad n cap xs) (hb:w.grownBy w' (zL o)) (i: ∀b,zL o=some b->zL ad≠some b):RowA w' T sz B ad n cap xs:=
 h.grown2 hb (fun k hk=> .inr (i k hk))
theorem drewN (h:RowA w T sz B ad n cap xs) (m:Nat):RowA (w.drewN m) T sz B ad n cap xs:=by
 rcases h with h | ⟨g,h1,h2,h⟩
 exact .inl h;exact .inr ⟨g,h1,h2,h.drewN m⟩
theorem drew (h:RowA w T sz B ad n cap xs):RowA w.drew T sz B ad n cap xs:=h.drewN 1
theorem alloc (h:RowA w T sz B ad n cap xs) (o:Obj):RowA (w.alloc o) T sz B ad n cap xs:=h.below (Joins.below_alloc1 w o) nI
theorem other (h:RowA w T sz B ad n cap xs) {a:Addr} (ha:a.block<B) (u:Value):RowA (w.setCell a u) T sz B ad n cap xs:=by
 rcases h with h | ⟨g,h1,h2,h⟩
 exact .inl h;exact .inr ⟨g,h1,h2,h.other om u⟩
theorem bd (h:RowA w T sz B ad n cap xs): ∀b,zL ad=some b->B<=b/\b<w.heap.size:=by
 intro b hb;rcases h with ⟨rfl,_⟩ | ⟨g,rfl,h2,h⟩
 simp [zL] at hb;simp only [zL,Option.some.injEq] at hb;subst hb;exact ⟨h2,h.lt⟩
theorem mono (h:RowA w T sz B ad n cap xs) (i:B'<=B):RowA w T sz B' ad n cap xs:=by
 rcases h with h | ⟨g,h1,h2,h⟩
 exact .inl h;exact .inr ⟨g,h1,om,h⟩
theorem toRow (h:RowA w T sz B ad n cap xs):w.ownsRow B T sz (.slice ad n cap) n (xs.map (Value.int .i64)):=by
 rcases h with ⟨rfl,rfl,rfl,rfl⟩ | ⟨g,rfl,l,hl,i,hg,h1,h2,h3,h4⟩
 exact ⟨sI, .inl ⟨rfl,rfl⟩⟩;exact ⟨by simp [hl], .inr ⟨g,cap,i,rfl,l,hg,h1,h2,om,h4⟩⟩
theorem ofRow (h:w.ownsRow B T sz v n (xs.map (Value.int .i64))): ∃ad cap,v= .slice ad n cap/\RowA w T sz B ad n cap xs:=by
 obtain ⟨hl,h⟩:=h;simp at hl;rcases h with ⟨rfl,rfl⟩ | ⟨g,cap,i,rfl,l,hg,h1,h2,h3,h4⟩
 obtain rfl:xs=[]:=List.eq_nil_of_length_eq_zero (by simpa using hl);exact ⟨Option.none,0,rfl,RowA.none _ _ _ _⟩;exact ⟨_,cap,rfl, .inr ⟨g,rfl,l,hl,i,hg,h1,h2,om,h4⟩⟩
end RowA
theorem xj (ad:Option Addr) (n cap:Nat):(Value.slice ad n cap).ownBlock=zL ad:=by cases ad <;>rfl
def Xf (sz:Nat):Value:= .agg (List.replicate sz (Value.int .i64 0)).toArray
theorem zRS (sz n:Nat) (l:1<=sz):(madeCells (List.replicate sz (Value.int .i64 0)).toArray n).toList=(List.replicate n 0).map (Value.int .i64):=by
 apply List.ext_getElem?;intro j;by_cases i:j<n
 have h2:j % sz<sz:=Nat.mod_lt _ om;simp [madeCells,i,h2];simp [madeCells,i]
theorem zOm (w:World) {rest:List Oper} {o:Oper} {a:Act}
 (hg:o.guard=none) (t e sz q:Nat) (J:P.underlying t=some (.slice e)) (s:(P.info? e).map (fun i=>(i.zero,i.size,i.bytes))=some (some (Xf sz),sz,q)) (A:1<=sz) (M:q<=4096)
 (l c:Operand) (D:o.op=Op.makeSlice t l c) (H G:IntKind) (L C:Int) (n:Nat) (hl:a.eval l= .int H L) (hc:a.eval c= .int G C) (hL:L=(n:Int)) (I:C=(n:Int)) (hn:n<=1048576)
 (hK: ∀w',RowT w' e sz w n n (List.replicate (n*sz) 0)->Below w w w'->wpList P ops Q rest (a.put o.dst (.slice ↑w n n)) w'):
 wpList P ops Q (o::rest) a w:=by
 obtain ⟨i,hi,F,u,E⟩:=info_parts s;refine wpList_plain hg fun K z=>?_;subst hL;subst I;have N:(q:Int)*(n:Int)<=4096*1048576:=Yr om om om om;have hr:=run_make (P:=P) w t e i (Xf sz) J hi F H G n n om (Int.le_refl _) (by rw [E];omega) om;simp only [Yu,u] at hr
 have hm:RowT (w.alloc (.cells (madeCells (Xf sz).cells (n*sz)) e)) e sz w n n (List.replicate (n*sz) 0):=by
  refine ⟨sI,_,heap_alloc_new w _,nI,by unfold maxLen;omega,size_madeCells _ _,?_⟩;rw [Yk (by simp [size_madeCells])];exact zRS sz (n*sz) A
 unfold Oper.wp;simp [execOp,D,hl,hc,hr,Result.andThen];exact z _ _ (hK _ hm nJ)
theorem uC {ks:List Prt} (h:Rd w ad (flat ks)) (hk:k<ks.length):
 ∃b off,ad=some ⟨b,off,none⟩/\b<w.heap.size/\w.cell? ⟨b,off+k*3,none⟩=some ↑(prt ks k).dx/\w.cell? ⟨b,off+k*3+1,none⟩=some ↑(prt ks k).dy/\w.cell? ⟨b,off+k*3+2,none⟩=some ↑(prt ks k).wt:=by
 have hl:=zNJ ks;obtain ⟨b,off,h1,h2,h3⟩:=h.at om;obtain ⟨l,q,i⟩:=zPY ks k hk;refine ⟨b,off,h1,h2,?_,?_,?_⟩;rw [<-l,Nat.mul_comm k 3];exact h3 _ om;rw [<-q,Nat.mul_comm k 3,Nat.add_assoc];exact h3 _ om;rw [<-i,Nat.mul_comm k 3,Nat.add_assoc];exact h3 _ om
theorem zNS:(prog.info? 176).map (fun i=>(i.zero,i.size,i.bytes))=some (some (Xf 2),2,16):=zK
def RowVA (w:World) (B:Nat) (ad:Option Addr) (n cap:Nat) (L:List PV):Prop:=
 L.length=n/\((ad=none/\n=0/\cap=0)\/ ∃g,ad=some ⟨g,0,none⟩/\B<=g/\RowV w g cap L)
namespace RowVA
variable {w w' : World} {B n cap : Nat} {ad : Option Addr} {L : List PV}
theorem nil (w:World) (B:Nat):RowVA w B none 0 0 []:=⟨rfl, .inl ⟨rfl,rfl,rfl⟩⟩
theorem mk (h:RowV w g cap L) (i:B<=g) (hl:L.length=n):RowVA w B ↑g n cap L:=⟨hl, .inr ⟨g,rfl,i,h⟩⟩
theorem below (h:RowVA w B ad n cap L) (hb:Below w w w'):RowVA w' B ad n cap L:=
 ⟨h.1,by
  rcases h.2 with i | ⟨g,h1,h2,hr⟩
  exact .inl i
  exact .inr ⟨g,h1,h2,hr.below hb⟩⟩
theorem alloc (h:RowVA w B ad n cap L) (o:Obj):RowVA (w.alloc o) B ad n cap L:=h.below (Joins.below_alloc1 w o)
theorem bd (h:RowVA w B ad n cap L): ∀b,zL ad=some b->B<=b/\b<w.heap.size:=by
 intro b hb;rcases h.2 with ⟨i,_⟩ | ⟨g,h1,h2,hr⟩
 rw [i] at hb;cases hb;rw [h1] at hb;simp only [zL,Option.some.injEq] at hb;subst hb;exact ⟨h2,hr.lt⟩
theorem toRow (h:RowVA w B ad n cap L):w.ownsRow B 31 3 (.slice ad n cap) n (yZ L):=by
 obtain ⟨hl,h⟩:=h;refine ⟨by rw [zCr,hl],?_⟩;rcases h with ⟨rfl,rfl,rfl⟩ | ⟨g,rfl,l,i,hg,h1,h2,h3,h4⟩
 exact .inl ⟨rfl,rfl⟩;exact .inr ⟨g,cap,i,rfl,l,hg,om,h2,om,by rw [<-hl];exact h4⟩
theorem ofRow (hl:L.length=n) (h:w.ownsRow B 31 3 v n (yZ L)): ∃ad cap,v= .slice ad n cap/\RowVA w B ad n cap L:=by
 obtain ⟨_,h⟩:=h;rcases h with ⟨rfl,rfl⟩ | ⟨g,cap,i,rfl,l,hg,h1,h2,h3,h4⟩
 exact ⟨Option.none,0,rfl,hl, .inl ⟨rfl,rfl,rfl⟩⟩;exact ⟨_,cap,rfl,hl, .inr ⟨g,rfl,l,i,hg,om,h2,om,by rw [hl];exact h4⟩⟩
end RowVA
structure KeepT (S:Nat->Prop) (w w':World):Prop where
 os:w'.os=w.os
 tape:w'.tape=w.tape
 output:w'.output=w.output
 size:w.heap.size<=w'.heap.size
 block: ∀i,i<w.heap.size-> ¬S i->w'.heap[i]? =w.heap[i]?
namespace KeepT
variable {S : Nat → Prop} {w w' w2 : World}
theorem refl (S:Nat->Prop) (w:World):KeepT S w w:=⟨rfl,rfl,rfl,nI,fun _ _ _=>rfl⟩
theorem trans (h:KeepT S w w') (k:KeepT S w' w2):KeepT S w w2:=
 ⟨k.os.trans h.os,k.tape.trans h.tape,k.output.trans h.output,Yx h.size k.size,fun i hi l=>(k.block i (Yb hi h.size) l).trans (h.block i hi l)⟩
theorem zE (h:Below w w w'):KeepT S w w':=⟨h.os,h.tape,h.output,h.size,fun i hi _=>h.block i hi⟩
theorem ofGrown (h:w.grownBy w' row) (l: ∀b,row=some b->S b):KeepT S w w':=
 ⟨h.os,h.tape,h.output,h.size,fun i hi hn=>h.block i hi (fun e=>hn (l i e.symm))⟩
theorem below (h:KeepT S w w') (q: ∀i,S i->B<=i) (s:B<=w.heap.size):Below B w w':=
 ⟨h.os,h.tape,h.output,h.size,fun i hi=>h.block i om (fun l=>by have:=q i l;omega)⟩
theorem set (h:KeepT S w w') {a:Addr} (ha:S a.block) (u:Value):KeepT S w (w'.setCell a u):=
 ⟨h.os,h.tape,h.output,by simpa [World.setCell] using h.size,fun i hi l=>(Below.heap_setCell w' a u i (fun e=>l (by rw [e];exact ha))).trans (h.block i hi l)⟩
theorem call (h:KeepT S w w') (hb:Below w' w' w2):KeepT S w w2:=h.trans (zE hb)
theorem mono (h:KeepT S w w') (l: ∀i,S i->S2 i):KeepT S2 w w':=⟨h.os,h.tape,h.output,h.size,fun i hi h2=>h.block i hi (fun h3=>h2 (l i h3))⟩
theorem blk (h:KeepT S w w') (hb:Blk w g T cs) (i: ¬S g):Blk w' g T cs:=hb.of_block (h.block g hb.lt i)
theorem ownA (h:KeepT S w w') (hb:OwnA w B ad n cap xs) (i: ∀b,zL ad=some b-> ¬S b):OwnA w' B ad n cap xs:=by
 rcases hb with hb | ⟨g,h1,h2,hb⟩
 exact .inl hb;subst h1;exact .inr ⟨g,rfl,h2,hb.of_block (h.block g hb.lt (i g rfl))⟩
theorem rd (h:KeepT S w w') (hr:Rd w ad xs) (i: ∀b,zL ad=some b-> ¬S b):Rd w' ad xs:=fun k hk=>by
 obtain ⟨b,off,h1,h2,h3⟩:=hr k hk;subst h1;exact ⟨b,off,rfl,Yb h2 h.size,(World.cell?_of_block (by exact h.block b h2 (i b rfl))).trans h3⟩
theorem rowV {L:List PV} (h:KeepT S w w') (hr:RowV w g cap L) (i: ¬S g):RowV w' g cap L:=hr.of_block (h.block g hr.lt i)
theorem ownV {L:List PV} (h:KeepT S w w') (l:OwnV w B ad n cap L) (q: ∀i,OwnV.blocks ad L i-> ¬S i):OwnV w' B ad n cap L:=
 ⟨l.len,by
  rcases l.row with s | ⟨g,h1,h2,hr⟩
  exact .inl s;exact .inr ⟨g,h1,h2,h.rowV hr (q g (.inl (by rw [h1];rfl)))⟩,
  fun k hk=>h.ownA (l.ink k hk) (fun b hb=>q b (.inr ⟨k,by rw [l.len];exact hk,hb⟩)),l.off,l.apart⟩
end KeepT
theorem zGX {L M:List PV} (hl:L.length=M.length) (h: ∀k,k<L.length->(pv L k).W=(pv M k).W/\(pv L k).H=(pv M k).H/\(pv L k).a=(pv M k).a/\(pv L k).n=(pv M k).n/\(pv L k).c=(pv M k).c):yZ L=yZ M:=by
 induction L generalizing M with
 | nil=>
  cases M with
  | nil=>rfl
  | cons q s=>simp at hl
 | cons p r A=>
  cases M with
  | nil=>simp at hl
  | cons q s=>
   have i:=h 0 sI
   have hr:=A (M:=s) (by simpa using hl) (fun k hk=>by
    have:=h (k+1) (by simpa using hk)
    simpa [pv] using this)
   simp only [pv,List.getD_cons_zero] at i;obtain ⟨z,t,u,l,C⟩:=i;have e:p.cells=q.cells:=by unfold PV.cells;rw [z,t,u,l,C]
   unfold yZ at hr⊢;simp only [List.flatMap_cons];rw [e,hr]
theorem OwnA.zF (h:OwnA w B ad n cap xs) {a:Addr} (ha:zL ad≠some a.block) (u:Value):OwnA (w.setCell a u) B ad n cap xs:=by
 rcases h with h | ⟨g,h1,h2,h⟩
 exact .inl h;subst h1;exact .inr ⟨g,rfl,h2,h.other (fun e=>ha (by rw [e];rfl)) u⟩
namespace OwnV
variable {w w' : World} {B n cap g k : Nat} {L : List PV}
theorem snoc {p:PV} (h:OwnV w B ad n cap L) (hr:RowVA w' B ad' (n+1) cap' (L++ [p])) (hg:w.grownBy w' (zL ad)) (A: ∀b,zL ad'=some b->zL ad=some b\/w.heap.size<=b)
 (hp:OwnA w' B p.a p.n p.c p.ink) (h1: ∀b,zL p.a=some b->b<w.heap.size/\ ¬blocks ad L b):OwnV w' B ad' (n+1) cap' (L++ [p]):=by
 have l: ∀i,i<n->pv (L++ [p]) i=pv L i:=fun i hi=>uV (by rw [h.len];exact hi);have t:pv (L++ [p]) n=p:=by rw [<-h.len];exact ww
 refine ⟨hr.1,hr.2,fun i hi=>?_,fun i b hi hb=>?_,fun i j b s C hb=>?_⟩;by_cases e:i<n
 rw [l i e];exact (h.ink i e).zG hg (fun b hb u=>h.off i b e u hb);obtain rfl:i=n:=om;rw [t];exact hp;intro e;by_cases q:i<n
 rw [l i q] at hb;rcases A b e with z | z
 exact h.off i b q hb z;have:=(h.ink i q).bd b hb;omega;obtain rfl:i=n:=om;rw [t] at hb;obtain ⟨b1,b2⟩:=h1 b hb;rcases A b e with z | z
 exact b2 (.inl z);omega;by_cases q:j<n
 rw [l i om] at hb;rw [l j q];exact h.apart i j b s q hb;obtain rfl:j=n:=om;rw [l i s] at hb;rw [t];intro e;exact (h1 b e).2 (.inr ⟨i,by rw [h.len];exact s,hb⟩)
end OwnV
def zS (L:List PV):List Pic:=L.map PV.pic
theorem xa (L:List PV):(zS L).length=L.length:=by simp [zS]
theorem uT (L:List PV) (k:Nat) (h:k<L.length):(zS L).getD k yb=(pv L k).pic:=by
 simp [zS,pv,List.getD,Ya h]
theorem zFR {L M:List PV} (hl:L.length=M.length) (h: ∀k,k<L.length->(pv L k).W=(pv M k).W/\(pv L k).H=(pv M k).H/\(pv L k).ink=(pv M k).ink):zS L=zS M:=by
 apply List.ext_getElem?;intro k;by_cases hk:k<L.length
 have e:=h k hk;unfold pv at e;simp only [List.getD,Ya hk,Ya (show k<M.length by omega),Yz] at e;simp only [zS,List.getElem?_map,Ya hk,Ya (show k<M.length by omega),Option.map_some];obtain ⟨l,q,i⟩:=e;unfold PV.pic;rw [l,q,i];rw [Yv (by simp [zS];omega),Yv (by simp [zS];omega)]
def BelowL (w v:World):Prop:=Hd (Below w w v)
namespace BelowL
variable {w v v' : World}
theorem Z (h:BelowL w v):Below w w v:=Hd.Z h
theorem mk (h:Below w w v):BelowL w v:=Jh h
theorem start (w:World):BelowL w w.drew:=mk bR.drew
theorem alloc (h:BelowL w v) (o:Obj):BelowL w (v.alloc o):=mk (zJ h.Z o)
theorem call (h:BelowL w v) (i:Below v v v'):BelowL w v':=mk (zI h.Z i)
theorem le (h:BelowL w v):w.heap.size<=v.heap.size:=h.Z.size
theorem set (h:BelowL w v) {a:Addr} (ha:w.heap.size<=a.block) (u:Value):BelowL w (v.setCell a u):=mk (h.Z.setCell ha u)
end BelowL
theorem lS {w:World}:BelowL w w.drew:=BelowL.start w
theorem zIl (h:a/\b):b:=h.2
theorem uo (h:a/\b/\c):c:=h.2.2
theorem wK {d:Prop} (h:a/\b/\c/\d):d:=h.2.2.2
theorem ZM {d:Prop} (h:a/\b/\c/\d/\e):e:=h.2.2.2.2
theorem zEF {d:Prop} (h:a/\b/\c/\d/\e/\f):f:=h.2.2.2.2.2
theorem zEG {d g:Prop} (x:a/\b/\c/\d/\e/\f/\g/\h):h:=x.2.2.2.2.2.2.2
theorem jx {d g:Prop} (h:a/\b/\c/\d/\e/\f/\g):g:=h.2.2.2.2.2.2
instance picDec:DecidableEq Pic:=fun a b=>
 if h:a.W=b.W/\a.H=b.H/\a.ink=b.ink then
  isTrue (by obtain ⟨h1,h2,h3⟩:=h;cases a;cases b;simp_all)
 else isFalse (fun e=>h (by rw [e];exact ⟨rfl,rfl,rfl⟩))
theorem zCu: ∀(L:List PV) (k:Nat) (a:Option Addr) (n c:Nat),k<L.length->(yZ L).set (k*3+2) (.slice a n c)=yZ (L.set k {pv L k with a:=a,n:=n,c:=c})
 | [],k,a,n,c,h=>by simp at h
 | p::r,0,a,n,c,h=>by simp [yZ,PV.cells,pv]
 | p::r,k+1,a,n,c,h=>by
  have s:=zCu r k a n c (by simpa using h);have l:(k+1)*3+2=k*3+2+1+1+1:=om;have i: ∀(q:PV) (r:List PV),yZ (q::r)=↑q.W::↑q.H:: .slice q.a q.n q.c::yZ r:=fun q r=>by simp [yZ,PV.cells]
  rw [l,i];simp only [List.set_cons_succ];rw [s,i];simp [pv]
theorem Jy (L:List PV) (k:Nat) (p q:PV):(L.set k p).set k q=L.set k q:=by
 apply List.ext_getElem?;intro i;simp only [List.getElem?_set,List.length_set];by_cases e:k=i
 subst e;simp;simp [e]
theorem RowV.setPic {L:List PV} (h:RowV w g cap L) (hk:k<L.length) (p:PV):
 RowV (((w.setCell (g,k*3) ↑p.W).setCell (g,k*3+1) ↑p.H).setCell (g,k*3+2) (.slice p.a p.n p.c)) g cap (L.set k p):=by
 have h1:=h.setAt hk _ (zCs L k p.W hk);have l:k<(L.set k {pv L k with W:=p.W}).length:=by simpa using hk
 have h2:=h1.setAt l _ (zCt _ k p.H l);rw [Jy,xw hk] at h2;have s:k<(L.set k {{pv L k with W:=p.W} with H:=p.H}).length:=by simpa using hk
 have h3:=h2.setAt s _ (zCu _ k p.a p.n p.c s);rw [Jy,xw hk] at h3
 have e:yZ (L.set k {{{pv L k with W:=p.W} with H:=p.H} with a:=p.a,n:=p.n,c:=p.c})=yZ (L.set k p):=zGX sI (fun i hi=>by
  by_cases q:k=i
  subst q;rw [xw hk,xw hk];exact ⟨rfl,rfl,rfl,rfl,rfl⟩
  rw [kz q,kz q];exact ⟨rfl,rfl,rfl,rfl,rfl⟩)
 obtain ⟨t,D,z,A,u,C⟩:=h3;exact ⟨t,D,by simpa using z,A,u,by rw [<-e];simpa using C⟩
namespace OwnV
variable {w w' : World} {B n cap g k : Nat} {L : List PV}
theorem setPic (h:OwnV w B ↑g n cap L) (hk:k<n) (p:PV) (A:OwnA w B p.a p.n p.c p.ink) (hp: ∀b,zL p.a=some b->b≠g/\ ¬blocks ↑g L b):
 OwnV (((w.setCell (g,k*3) ↑p.W).setCell (g,k*3+1) ↑p.H).setCell (g,k*3+2) (.slice p.a p.n p.c)) B ↑g n cap (L.set k p):=by
 have l:k<L.length:=by rw [h.len];exact hk
 have t: ∀i b,i<n->zL (pv L i).a=some b->b≠g:=fun i b hi hb e=>h.off i b hi hb (by rw [e];rfl);refine ⟨by rw [List.length_set];exact h.len,?_,fun i hi=>?_,fun i b hi hb=>?_,fun i j b s u hb=>?_⟩;rcases h.row with ⟨C,_⟩ | ⟨g2,h1,h2,hr⟩
 cases C;cases h1;exact .inr ⟨g,rfl,h2,hr.setPic l p⟩;by_cases e:k=i
 subst e;rw [xw l];exact ((A.zF (fun e=>(hp g e).1 rfl) _).zF (fun e=>(hp g e).1 rfl) _).zF (fun e=>(hp g e).1 rfl) _;rw [kz e];exact (((h.ink i hi).zF (fun q=>t i g hi q rfl) _).zF (fun q=>t i g hi q rfl) _).zF (fun q=>t i g hi q rfl) _;by_cases e:k=i
 subst e;rw [xw l] at hb;intro q;simp only [zL,Option.some.injEq] at q;exact (hp b hb).1 q.symm;rw [kz e] at hb;exact h.off i b hi hb;by_cases e:k=i
 subst e;rw [xw l] at hb;rw [kz om];intro q;exact (hp b hb).2 (.inr ⟨j,by rw [h.len];exact u,q⟩);rw [kz e] at hb;by_cases z:k=j
 subst z;rw [xw l];intro q;exact (hp b q).2 (.inr ⟨i,by rw [h.len];omega,hb⟩);rw [kz z];exact h.apart i j b s u hb
theorem lt (h:OwnV w B ↑g n cap L):B<=g/\g<w.heap.size:=by
 rcases h.row with ⟨i,_⟩ | ⟨g2,h1,h2,hr⟩
 cases i;cases h1;exact ⟨h2,hr.lt⟩
theorem rowOf (h:OwnV w B ↑g n cap L):RowV w g cap L:=by
 rcases h.row with ⟨i,_⟩ | ⟨g2,h1,h2,hr⟩
 cases i;cases h1;exact hr
end OwnV
theorem RdV.cells {b:Nat} {L:List PV} (h:RdV w (some ↑(b,off)) L) (hk:k<L.length):b<w.heap.size/\Jc w (b,off+k*3) (pv L k).W/\Jc w (b,off+k*3+1) (pv L k).H/\Jc w (b,off+k*3+2) (.slice (pv L k).a (pv L k).n (pv L k).c):=by
 obtain ⟨q,i,h1,h2,h3,h4,l⟩:=h.cellsAt hk;have e:=Yd h1;simp only [Addr.mk.injEq] at e;obtain ⟨rfl,rfl,_⟩:=e;exact ⟨h2,h3,h4,l⟩
theorem RdV.addr {L:List PV} (h:RdV w ad L) (h1:1<=L.length): ∃b off,ad=some ⟨b,off,none⟩/\b<w.heap.size:=by
 obtain ⟨b,off,h1,h2,_⟩:=h.cellsAt (k:=0) om;exact ⟨b,off,h1,h2⟩
theorem zFS (L:List PV) (k:Nat) (h:k<L.length):(zS L)[k]? =some (pv L k).pic:=by
 simp [zS,pv,List.getD,Ya h]
end
end Go.Proofs.YtlenfgdjdianiaaGreatDoor
