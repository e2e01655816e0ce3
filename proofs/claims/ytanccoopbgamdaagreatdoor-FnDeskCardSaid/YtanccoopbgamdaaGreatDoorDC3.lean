/-
  Contracts and plain facts on which the theorem of this claim rests, text 3.
-/
import Derived.Test.YtanccoopbgamdaaGreatDoorDC1
import Derived.Test.YtanccoopbgamdaaGreatDoorDC2
namespace Go.Proofs.YtanccoopbgamdaaGreatDoor
open Go.RowKit
set_option linter.unusedVariables false
set_option linter.unusedSimpArgs false
def BelowL (w v:World):Prop:=Hid (Below w.heap.size w v)
namespace BelowL
variable {w v v' : World}
theorem out (h:BelowL w v):Below w.heap.size w v:=Hid.out h
theorem mk (h:Below w.heap.size w v):BelowL w v:=Lib.hid h
theorem start (w:World):BelowL w w.drew:=mk (Below.refl _ _).drew
theorem alloc (h:BelowL w v) (o:Obj):BelowL w (v.alloc o):=mk (bAlloc h.out o)
theorem call (h:BelowL w v) (hq:Below v.heap.size v v'):BelowL w v':=mk (bTrans h.out hq)
theorem le (h:BelowL w v):w.heap.size≤v.heap.size:=h.out.size
theorem set (h:BelowL w v) {a:Addr} (ha:w.heap.size≤a.block) (u:Value):BelowL w (v.setCell a u):=mk (h.out.setCell ha u)
end BelowL
theorem limb2 {a b:Prop} (h:a∧b):b:=h.2
theorem limb3 {a b c:Prop} (h:a∧b∧c):c:=h.2.2
theorem limb4 {a b c d:Prop} (h:a∧b∧c∧d):d:=h.2.2.2
theorem limb5 {a b c d e:Prop} (h:a∧b∧c∧d∧e):e:=h.2.2.2.2
theorem limb8 {a b c d e f g h:Prop} (x:a∧b∧c∧d∧e∧f∧g∧h):h:=x.2.2.2.2.2.2.2
theorem limb7 {a b c d e f g:Prop} (h:a∧b∧c∧d∧e∧f∧g):g:=h.2.2.2.2.2.2
instance picDec:DecidableEq Pic:=fun a b=>
 if h:a.W=b.W∧a.H=b.H∧a.ink=b.ink then
   isTrue (by obtain ⟨h1,h2,h3⟩:=h;cases a;cases b;simp_all)
 else isFalse (fun e=>h (by rw [e];exact ⟨rfl,rfl,rfl⟩))
theorem flat_set2: ∀(L:List PV) (k:Nat) (a:Option Addr) (n c:Nat),k<L.length→(flatV L).set (k*3+2) (.slice a n c)=flatV (L.set k {pv L k with a:=a,n:=n,c:=c})
 | [],k,a,n,c,h=>by simp at h
 | p::r,0,a,n,c,h=>by simp [flatV,PV.cells,pv]
 | p::r,k+1,a,n,c,h=>by
   have ih:=flat_set2 r k a n c (by simpa using h)
   have e1:(k+1)*3+2=k*3+2+1+1+1:=by omega
   have e2: ∀(q:PV) (r:List PV),flatV (q::r)= .int .i64 q.W:: .int .i64 q.H:: .slice q.a q.n q.c::flatV r:=fun q r=>by simp [flatV,PV.cells]
   rw [e1,e2]
   simp only [List.set_cons_succ]
   rw [ih,e2]
   simp [pv]
theorem list_set_self (L:List PV) (k:Nat) (p q:PV):(L.set k p).set k q=L.set k q:=by
 apply List.ext_getElem?
 intro i
 simp only [List.getElem?_set,List.length_set]
 by_cases e:k=i
 · subst e;simp
 · simp [e]
theorem RowV.setPic {w:World} {g cap:Nat} {L:List PV} (h:RowV w g cap L) {k:Nat} (hk:k<L.length) (p:PV):
   RowV (((w.setCell ⟨g,k*3,none⟩ (.int .i64 p.W)).setCell ⟨g,k*3+1,none⟩ (.int .i64 p.H)).setCell ⟨g,k*3+2,none⟩ (.slice p.a p.n p.c)) g cap (L.set k p):=by
 have h1:=h.setAt hk _ (flat_set0 L k p.W hk)
 have hk1:k<(L.set k {pv L k with W:=p.W}).length:=by simpa using hk
 have h2:=h1.setAt hk1 _ (flat_set1 _ k p.H hk1)
 rw [list_set_self,pv_set_eq hk] at h2
 have hk2:k<(L.set k {{pv L k with W:=p.W} with H:=p.H}).length:=by simpa using hk
 have h3:=h2.setAt hk2 _ (flat_set2 _ k p.a p.n p.c hk2)
 rw [list_set_self,pv_set_eq hk] at h3
 have e:flatV (L.set k {{{pv L k with W:=p.W} with H:=p.H} with a:=p.a,n:=p.n,c:=p.c})=flatV (L.set k p):=flatV_congr (by simp) (fun i hi=>by
   by_cases q:k=i
   · subst q;rw [pv_set_eq hk,pv_set_eq hk];exact ⟨rfl,rfl,rfl,rfl,rfl⟩
   · rw [pv_set_ne q,pv_set_ne q];exact ⟨rfl,rfl,rfl,rfl,rfl⟩)
 obtain ⟨cur,q1,q2,q3,q4,q5⟩:=h3
 exact ⟨cur,q1,by simpa using q2,q3,q4,by rw [←e];simpa using q5⟩
namespace OwnV
variable {w w' : World} {B n cap g k : Nat} {L : List PV}
theorem setPic (h:OwnV w B (some ⟨g,0,none⟩) n cap L) (hk:k<n) (p:PV) (ho:OwnA w B p.a p.n p.c p.ink) (hp: ∀b,blockOf p.a=some b→b≠g∧ ¬blocks (some ⟨g,0,none⟩) L b):
   OwnV (((w.setCell ⟨g,k*3,none⟩ (.int .i64 p.W)).setCell ⟨g,k*3+1,none⟩ (.int .i64 p.H)).setCell ⟨g,k*3+2,none⟩ (.slice p.a p.n p.c)) B (some ⟨g,0,none⟩) n cap (L.set k p):=by
 have hkl:k<L.length:=by rw [h.len];exact hk
 have gb: ∀i b,i<n→blockOf (pv L i).a=some b→b≠g:=fun i b hi hb e=>h.off i b hi hb (by rw [e];rfl)
 refine ⟨by rw [List.length_set];exact h.len,?_,fun i hi=>?_,fun i b hi hb=>?_,fun i j b hij hj hb=>?_⟩
 · rcases h.row with ⟨h0,_⟩ | ⟨g2,h1,h2,hr⟩
   · cases h0
   · cases h1
     exact .inr ⟨g,rfl,h2,hr.setPic hkl p⟩
 · by_cases e:k=i
   · subst e
     rw [pv_set_eq hkl]
     exact ((ho.otherT (fun e=>(hp g e).1 rfl) _).otherT (fun e=>(hp g e).1 rfl) _).otherT (fun e=>(hp g e).1 rfl) _
   · rw [pv_set_ne e]
     exact (((h.ink i hi).otherT (fun q=>gb i g hi q rfl) _).otherT (fun q=>gb i g hi q rfl) _).otherT (fun q=>gb i g hi q rfl) _
 · by_cases e:k=i
   · subst e
     rw [pv_set_eq hkl] at hb
     intro q
     simp only [blockOf,Option.some.injEq] at q
     exact (hp b hb).1 q.symm
   · rw [pv_set_ne e] at hb
     exact h.off i b hi hb
 · by_cases e:k=i
   · subst e
     rw [pv_set_eq hkl] at hb
     rw [pv_set_ne (by omega)]
     intro q
     exact (hp b hb).2 (.inr ⟨j,by rw [h.len];exact hj,q⟩)
   · rw [pv_set_ne e] at hb
     by_cases e2:k=j
     · subst e2
       rw [pv_set_eq hkl]
       intro q
       exact (hp b q).2 (.inr ⟨i,by rw [h.len];omega,hb⟩)
     · rw [pv_set_ne e2]
       exact h.apart i j b hij hj hb
theorem lt (h:OwnV w B (some ⟨g,0,none⟩) n cap L):B≤g∧g<w.heap.size:=by
 rcases h.row with ⟨h0,_⟩ | ⟨g2,h1,h2,hr⟩
 · cases h0
 · cases h1;exact ⟨h2,hr.lt⟩
theorem rowOf (h:OwnV w B (some ⟨g,0,none⟩) n cap L):RowV w g cap L:=by
 rcases h.row with ⟨h0,_⟩ | ⟨g2,h1,h2,hr⟩
 · cases h0
 · cases h1;exact hr
end OwnV
theorem RdV.cells {w:World} {b off:Nat} {L:List PV} (h:RdV w (some ⟨b,off,none⟩) L) {k:Nat} (hk:k<L.length):b<w.heap.size∧w.cell? ⟨b,off+k*3,none⟩=some (.int .i64 (pv L k).W)∧w.cell? ⟨b,off+k*3+1,none⟩=some (.int .i64 (pv L k).H)∧w.cell? ⟨b,off+k*3+2,none⟩=some (.slice (pv L k).a (pv L k).n (pv L k).c):=by
 obtain ⟨b',off',h1,h2,h3,h4,h5⟩:=h.cellsAt hk
 have e:=Option.some.inj h1
 simp only [Addr.mk.injEq] at e
 obtain ⟨rfl,rfl,_⟩:=e
 exact ⟨h2,h3,h4,h5⟩
theorem RdV.addr {w:World} {ad:Option Addr} {L:List PV} (h:RdV w ad L) (h1:1≤L.length): ∃b off,ad=some ⟨b,off,none⟩∧b<w.heap.size:=by
 obtain ⟨b,off,h1,h2,_⟩:=h.cellsAt (k:=0) (by omega)
 exact ⟨b,off,h1,h2⟩
theorem picsV_lt (L:List PV) (k:Nat) (h:k<L.length):(picsV L)[k]? =some (pv L k).pic:=by
 simp [picsV,pv,List.getD,List.getElem?_eq_getElem h]
end Go.Proofs.YtanccoopbgamdaaGreatDoor
namespace Go.Proofs.YtanccoopbgamdaaGreatDoor
set_option linter.unusedVariables false
set_option linter.unusedSimpArgs false
def matSize (W H:Int):Bool:=decide (1≤W∧W≤256∧1≤H∧H≤256∧W*H≤256)
def inR (xs:List Int) (n:Nat):Bool:=xs.all (fun v=>decide (0≤v∧v<(n:Int)))
def permOk (xs:List Int):Bool:=inR xs xs.length && decide xs.Nodup
def matOk (W H:Int) (xs:List Int):Bool:=matSize W H && (decide ((xs.length:Int)=W*H) && permOk xs)
theorem mul_bdM (W H:Int) (h1:1≤W) (h2:W≤256) (h3:1≤H) (h4:H≤256):1≤W*H∧W*H≤65536:=by
 constructor
 · have:=Int.mul_le_mul h1 h3 (by omega) (by omega);omega
 · have:=Int.mul_le_mul h2 h4 (by omega) (by omega);omega
theorem matSize_in {W H:Int} (h1:1≤W) (h2:W≤256) (h3:1≤H) (h4:H≤256):matSize W H=decide (W*H≤256):=by unfold matSize;simp [h1,h2,h3,h4]
theorem matSize_out {W H:Int} (c: ¬(1≤W∧W≤256∧1≤H∧H≤256)):matSize W H=false:=by
 unfold matSize;rw [decide_eq_false_iff_not];exact fun h=>c ⟨h.1,h.2.1,h.2.2.1,h.2.2.2.1⟩
theorem matSize_bd {W H:Int} (h:matSize W H=true):1≤W∧W≤256∧1≤H∧H≤256∧W*H≤256∧1≤W*H:=by
 unfold matSize at h
 have h:=of_decide_eq_true h
 exact ⟨h.1,h.2.1,h.2.2.1,h.2.2.2.1,h.2.2.2.2,(mul_bdM W H h.1 h.2.1 h.2.2.1 h.2.2.2.1).1⟩
theorem matSize_mk {W H:Int} (h1:1≤W) (h3:1≤H) (h5:W*H≤256):matSize W H=true:=by
 have e1:W*1≤W*H:=Int.mul_le_mul_of_nonneg_left h3 (by omega)
 have e2:1*H≤W*H:=Int.mul_le_mul_of_nonneg_right h1 (by omega)
 unfold matSize
 rw [decide_eq_true_iff]
 omega
theorem inR_at {xs:List Int} {n:Nat} (h:inR xs n=true) (k:Nat) (hk:k<xs.length):0≤xs[k]?.getD 0∧xs[k]?.getD 0<(n:Int):=by
 unfold inR at h
 have:=List.all_eq_true.1 h xs[k] (List.getElem_mem hk)
 simpa [List.getElem?_eq_getElem hk] using this
theorem inR_no {xs:List Int} {n:Nat} (k:Nat) (hk:k<xs.length) (h: ¬(0≤xs[k]?.getD 0∧xs[k]?.getD 0<(n:Int))):inR xs n=false:=by
 unfold inR
 rw [List.all_eq_false]
 refine ⟨xs[k],List.getElem_mem hk,?_⟩
 simpa [List.getElem?_eq_getElem hk] using h
theorem inR_snoc {xs:List Int} {n k:Nat} (hk:k<xs.length) (h:inR (xs.take k) n=true) (h0:0≤xs[k]?.getD 0) (h1:xs[k]?.getD 0<(n:Int)):inR (xs.take (k+1)) n=true:=by
 unfold inR at h⊢
 rw [List.take_succ_eq_append_getElem hk,List.all_append,h]
 simp only [List.getElem?_eq_getElem hk,Option.getD_some] at h0 h1
 simp [h0,h1]
theorem permOk_noR {xs:List Int} {n:Nat} (hn:xs.length=n) (k:Nat) (hk:k<n) (h: ¬(0≤xs[k]?.getD 0∧xs[k]?.getD 0<(n:Int))):permOk xs=false:=by
 unfold permOk;rw [inR_no k (by omega) (by rw [hn];exact h)];rfl
theorem permOk_bd {xs:List Int} (h:permOk xs=true):inR xs xs.length=true∧xs.Nodup:=by
 unfold permOk at h
 simpa using h
theorem permOk_mk {xs:List Int} {n:Nat} (hn:xs.length=n) (h:inR xs n=true) (h2:xs.Nodup):permOk xs=true:=by
 unfold permOk;rw [hn,h];simpa using h2
theorem permOk_noD {xs:List Int} (h: ¬xs.Nodup):permOk xs=false:=by
 unfold permOk;simp [h]
theorem matOk_no1 {W H:Int} {xs:List Int} (h:matSize W H=false):matOk W H xs=false:=by unfold matOk;simp [h]
theorem matOk_no2 {W H:Int} {xs:List Int} {n:Nat} (hn:xs.length=n) (h: ¬(n:Int)=W*H):matOk W H xs=false:=by unfold matOk;rw [hn];simp [h]
theorem matOk_in {W H:Int} {xs:List Int} {n:Nat} (hn:xs.length=n) (h1:matSize W H=true) (h:(n:Int)=W*H):matOk W H xs=permOk xs:=by unfold matOk;rw [hn];simp [h,h1]
theorem matOk_bd {W H:Int} {xs:List Int} {n:Nat} (hn:xs.length=n) (h:matOk W H xs=true):matSize W H=true∧(n:Int)=W*H∧inR xs n=true∧xs.Nodup:=by
 unfold matOk at h
 simp only [Bool.and_eq_true,decide_eq_true_eq] at h
 obtain ⟨h1,h2,h3⟩:=h
 obtain ⟨h4,h5⟩:=permOk_bd h3
 exact ⟨h1,by rw [←hn];exact h2,by rw [←hn];exact h4,h5⟩
theorem icount_cons (v x:Int) (xs:List Int):icount v (x::xs)=(if x=v then 1 else 0)+icount v xs:=by
 unfold icount
 by_cases h:x=v
 · subst h;simp;omega
 · simp [h]
theorem icount_pos {v:Int} {xs:List Int} (h:v ∈ xs):1≤icount v xs:=by
 unfold icount
 exact List.length_pos_of_mem (List.mem_filter.2 ⟨h,by simp⟩)
theorem nodup_of_icount {xs:List Int} (h: ∀v,icount v xs≤1):xs.Nodup:=by
 induction xs with
 | nil=>exact List.nodup_nil
 | cons x xs ih=>
   rw [List.nodup_cons]
   refine ⟨fun hm=>?_,ih (fun v=>?_)⟩
   · have h1:=h x
     rw [icount_cons,if_pos rfl] at h1
     have:=icount_pos hm
     omega
   · have h1:=h v
     rw [icount_cons] at h1
     omega
theorem icount_nodup {xs:List Int} (h:xs.Nodup) (v:Int):icount v xs≤1:=by
 induction xs with
 | nil=>simp [icount]
 | cons x xs ih=>
   rw [List.nodup_cons] at h
   rw [icount_cons]
   by_cases e:x=v
   · subst e
     have h0:icount x xs=0:=by
       unfold icount
       rw [List.length_eq_zero_iff,List.filter_eq_nil_iff]
       intro a ha hq
       simp at hq
       subst hq
       exact h.1 ha
     rw [if_pos rfl,h0]
     omega
   · rw [if_neg e]
     have:=ih h.2
     omega
def sumTo (f:Nat→Nat):Nat→Nat
 | 0=>0
 | n+1=>sumTo f n+f n
theorem sumTo_congr {f g:Nat→Nat} {n:Nat} (h: ∀r,r<n→f r=g r):sumTo f n=sumTo g n:=by
 induction n with
 | zero=>rfl
 | succ n ih=>simp only [sumTo];rw [ih (fun r hr=>h r (by omega)),h n (by omega)]
theorem sumTo_add (f g:Nat→Nat) (n:Nat):sumTo (fun r=>f r+g r) n=sumTo f n+sumTo g n:=by
 induction n with
 | zero=>rfl
 | succ n ih=>simp only [sumTo];rw [ih];omega
theorem sumTo_one (x:Nat) (n:Nat):sumTo (fun r=>if x=r then 1 else 0) n=if x<n then 1 else 0:=by
 induction n with
 | zero=>rfl
 | succ n ih=>
   simp only [sumTo];rw [ih]
   by_cases h1:x<n
   · rw [if_pos h1,if_neg (by omega),if_pos (by omega)]
   · by_cases h2:x=n
     · rw [if_neg h1,if_pos h2,if_pos (by omega)]
     · rw [if_neg h1,if_neg h2,if_neg (by omega)]
theorem sumTo_le {f:Nat→Nat} {n:Nat} (h: ∀r,r<n→f r≤1):sumTo f n≤n:=by
 induction n with
 | zero=>exact Nat.le_refl 0
 | succ n ih=>
   simp only [sumTo]
   have:=ih (fun r hr=>h r (by omega))
   have:=h n (by omega)
   omega
theorem sumTo_full {f:Nat→Nat} {n:Nat} (h: ∀r,r<n→f r≤1) (hs:sumTo f n=n): ∀r,r<n→f r=1:=by
 induction n with
 | zero=>intro r hr;omega
 | succ n ih=>
   simp only [sumTo] at hs
   have h1:=sumTo_le (f:=f) (n:=n) (fun r hr=>h r (by omega))
   have h2:=h n (by omega)
   intro r hr
   by_cases e:r=n
   · subst e;omega
   · exact ih (fun r hr=>h r (by omega)) (by omega) r (by omega)
def below (n:Int) (xs:List Int):Nat:=(xs.filter (fun v=>decide (v<n))).length
theorem sum_icount {xs:List Int} (h: ∀v,v ∈ xs→0≤v) (n:Nat):sumTo (fun r=>icount (r:Int) xs) n=below n xs:=by
 induction xs with
 | nil=>
   have: ∀n,sumTo (fun _=>0) n=0:=by intro n;induction n with | zero=>rfl | succ n ih=>simp only [sumTo];omega
   simpa [icount,below] using this n
 | cons x xs ih=>
   have hx:=h x (by simp)
   have e1:sumTo (fun r=>icount (r:Int) (x::xs)) n=sumTo (fun r=>(if x.toNat=r then 1 else 0)+icount (r:Int) xs) n:=by
     refine sumTo_congr (fun r hr=>?_)
     rw [icount_cons]
     by_cases e:x=r
     · rw [if_pos e,if_pos (by omega)]
     · rw [if_neg e,if_neg (by omega)]
   rw [e1,sumTo_add,sumTo_one,ih (fun v hv=>h v (by simp [hv]))]
   unfold below
   by_cases e:x<n
   · rw [if_pos (by omega)]
     simp [e];omega
   · rw [if_neg (by omega)]
     simp [e]
theorem below_all {xs:List Int} {n:Nat} (h:inR xs n=true):below n xs=xs.length:=by
 unfold below
 unfold inR at h
 rw [List.filter_eq_self.2]
 intro a ha
 have:=List.all_eq_true.1 h a ha
 simp at this⊢
 exact this.2
theorem inR_mem {xs:List Int} {n:Nat} (h:inR xs n=true) {v:Int} (hv:v ∈ xs):0≤v∧v<(n:Int):=by
 unfold inR at h
 have:=List.all_eq_true.1 h v hv
 simpa using this
theorem perm_icount {xs:List Int} {n:Nat} (hn:xs.length=n) (h:inR xs n=true) (hd:xs.Nodup): ∀r,r<n→icount (r:Int) xs=1:=by
 refine sumTo_full (fun r _=>icount_nodup hd _) ?_
 rw [sum_icount (fun v hv=>(inR_mem h hv).1) n,below_all h,hn]
theorem icount_out {xs:List Int} {n:Nat} (h:inR xs n=true) (v:Int) (hv: ¬(0≤v∧v<n)):icount v xs=0:=by
 unfold icount
 rw [List.length_eq_zero_iff,List.filter_eq_nil_iff]
 intro a ha hq
 simp at hq
 subst hq
 exact hv (inR_mem h ha)
def cntRow (xs:List Int) (k:Nat):List Int:=gen 256 (fun r=>(icount (r:Int) (xs.take k):Int))
def onceRow (k:Nat):List Int:=gen 256 (fun i=>if i<k then 1 else 0)
theorem gen_set (n:Nat) (f g:Nat→Int) (r:Nat) (v:Int) (hr:r<n) (hv:g r=v) (h: ∀i,i<n→i≠r→g i=f i):(gen n f).set r v=gen n g:=by
 refine gen_ext n g _ (by simp [gen_len]) (fun k hk=>?_)
 rw [getD_set _ _ _ _ (by rw [gen_len];exact hr)]
 by_cases e:r=k
 · subst e;rw [if_pos rfl,hv]
 · rw [if_neg e,gen_get _ _ _ hk,h k hk (by omega)]
theorem gen_congr {n:Nat} {f g:Nat→Int} (h: ∀i,i<n→f i=g i):gen n f=gen n g:=by
 refine gen_ext n g _ (by simp [gen_len]) (fun k hk=>?_)
 rw [gen_get _ _ _ hk,h k hk]
theorem cntRow_zero (xs:List Int):cntRow xs 0=List.replicate 256 0:=by
 unfold cntRow
 refine (gen_ext 256 _ _ List.length_replicate (fun k hk=>?_)).symm
 simp only [List.getD,List.getElem?_replicate,if_pos hk,Option.getD_some,List.take_zero]
 rfl
theorem onceRow_zero:onceRow 0=List.replicate 256 0:=by
 unfold onceRow
 refine (gen_ext 256 _ _ List.length_replicate (fun k hk=>?_)).symm
 simp only [List.getD,List.getElem?_replicate,if_pos hk,Option.getD_some]
 rfl
theorem cntRow_at (xs:List Int) (k r:Nat) (hr:r<256):(cntRow xs k)[r]?.getD 0=(icount (r:Int) (xs.take k):Int):=gen_get 256 _ r hr
theorem cntRow_succ (xs:List Int) (k r:Nat) (hk:k<xs.length) (hr:r<256) (he:xs[k]?.getD 0=(r:Int)):(cntRow xs k).set r ((icount (r:Int) (xs.take k):Int)+1)=cntRow xs (k+1):=by
 refine gen_set 256 _ _ r _ hr ?_ (fun i hi hne=>?_)
 · rw [icount_yes _ _ _ hk he];omega
 · rw [icount_no _ _ _ hk (by rw [he];omega)]
theorem onceRow_succ (k:Nat) (hk:k<256):(onceRow k).set k 1=onceRow (k+1):=by
 refine gen_set 256 _ _ k _ hk ?_ (fun i hi hne=>?_)
 · rw [if_pos (by omega)]
 · by_cases h:i<k
   · rw [if_pos h,if_pos (by omega)]
   · rw [if_neg h,if_neg (by omega)]
theorem rows_eq {xs:List Int} {n:Nat} (hn:xs.length=n) (hm:n≤256) (h:inR xs n=true):decide (cntRow xs n=onceRow n)=permOk xs:=by
 have ht:xs.take n=xs:=List.take_of_length_le (by omega)
 by_cases hd:xs.Nodup
 · rw [permOk_mk hn h hd,decide_eq_true_iff]
   refine gen_congr (fun r hr=>?_)
   rw [ht]
   by_cases hrn:r<n
   · rw [perm_icount hn h hd r hrn,if_pos hrn];rfl
   · rw [icount_out h _ (by omega),if_neg hrn];rfl
 · rw [permOk_noD hd,decide_eq_false_iff_not]
   intro he
   apply hd
   apply nodup_of_icount
   intro v
   by_cases hv:0≤v∧v<(n:Int)
   · obtain ⟨r,rfl⟩: ∃r:Nat,v=r:=⟨v.toNat,by omega⟩
     have e1:=cntRow_at xs n r (by omega)
     rw [he,ht] at e1
     have e2:(onceRow n)[r]?.getD 0=if r<n then 1 else 0:=gen_get 256 _ r (by omega)
     rw [e2,if_pos (by omega)] at e1
     omega
   · rw [icount_out h v hv];omega
structure Mat where
 W:Int
 H:Int
 ranks:List Int
def noMat:Mat:=⟨0,0,[]⟩
def rankOf (W H:Int) (xs:List Int) (x y:Int):Int:=xs.getD (y % H*W+x % W).toNat 0
def quarter (a b:Int):Int:=if a=0 then (if b=0 then 0 else 3) else (if b=0 then 2 else 1)
def dblG (W H:Int) (xs:List Int) (i:Nat):Int:=4*rankOf W H xs ((i:Int) % (2*W)) ((i:Int)/(2*W))+quarter ((i:Int) % (2*W)/W) ((i:Int)/(2*W)/H)
def dblM (m:Mat):Mat:=⟨2*m.W,2*m.H,gen (4*m.ranks.length) (dblG m.W m.H m.ranks)⟩
def bayerM:Nat→Mat
 | 0=>⟨1,1,[0]⟩
 | k+1=>dblM (bayerM k)
def bayerF (k:Int):Mat × Bool:=if 0≤k∧k≤4 then (bayerM k.toNat,true) else (noMat,false)
def revF (W H:Int) (xs:List Int):Mat:=if matOk W H xs=true then ⟨W,H,xs.map (fun v=>(xs.length:Int) - 1 - v)⟩ else noMat
def shiftG (W H:Int) (xs:List Int) (dx dy:Int) (i:Nat):Int:=rankOf W H xs ((i:Int) % W - dx) ((i:Int)/W - dy)
def shiftF (W H:Int) (xs:List Int) (dx dy:Int):Mat:=if matOk W H xs=true∧-1000≤dx∧dx≤1000∧-1000≤dy∧dy≤1000 then ⟨W,H,gen xs.length (shiftG W H xs dx dy)⟩ else noMat
def cellsG (level v:Int):Int:=if v<level then 1 else 0
theorem mod_bd (a:Int) {n:Int} (h:1≤n):0≤a % n∧a % n<n:=⟨Int.emod_nonneg _ (by omega),Int.emod_lt_of_pos _ (by omega)⟩
theorem rank_idx {W H:Int} {n:Nat} (hn:(n:Int)=W*H) (hW:1≤W) (hH:1≤H) (x y:Int):0≤y % H*W∧0≤y % H*W+x % W∧y % H*W+x % W<(n:Int)∧(y % H*W+x % W).toNat<n:=by
 obtain ⟨x0,x1⟩:=mod_bd x hW
 obtain ⟨y0,y1⟩:=mod_bd y hH
 obtain ⟨r0,r1⟩:=row_bd x0 x1 y0 y1
 omega
theorem rankOf_bd {W H:Int} {xs:List Int} {n m:Nat} (hl:xs.length=n) (hn:(n:Int)=W*H) (hW:1≤W) (hH:1≤H) (h:inR xs m=true) (x y:Int):0≤rankOf W H xs x y∧rankOf W H xs x y<(m:Int):=by
 unfold rankOf
 obtain ⟨_,_,_,h3⟩:=rank_idx hn hW hH x y
 have:=inR_at h (y % H*W+x % W).toNat (by omega)
 simpa [List.getD] using this
theorem revF_no {W H:Int} {xs:List Int} (h: ¬matOk W H xs=true):revF W H xs=noMat:=by unfold revF;rw [if_neg h]
theorem revF_yes {W H:Int} {xs:List Int} {n:Nat} (hn:xs.length=n) (h:matOk W H xs=true):revF W H xs=⟨W,H,xs.map (fun v=>(n:Int) - 1 - v)⟩:=by unfold revF;rw [if_pos h,hn]
theorem shiftF_no {W H:Int} {xs:List Int} {dx dy:Int} (h: ¬(matOk W H xs=true∧-1000≤dx∧dx≤1000∧-1000≤dy∧dy≤1000)):shiftF W H xs dx dy=noMat:=by unfold shiftF;rw [if_neg h]
theorem shiftF_yes {W H:Int} {xs:List Int} {dx dy:Int} {n:Nat} (hn:xs.length=n) (h:matOk W H xs=true) (h1:-1000≤dx) (h2:dx≤1000) (h3:-1000≤dy) (h4:dy≤1000):shiftF W H xs dx dy=⟨W,H,gen n (shiftG W H xs dx dy)⟩:=by
 unfold shiftF;rw [if_pos ⟨h,h1,h2,h3,h4⟩,hn]
theorem quarter_bd (a b:Int):0≤quarter a b∧quarter a b≤3:=by
 unfold quarter
 split <;>split <;>omega
def MatOut (w:World) (R:Mat) (e:Ending) (w':World):Prop:=
 ∃a n c,e= .returned (.agg #[.int .i64 R.W, .int .i64 R.H, .slice a n c])∧OwnA w' w.heap.size a n c R.ranks∧n≤1048576∧Go.RowKit.Below w.heap.size w w'
def MatOut2 (w:World) (R:Mat × Bool) (e:Ending) (w':World):Prop:=
 ∃a n c,e= .returned (.tuple #[.agg #[.int .i64 R.1.W, .int .i64 R.1.H, .slice a n c], .bool R.2])∧OwnA w' w.heap.size a n c R.1.ranks∧n≤1048576∧Go.RowKit.Below w.heap.size w w'
def stackOk (L:List Pic):Bool:=decide (1≤L.length∧L.length≤4) && L.all (fun p=>picOk p.W p.H p.ink 1 && decide (p.W=(L.getD 0 noPic).W∧p.H=(L.getD 0 noPic).H))
theorem stack_bd {L:List Pic} (h:stackOk L=true):1≤L.length∧L.length≤4∧ ∀k,k<L.length→picOk (L.getD k noPic).W (L.getD k noPic).H (L.getD k noPic).ink 1=true∧(L.getD k noPic).W=(L.getD 0 noPic).W∧(L.getD k noPic).H=(L.getD 0 noPic).H:=by
 unfold stackOk at h
 simp only [Bool.and_eq_true,decide_eq_true_eq,List.all_eq_true] at h
 refine ⟨h.1.1,h.1.2,fun k hk=>?_⟩
 have hm:L.getD k noPic ∈ L:=by simp [List.getD,List.getElem?_eq_getElem hk]
 exact h.2 _ hm
theorem stack_mk {L:List Pic} (h1:1≤L.length) (h2:L.length≤4) (h: ∀k,k<L.length→picOk (L.getD k noPic).W (L.getD k noPic).H (L.getD k noPic).ink 1=true∧(L.getD k noPic).W=(L.getD 0 noPic).W∧(L.getD k noPic).H=(L.getD 0 noPic).H):stackOk L=true:=by
 unfold stackOk
 simp only [Bool.and_eq_true,decide_eq_true_eq,List.all_eq_true]
 refine ⟨⟨h1,h2⟩,fun p hp=>?_⟩
 obtain ⟨k,hk,rfl⟩:=List.mem_iff_getElem.1 hp
 have:=h k hk
 simp only [List.getD,List.getElem?_eq_getElem hk,Option.getD_some] at this⊢
 exact this
def bitsTo (b:Nat→Int):Nat→Int
 | 0=>0
 | k+1=>bitsTo b k+b k*2^k
theorem pow2_pos (k:Nat):1≤(2:Int)^k:=by
 induction k with
 | zero=>simp
 | succ k ih=>rw [Int.pow_succ];omega
theorem bitsTo_bd {b:Nat→Int} {m:Nat} (h: ∀k,k<m→b k=0∨b k=1):0≤bitsTo b m∧bitsTo b m<2^m:=by
 induction m with
 | zero=>simp [bitsTo]
 | succ m ih=>
   have a:=ih (fun k hk=>h k (by omega))
   have p:=pow2_pos m
   unfold bitsTo
   rw [Int.pow_succ]
   rcases h m (by omega) with e | e <;>rw [e] <;>omega
def markG (L:List Pic) (i:Nat):Int:=bitsTo (fun k=>(L.getD k noPic).ink.getD i 0) L.length
def cntI (f:Nat→Int) (r:Int):Nat→Int
 | 0=>0
 | n+1=>cntI f r n+(if f n=r then 1 else 0)
theorem cntI_bd (f:Nat→Int) (r:Int) (n:Nat):0≤cntI f r n∧cntI f r n≤n:=by
 induction n with
 | zero=>simp [cntI]
 | succ n ih=>unfold cntI;split <;>omega
def markCountsF (L:List Pic):List Int:=if stackOk L=true then gen (2^L.length) (fun r=>cntI (markG L) r (L.getD 0 noPic).ink.length) else []
end Go.Proofs.YtanccoopbgamdaaGreatDoor
namespace Go.Proofs.YtanccoopbgamdaaGreatDoor
open Go.RowKit
set_option linter.unusedVariables false
set_option linter.unusedSimpArgs false
theorem Blk.c7 {w:World} {g T:Nat} {a b c d e f h:Value} (k:Blk w g T #[a,b,c,d,e,f,h]):g<w.heap.size∧w.cell? ⟨g,0,none⟩=some a∧w.cell? ⟨g,1,none⟩=some b∧w.cell? ⟨g,2,none⟩=some c∧w.cell? ⟨g,3,none⟩=some d∧w.cell? ⟨g,4,none⟩=some e∧w.cell? ⟨g,5,none⟩=some f∧w.cell? ⟨g,6,none⟩=some h:=
 ⟨k.lt,by rw [k.cell];rfl,by rw [k.cell];rfl,by rw [k.cell];rfl,by rw [k.cell];rfl,by rw [k.cell];rfl,by rw [k.cell];rfl,by rw [k.cell];rfl⟩
theorem Blk.f7 {w:World} {g T:Nat} {cs:Array Value} (h:Blk w g T cs):w.frozen? ⟨g,0,none⟩=false∧w.frozen? ⟨g,1,none⟩=false∧w.frozen? ⟨g,2,none⟩=false∧w.frozen? ⟨g,3,none⟩=false∧w.frozen? ⟨g,4,none⟩=false∧w.frozen? ⟨g,5,none⟩=false∧w.frozen? ⟨g,6,none⟩=false:=
 ⟨h.frozen 0,h.frozen 1,h.frozen 2,h.frozen 3,h.frozen 4,h.frozen 5,h.frozen 6⟩
section
variable {w : World} {g T : Nat} {a b c d e f h : Value}
theorem Blk.putP (k:Blk w g T #[a,b,c,d,e,f,h]) (x y z:Value):Blk (((w.setCell ⟨g,0,none⟩ x).setCell ⟨g,1,none⟩ y).setCell ⟨g,2,none⟩ z) g T #[x,y,z,d,e,f,h]:=by
 have:=((k.set 0 x).set 1 y).set 2 z
 simpa using this
theorem Blk.putM (k:Blk w g T #[a,b,c,d,e,f,h]) (x y z:Value):Blk (((w.setCell ⟨g,3,none⟩ x).setCell ⟨g,4,none⟩ y).setCell ⟨g,5,none⟩ z) g T #[a,b,c,x,y,z,h]:=by
 have:=((k.set 3 x).set 4 y).set 5 z
 simpa using this
theorem Blk.putR (k:Blk w g T #[a,b,c,d,e,f,h]) (z:Value):Blk (w.setCell ⟨g,5,none⟩ z) g T #[a,b,c,d,e,z,h]:=by
 have:=k.set 5 z
 simpa using this
theorem Blk.putS (k:Blk w g T #[a,b,c,d,e,f,h]) (z:Value):Blk (w.setCell ⟨g,6,none⟩ z) g T #[a,b,c,d,e,f,z]:=by
 have:=k.set 6 z
 simpa using this
theorem Blk.put7 (k:Blk w g T #[a,b,c,d,e,f,h]) (a' b' c' d' e' f' h':Value):Blk (((((((w.setCell ⟨g,0,none⟩ a').setCell ⟨g,1,none⟩ b').setCell ⟨g,2,none⟩ c').setCell ⟨g,3,none⟩ d').setCell ⟨g,4,none⟩ e').setCell ⟨g,5,none⟩ f').setCell ⟨g,6,none⟩ h') g T #[a',b',c',d',e',f',h']:=by
 have:=((((((k.set 0 a').set 1 b').set 2 c').set 3 d').set 4 e').set 5 f').set 6 h'
 simpa using this
end
structure Dsk where
 P:PV
 M:PV
 a:Option Addr
 n:Nat
 c:Nat
 ps:List PV
def Dsk.val (D:Dsk):Value:= .agg #[.int .i64 D.P.W, .int .i64 D.P.H, .slice D.P.a D.P.n D.P.c, .int .i64 D.M.W, .int .i64 D.M.H, .slice D.M.a D.M.n D.M.c, .slice D.a D.n D.c]
def Dsk.cells (D:Dsk):Array Value:=#[.int .i64 D.P.W, .int .i64 D.P.H, .slice D.P.a D.P.n D.P.c, .int .i64 D.M.W, .int .i64 D.M.H, .slice D.M.a D.M.n D.M.c, .slice D.a D.n D.c]
def Dsk.dat (D:Dsk):Pic × Pic × List Pic:=(D.P.pic,D.M.pic,picsV D.ps)
structure RdD (w:World) (D:Dsk):Prop where
 pl:D.P.ink.length=D.P.n
 pr:Rd w D.P.a D.P.ink
 ml:D.M.ink.length=D.M.n
 mr:Rd w D.M.a D.M.ink
 sl:D.ps.length=D.n
 sr:RdV w D.a D.ps
theorem RdD.below {w w':World} {D:Dsk} (h:RdD w D) (hb:Below w.heap.size w w'):RdD w' D:=
 ⟨h.pl,h.pr.below hb,h.ml,h.mr.below hb,h.sl,h.sr.below hb⟩
theorem RdD.alloc {w:World} {D:Dsk} (h:RdD w D) (o:Obj):RdD (w.alloc o) D:=h.below (Joins.below_alloc1 w o)
structure SmallD (D:Dsk):Prop where
 p:D.P.n≤1048576
 m:D.M.n≤1048576
 n:D.n≤1048576
 s: ∀k,k<D.ps.length→(pv D.ps k).n≤1048576
theorem ownA_other7 {w:World} {B n cap g:Nat} {ad:Option Addr} {xs:List Int} (h:OwnA w B ad n cap xs) (hg:g<B) (a' b' c' d' e' f' h':Value):
   OwnA (((((((w.setCell ⟨g,0,none⟩ a').setCell ⟨g,1,none⟩ b').setCell ⟨g,2,none⟩ c').setCell ⟨g,3,none⟩ d').setCell ⟨g,4,none⟩ e').setCell ⟨g,5,none⟩ f').setCell ⟨g,6,none⟩ h') B ad n cap xs:=by
 have q: ∀ {u:World} (k:OwnA u B ad n cap xs) (i:Nat) (v:Value),OwnA (u.setCell ⟨g,i,none⟩ v) B ad n cap xs:=fun k i v=>k.otherT (fun e=>by have:=k.bd _ e;simp at this;omega) v
 exact q (q (q (q (q (q (q h 0 a') 1 b') 2 c') 3 d') 4 e') 5 f') 6 h'
theorem below_set7 {B g:Nat} {w w':World} (h:Below B w w') (hg:B≤g) (a' b' c' d' e' f' h':Value):
   Below B w (((((((w'.setCell ⟨g,0,none⟩ a').setCell ⟨g,1,none⟩ b').setCell ⟨g,2,none⟩ c').setCell ⟨g,3,none⟩ d').setCell ⟨g,4,none⟩ e').setCell ⟨g,5,none⟩ f').setCell ⟨g,6,none⟩ h'):=
 ((((((h.setCell hg _).setCell hg _).setCell hg _).setCell hg _).setCell hg _).setCell hg _).setCell hg _
structure OwnD (w:World) (B:Nat) (D:Dsk):Prop where
 p:OwnA w B D.P.a D.P.n D.P.c D.P.ink
 m:OwnA w B D.M.a D.M.n D.M.c D.M.ink
 s:OwnV w B D.a D.n D.c D.ps
 pm: ∀b,blockOf D.P.a=some b→blockOf D.M.a≠some b
 ps: ∀b,OwnV.blocks D.a D.ps b→blockOf D.P.a≠some b
 ms: ∀b,OwnV.blocks D.a D.ps b→blockOf D.M.a≠some b
theorem OwnD.rd {w:World} {B:Nat} {D:Dsk} (h:OwnD w B D):RdD w D:=
 ⟨h.p.len,h.p.rd,h.m.len,h.m.rd,h.s.len,h.s.rd⟩
theorem OwnD.below {w w':World} {B:Nat} {D:Dsk} (h:OwnD w B D) (hb:Below w.heap.size w w'):OwnD w' B D:=
 ⟨h.p.below' hb,h.m.below' hb,h.s.below hb,h.pm,h.ps,h.ms⟩
theorem OwnD.mono {w:World} {B B':Nat} {D:Dsk} (h:OwnD w B D) (hB:B'≤B):OwnD w B' D:=
 ⟨h.p.mono hB,h.m.mono hB,h.s.mono hB,h.pm,h.ps,h.ms⟩
theorem OwnD.alloc {w:World} {B:Nat} {D:Dsk} (h:OwnD w B D) (o:Obj):OwnD (w.alloc o) B D:=h.below (Joins.below_alloc1 w o)
theorem OwnV.other {w:World} {B n cap:Nat} {ad:Option Addr} {L:List PV} (h:OwnV w B ad n cap L) {a:Addr} (ha:a.block<B) (u:Value):OwnV (w.setCell a u) B ad n cap L:=by
 have hk:KeepT (fun i=>i=a.block) w (w.setCell a u):=KeepT.set (S:=fun i=>i=a.block) (KeepT.refl _ w) rfl u
 exact hk.ownV h (fun i hb e=>by have:=h.bd i hb;omega)
theorem OwnD.other {w:World} {B:Nat} {D:Dsk} (h:OwnD w B D) {a:Addr} (ha:a.block<B) (u:Value):OwnD (w.setCell a u) B D:=
 ⟨h.p.otherT (fun e=>by have:=h.p.bd _ e;omega) u,h.m.otherT (fun e=>by have:=h.m.bd _ e;omega) u,h.s.other ha u,h.pm,h.ps,h.ms⟩
def Dsk.blocks (D:Dsk) (b:Nat):Prop:=blockOf D.P.a=some b∨blockOf D.M.a=some b∨OwnV.blocks D.a D.ps b
theorem OwnD.bd {w:World} {B:Nat} {D:Dsk} (h:OwnD w B D): ∀b,D.blocks b→B≤b∧b<w.heap.size:=by
 intro b hb
 rcases hb with hb | hb | hb
 · exact h.p.bd b hb
 · exact h.m.bd b hb
 · exact h.s.bd b hb
def deskOk (d:Pic × Pic × List Pic):Bool:=
 picOk d.1.W d.1.H d.1.ink 255 && matOk d.2.1.W d.2.1.H d.2.1.ink && (decide (d.2.2.length=0) || (stackOk d.2.2 && decide ((d.2.2.getD 0 noPic).W=d.1.W∧(d.2.2.getD 0 noPic).H=d.1.H)))
theorem deskOk_p {d:Pic × Pic × List Pic} (h: ¬picOk d.1.W d.1.H d.1.ink 255=true):deskOk d=false:=by
 unfold deskOk
 simp [h]
theorem deskOk_m {d:Pic × Pic × List Pic} (h: ¬matOk d.2.1.W d.2.1.H d.2.1.ink=true):deskOk d=false:=by
 unfold deskOk
 simp [h]
theorem deskOk_0 {d:Pic × Pic × List Pic} (h1:picOk d.1.W d.1.H d.1.ink 255=true) (h2:matOk d.2.1.W d.2.1.H d.2.1.ink=true) (h3:d.2.2.length=0):deskOk d=true:=by
 unfold deskOk
 simp [h1,h2,h3]
theorem deskOk_s {d:Pic × Pic × List Pic} (h1:picOk d.1.W d.1.H d.1.ink 255=true) (h2:matOk d.2.1.W d.2.1.H d.2.1.ink=true) (h3: ¬d.2.2.length=0):
   deskOk d=(stackOk d.2.2 && decide ((d.2.2.getD 0 noPic).W=d.1.W∧(d.2.2.getD 0 noPic).H=d.1.H)):=by
 unfold deskOk
 simp [h1,h2,h3]
end Go.Proofs.YtanccoopbgamdaaGreatDoor
