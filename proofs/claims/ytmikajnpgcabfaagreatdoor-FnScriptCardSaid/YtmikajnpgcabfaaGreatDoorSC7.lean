/-
  Contracts and plain facts on which the theorem of this claim rests, text 7.
-/
import Derived.Deep.Cut
import Derived.Deep.RegionHeld3
import Derived.OrdersHeld
import Derived.StillTailTactics
import Derived.Test.YtmikajnpgcabfaaGreatDoorSC3
import Derived.Test.YtmikajnpgcabfaaGreatDoorSC5
import Derived.Test.YtmikajnpgcabfaaGreatDoorSC6
namespace Go.Proofs.YtmikajnpgcabfaaGreatDoor
set_option linter.unusedVariables false
set_option linter.unusedSimpArgs false
def wtG (W H:Int) (i k:Nat):Int:=4096/(1+farG W H i k)
def crowdTo (W H:Int) (xs:List Int) (i:Nat):Nat→Int
 | 0=>0
 | k+1=>crowdTo W H xs i k+(if xs.getD k 0=1 then wtG W H i k else 0)
def crowdG (W H:Int) (xs:List Int) (i:Nat):Int:=crowdTo W H xs i xs.length
def fieldOk (W H:Int) (xs:List Int):Bool:=picOk W H xs 1 && decide (xs.length≤256)
def bestTo (xs:List Int) (v:Int) (c:Nat→Int):Nat→Int
 | 0=>-1
 | k+1=>if xs.getD k 0=v∧(bestTo xs v c k<0∨c k<c (bestTo xs v c k).toNat) then (k:Int) else bestTo xs v c k
def tightF (W H:Int) (xs:List Int):Int:=bestTo xs 1 (fun j=>-(1*crowdG W H xs j)) xs.length
def wideF (W H:Int) (xs:List Int):Int:=bestTo xs 0 (fun j=>-(-1*crowdG W H xs j)) xs.length
def flipT (W H:Int) (xs:List Int):List Int:=xs.set (tightF W H xs).toNat 0
def flipW (W H:Int) (xs:List Int):List Int:=xs.set (wideF W H xs).toNat 1
def swapG (W H:Int) (xs:List Int):List Int × Bool:=
 if tightF W H xs<0 then (xs,false) else (flipW W H (flipT W H xs),decide (wideF W H (flipT W H xs)≠tightF W H xs))
def evenG (W H:Int):Nat→List Int→List Int × Nat
 | 0,xs=>(xs,0)
 | m+1,xs=>if (swapG W H xs).2=true then ((evenG W H m (swapG W H xs).1).1,(evenG W H m (swapG W H xs).1).2+1) else (xs,0)
def downG (W H:Int) (xs:List Int) (d:Nat) (rs:List Int):Nat→List Int × List Int
 | 0=>(xs,rs)
 | k+1=>(flipT W H (downG W H xs d rs k).1,(downG W H xs d rs k).2.set (tightF W H (downG W H xs d rs k).1).toNat ((d:Int) - 1 - k))
def upG (W H:Int) (xs:List Int) (d:Nat) (rs:List Int):Nat→List Int × List Int
 | 0=>(xs,rs)
 | k+1=>(flipW W H (upG W H xs d rs k).1,(upG W H xs d rs k).2.set (wideF W H (upG W H xs d rs k).1).toNat ((d:Int)+k))
def ranksG (W H:Int) (xs:List Int):List Int:=
 (upG W H xs (icount 1 xs) (downG W H xs (icount 1 xs) (List.replicate xs.length 0) (icount 1 xs)).2 (xs.length - icount 1 xs)).2
def evenF (W H:Int) (xs:List Int) (m:Int):Pic × Int:=if fieldOk W H xs=true∧0≤m∧m≤64 then (⟨W,H,(evenG W H m.toNat xs).1⟩,((evenG W H m.toNat xs).2:Int)) else (⟨W,H,xs⟩,0)
def rankF (W H:Int) (xs:List Int):Mat × Bool:=if fieldOk W H xs=true then (⟨W,H,ranksG W H xs⟩,true) else (noMat,false)
def seedF (W H e:Int):Pic × Bool:=if sizeOk W H=true∧W*H≤256∧1≤e∧e≤100 then (⟨W,H,gen (W*H).toNat (fun i=>if (i:Int)*7 % e=0 then 1 else 0)⟩,true) else (noPic,false)
theorem field_bd {W H:Int} {xs:List Int} {n:Nat} (hn:xs.length=n) (h:fieldOk W H xs=true):1≤W∧W≤64∧1≤H∧H≤64∧(n:Int)=W*H∧n≤256∧1≤n∧within xs 1=true∧sizeOk W H=true:=by
 unfold fieldOk at h
 simp only [Bool.and_eq_true,decide_eq_true_eq] at h
 obtain ⟨h1,h2⟩:=h
 obtain ⟨hs,hq,hi⟩:=picOk_bd hn h1
 obtain ⟨b1,b2,b3,b4,b5,b6⟩:=sizeOk_bd hs
 exact ⟨b1,b2,b3,b4,hq,by omega,by omega,hi,hs⟩
theorem field_mk {W H:Int} {xs:List Int} {n:Nat} (hn:xs.length=n) (hs:sizeOk W H=true) (hq:(n:Int)=W*H) (hi:within xs 1=true) (h:n≤256):fieldOk W H xs=true:=by
 unfold fieldOk
 rw [picOk_in hn hs hq,hi]
 simp;omega
def Dots (xs:List Int):Prop:= ∀k,k<xs.length→xs.getD k 0=0∨xs.getD k 0=1
theorem dots_of {xs:List Int} (h:within xs 1=true):Dots xs:=fun k hk=>by
 have:=within_at h k hk
 simp only [List.getD_eq_getElem?_getD]
 omega
theorem within_of {xs:List Int} (h:Dots xs):within xs 1=true:=by
 unfold within
 rw [List.all_eq_true]
 intro v hv
 obtain ⟨k,hk,rfl⟩:=List.mem_iff_getElem.1 hv
 have:=h k hk
 simp only [List.getD,List.getElem?_eq_getElem hk,Option.getD_some] at this
 simp;omega
theorem getD_set_eq {xs:List Int} {i:Nat} (h:i<xs.length) (v:Int):(xs.set i v).getD i 0=v:=by
 simp [List.getD,List.getElem?_set,h]
theorem getD_set_neQ {xs:List Int} {i k:Nat} (h:i≠k) (v:Int):(xs.set i v).getD k 0=xs.getD k 0:=by
 simp [List.getD,List.getElem?_set,h]
theorem Dots.set {xs:List Int} (h:Dots xs) (i:Nat) {v:Int} (hv:v=0∨v=1):Dots (xs.set i v):=fun k hk=>by
 rw [List.length_set] at hk
 by_cases e:i=k
 · subst e;rw [getD_set_eq hk];exact hv
 · rw [getD_set_neQ e];exact h k hk
theorem field_set {W H:Int} {xs:List Int} (h:fieldOk W H xs=true) (i:Nat) {v:Int} (hv:v=0∨v=1):fieldOk W H (xs.set i v)=true:=by
 obtain ⟨_,_,_,_,b5,b6,_,b8,b9⟩:=field_bd rfl h
 exact field_mk (n:=xs.length) (by simp) b9 b5 (within_of ((dots_of b8).set i hv)) b6
theorem far_nn {W H:Int} (hW:1≤W) (hH:1≤H) (i k:Nat):0≤farG W H i k:=by
 unfold farG
 have:=sq_nn (wayG_bd (d:=(i:Int) % W - (k:Int) % W) hW).1
 have:=sq_nn (wayG_bd (d:=(i:Int)/W - (k:Int)/W) hH).1
 omega
theorem wt_bd {W H:Int} (hW:1≤W) (hH:1≤H) (i k:Nat):0≤wtG W H i k∧wtG W H i k≤4096:=by
 have h:=far_nn hW hH i k
 unfold wtG
 exact ⟨Int.ediv_nonneg (by omega) (by omega),Int.ediv_le_self _ (by omega)⟩
theorem wt_symm {W H:Int} (hW:1≤W) (hH:1≤H) (i k:Nat):wtG W H i k=wtG W H k i:=by unfold wtG;rw [farG_symm hW hH]
theorem crowdTo_bd {W H:Int} (hW:1≤W) (hH:1≤H) (xs:List Int) (i k:Nat):0≤crowdTo W H xs i k∧crowdTo W H xs i k≤4096*k:=by
 induction k with
 | zero=>simp [crowdTo]
 | succ k ih=>
   have:=wt_bd hW hH i k
   unfold crowdTo
   split <;>omega
theorem crowdG_bd {W H:Int} {xs:List Int} {n:Nat} (hn:xs.length=n) (h:fieldOk W H xs=true) (i:Nat):0≤crowdG W H xs i∧crowdG W H xs i≤1048576:=by
 obtain ⟨b1,_,b3,_,_,b6,_⟩:=field_bd hn h
 have:=crowdTo_bd b1 b3 xs i xs.length
 unfold crowdG
 omega
theorem crowdTo_set {W H:Int} {xs:List Int} {i:Nat} (v:Int) (j k:Nat) (h:k≤i):crowdTo W H (xs.set i v) j k=crowdTo W H xs j k:=by
 induction k with
 | zero=>rfl
 | succ k ih=>
   unfold crowdTo
   rw [ih (by omega),getD_set_neQ (by omega)]
theorem crowdTo_put {W H:Int} {xs:List Int} {i:Nat} (j k:Nat) (hi:i<xs.length) (h0:xs.getD i 0=0) (h:i<k):crowdTo W H (xs.set i 1) j k=crowdTo W H xs j k+wtG W H j i:=by
 induction k with
 | zero=>omega
 | succ k ih=>
   unfold crowdTo
   by_cases e:k=i
   · subst e
     rw [crowdTo_set _ _ _ (by omega),getD_set_eq hi,h0,if_pos rfl,if_neg (by decide)]
     omega
   · rw [ih (by omega),getD_set_neQ (by omega)]
     omega
theorem crowdTo_take {W H:Int} {xs:List Int} {i:Nat} (j k:Nat) (hi:i<xs.length) (h0:xs.getD i 0=1) (h:i<k):crowdTo W H (xs.set i 0) j k=crowdTo W H xs j k - wtG W H j i:=by
 induction k with
 | zero=>omega
 | succ k ih=>
   unfold crowdTo
   by_cases e:k=i
   · subst e
     rw [crowdTo_set _ _ _ (by omega),getD_set_eq hi,h0,if_pos rfl,if_neg (by decide)]
     omega
   · rw [ih (by omega),getD_set_neQ (by omega)]
     omega
theorem crowd_put {W H:Int} {xs:List Int} {i:Nat} (j:Nat) (hi:i<xs.length) (h0:xs.getD i 0=0):crowdG W H (xs.set i 1) j=crowdG W H xs j+wtG W H j i:=by
 unfold crowdG;rw [List.length_set];exact crowdTo_put j _ hi h0 hi
theorem crowd_take {W H:Int} {xs:List Int} {i:Nat} (j:Nat) (hi:i<xs.length) (h0:xs.getD i 0=1):crowdG W H (xs.set i 0) j=crowdG W H xs j - wtG W H j i:=by
 unfold crowdG;rw [List.length_set];exact crowdTo_take j _ hi h0 hi
def BestIs (n:Nat) (xs:List Int) (v:Int) (c:Nat→Int) (b:Int):Prop:=
 (b=-1∧ ∀j,j<n→xs.getD j 0≠v)∨ ∃i:Nat,b=(i:Int)∧i<n∧xs.getD i 0=v∧ ∀j,j<n→xs.getD j 0=v→c i≤c j∧(j<i→c i<c j)
theorem best_is (xs:List Int) (v:Int) (c:Nat→Int) (n:Nat):BestIs n xs v c (bestTo xs v c n):=by
 induction n with
 | zero=>exact Or.inl ⟨rfl,fun j h=>by omega⟩
 | succ k ih=>
   unfold bestTo
   rcases ih with ⟨h1,h2⟩ | ⟨i,h1,h2,h3,h4⟩
   · rw [h1]
     by_cases e:xs.getD k 0=v
     · rw [if_pos ⟨e,Or.inl (by omega)⟩]
       refine Or.inr ⟨k,rfl,by omega,e,fun j hj hv=>?_⟩
       by_cases hjk:j=k
       · subst hjk;exact ⟨Int.le_refl _,fun h=>by omega⟩
       · exact absurd hv (h2 j (by omega))
     · rw [if_neg (fun h=>e h.1)]
       refine Or.inl ⟨rfl,fun j hj=>?_⟩
       by_cases hjk:j=k
       · subst hjk;exact e
       · exact h2 j (by omega)
   · rw [h1]
     simp only [Int.toNat_natCast]
     by_cases e:xs.getD k 0=v∧((i:Int)<0∨c k<c i)
     · rw [if_pos e]
       have hc:c k<c i:=by rcases e.2 with h | h;omega;exact h
       refine Or.inr ⟨k,rfl,by omega,e.1,fun j hj hv=>?_⟩
       by_cases hjk:j=k
       · subst hjk;exact ⟨Int.le_refl _,fun h=>by omega⟩
       · have:=h4 j (by omega) hv
         exact ⟨by omega,fun _=>by omega⟩
     · rw [if_neg e]
       refine Or.inr ⟨i,rfl,by omega,h3,fun j hj hv=>?_⟩
       by_cases hjk:j=k
       · subst hjk
         have: ¬c j<c i:=fun h=>e ⟨hv,Or.inr h⟩
         exact ⟨by omega,fun h=>by omega⟩
       · exact h4 j (by omega) hv
theorem BestIs.one {n:Nat} {xs:List Int} {v:Int} {c:Nat→Int} {b b':Int} (h:BestIs n xs v c b) (h':BestIs n xs v c b'):b=b':=by
 rcases h with ⟨h1,h2⟩ | ⟨i,h1,h2,h3,h4⟩
 · rcases h' with ⟨g1,g2⟩ | ⟨k,g1,g2,g3,g4⟩
   · rw [h1,g1]
   · exact absurd g3 (h2 k g2)
 · rcases h' with ⟨g1,g2⟩ | ⟨k,g1,g2,g3,g4⟩
   · exact absurd h3 (g2 i h2)
   · have a1:=h4 k g2 g3
     have a2:=g4 i h2 h3
     have:i=k:=by
       rcases Nat.lt_trichotomy i k with h | h | h
       · have:=a2.2 h;omega
       · exact h
       · have:=a1.2 h;omega
     rw [h1,g1,this]
theorem BestIs.congr {n:Nat} {xs:List Int} {v:Int} {c c':Nat→Int} {b:Int} (h:BestIs n xs v c b) (e: ∀j,j<n→c j=c' j):BestIs n xs v c' b:=by
 rcases h with h | ⟨i,h1,h2,h3,h4⟩
 · exact Or.inl h
 · exact Or.inr ⟨i,h1,h2,h3,fun j hj hv=>by rw [←e i h2,←e j hj];exact h4 j hj hv⟩
theorem best_cases (xs:List Int) (v:Int) (c:Nat→Int) (n:Nat):(bestTo xs v c n=-1∧ ∀j,j<n→xs.getD j 0≠v)∨ ∃i:Nat,bestTo xs v c n=i∧i<n∧xs.getD i 0=v:=by
 rcases best_is xs v c n with h | ⟨i,h1,h2,h3,_⟩
 · exact Or.inl h
 · exact Or.inr ⟨i,h1,h2,h3⟩
theorem tight_cases (W H:Int) (xs:List Int):(tightF W H xs=-1∧ ∀j,j<xs.length→xs.getD j 0≠1)∨ ∃i:Nat,tightF W H xs=i∧i<xs.length∧xs.getD i 0=1:=best_cases _ _ _ _
theorem wide_cases (W H:Int) (xs:List Int):(wideF W H xs=-1∧ ∀j,j<xs.length→xs.getD j 0≠0)∨ ∃i:Nat,wideF W H xs=i∧i<xs.length∧xs.getD i 0=0:=best_cases _ _ _ _
theorem set_back {xs:List Int} {i:Nat} {v u:Int} (hi:i<xs.length) (h:xs.getD i 0=v):(xs.set i u).set i v=xs:=by
 rw [List.set_set]
 apply List.ext_getElem?
 intro k
 rw [List.getElem?_set]
 by_cases e:i=k
 · subst e
   rw [if_pos rfl,if_pos hi,List.getElem?_eq_getElem hi]
   simp only [List.getD,List.getElem?_eq_getElem hi,Option.getD_some] at h
   rw [h]
 · rw [if_neg e]
theorem wide_after {W H:Int} {xs:List Int} {i:Nat} (hi:i<xs.length): ∃k:Nat,wideF W H (xs.set i 0)=k∧k<xs.length∧(xs.set i 0).getD k 0=0:=by
 rcases wide_cases W H (xs.set i 0) with ⟨_,h⟩ | ⟨k,h1,h2,h3⟩
 · exact absurd (getD_set_eq hi 0) (h i (by simpa using hi))
 · exact ⟨k,h1,by simpa using h2,h3⟩
theorem swap_same {W H:Int} {xs:List Int} (h:(swapG W H xs).2=false):(swapG W H xs).1=xs:=by
 unfold swapG at h⊢
 rcases tight_cases W H xs with ⟨h1,h2⟩ | ⟨i,h1,h2,h3⟩
 · rw [if_pos (by omega)]
 · have e: ¬tightF W H xs<0:=by omega
   rw [if_neg e] at h⊢
   simp only [decide_eq_false_iff_not,Decidable.not_not,ne_eq] at h
   unfold flipW
   rw [h]
   unfold flipT
   rw [h1]
   simp only [Int.toNat_natCast]
   exact set_back h2 h3
theorem tight_len (W H:Int) (xs:List Int):(flipT W H xs).length=xs.length:=by simp [flipT]
theorem wide_len (W H:Int) (xs:List Int):(flipW W H xs).length=xs.length:=by simp [flipW]
theorem field_flipT {W H:Int} {xs:List Int} (h:fieldOk W H xs=true):fieldOk W H (flipT W H xs)=true:=field_set h _ (Or.inl rfl)
theorem field_flipW {W H:Int} {xs:List Int} (h:fieldOk W H xs=true):fieldOk W H (flipW W H xs)=true:=field_set h _ (Or.inr rfl)
theorem field_swap {W H:Int} {xs:List Int} (h:fieldOk W H xs=true):fieldOk W H (swapG W H xs).1=true:=by
 unfold swapG
 split
 · exact h
 · exact field_flipW (field_flipT h)
theorem swap_len (W H:Int) (xs:List Int):(swapG W H xs).1.length=xs.length:=by
 unfold swapG
 split
 · rfl
 · rw [wide_len,tight_len]
theorem even_no {W H:Int} {xs:List Int} (m:Nat) (h:(swapG W H xs).2=false):evenG W H m xs=(xs,0):=by
 cases m with
 | zero=>rfl
 | succ m=>unfold evenG;rw [if_neg (by rw [h];decide)]
theorem even_yes {W H:Int} {xs:List Int} {m:Nat} (h:(swapG W H xs).2=true):evenG W H (m+1) xs=((evenG W H m (swapG W H xs).1).1,(evenG W H m (swapG W H xs).1).2+1):=by
 rw [evenG,if_pos h]
theorem even_len (W H:Int) (m:Nat) (xs:List Int):(evenG W H m xs).1.length=xs.length:=by
 induction m generalizing xs with
 | zero=>rfl
 | succ m ih=>
   unfold evenG
   split
   · rw [ih,swap_len]
   · rfl
theorem icount_set {xs:List Int} {i:Nat} (hi:i<xs.length) (v u:Int):icount v (xs.set i u)+(if xs.getD i 0=v then 1 else 0)=icount v xs+(if u=v then 1 else 0):=by
 induction xs generalizing i with
 | nil=>simp at hi
 | cons a r ih=>
   cases i with
   | zero=>
     rw [List.set_cons_zero,icount_cons,icount_cons]
     simp only [List.getD_cons_zero]
     omega
   | succ i=>
     rw [List.set_cons_succ,icount_cons,icount_cons]
     have:=ih (i:=i) (by simpa using hi)
     simp only [List.getD_cons_succ]
     omega
theorem icount_zero {v:Int} {xs:List Int} (h: ∀j,j<xs.length→xs.getD j 0≠v):icount v xs=0:=by
 unfold icount
 rw [List.length_eq_zero_iff,List.filter_eq_nil_iff]
 intro a ha
 obtain ⟨k,hk,rfl⟩:=List.mem_iff_getElem.1 ha
 have:=h k hk
 simp only [List.getD,List.getElem?_eq_getElem hk,Option.getD_some] at this
 simpa using this
theorem dots_count {xs:List Int} (h:Dots xs):icount 0 xs+icount 1 xs=xs.length:=by
 induction xs with
 | nil=>rfl
 | cons a r ih=>
   rw [icount_cons,icount_cons]
   have h0:=h 0 (by simp)
   have hr:Dots r:=fun k hk=>by have:=h (k+1) (by simpa using hk);simpa using this
   have:=ih hr
   simp only [List.getD_cons_zero] at h0
   simp only [List.length_cons]
   rcases h0 with h0 | h0 <;>subst h0 <;>simp <;>omega
theorem flipT_count {W H:Int} {xs:List Int} {i:Nat} (h1:tightF W H xs=i) (h2:i<xs.length) (h3:xs.getD i 0=1):icount 1 (flipT W H xs)+1=icount 1 xs:=by
 unfold flipT
 rw [h1]
 have:=icount_set h2 1 0
 rw [h3] at this
 simpa using this
theorem flipW_count {W H:Int} {xs:List Int} {i:Nat} (h1:wideF W H xs=i) (h2:i<xs.length) (h3:xs.getD i 0=0):icount 1 (flipW W H xs)=icount 1 xs+1:=by
 unfold flipW
 rw [h1]
 have:=icount_set h2 1 1
 rw [h3] at this
 simpa using this
theorem tight_some {W H:Int} {xs:List Int} (h:0<icount 1 xs): ∃i:Nat,tightF W H xs=i∧i<xs.length∧xs.getD i 0=1:=by
 rcases tight_cases W H xs with ⟨_,h2⟩ | h2
 · have:=icount_zero h2;omega
 · exact h2
theorem wide_some {W H:Int} {xs:List Int} (hd:Dots xs) (h:icount 1 xs<xs.length): ∃i:Nat,wideF W H xs=i∧i<xs.length∧xs.getD i 0=0:=by
 rcases wide_cases W H xs with ⟨_,h2⟩ | h2
 · have:=icount_zero h2;have:=dots_count hd;omega
 · exact h2
theorem down_inv {W H:Int} {xs:List Int} (h:fieldOk W H xs=true) (rs:List Int) (k:Nat) (hk:k≤icount 1 xs):
   fieldOk W H (downG W H xs (icount 1 xs) rs k).1=true∧(downG W H xs (icount 1 xs) rs k).1.length=xs.length∧icount 1 (downG W H xs (icount 1 xs) rs k).1+k=icount 1 xs∧(downG W H xs (icount 1 xs) rs k).2.length=rs.length:=by
 induction k with
 | zero=>exact ⟨h,rfl,rfl,rfl⟩
 | succ k ih=>
   obtain ⟨h1,h2,h3,h4⟩:=ih (by omega)
   obtain ⟨i,i1,i2,i3⟩:=tight_some (W:=W) (H:=H) (xs:=(downG W H xs (icount 1 xs) rs k).1) (by omega)
   have:=flipT_count i1 i2 i3
   unfold downG
   exact ⟨field_flipT h1,by rw [tight_len];exact h2,by simp only [];omega,by simp only [List.length_set];exact h4⟩
theorem up_inv {W H:Int} {xs:List Int} (h:fieldOk W H xs=true) (d:Nat) (rs:List Int) (k:Nat) (hk:icount 1 xs+k≤xs.length):
   fieldOk W H (upG W H xs d rs k).1=true∧(upG W H xs d rs k).1.length=xs.length∧icount 1 (upG W H xs d rs k).1=icount 1 xs+k∧(upG W H xs d rs k).2.length=rs.length:=by
 induction k with
 | zero=>exact ⟨h,rfl,rfl,rfl⟩
 | succ k ih=>
   obtain ⟨h1,h2,h3,h4⟩:=ih (by omega)
   obtain ⟨i,i1,i2,i3⟩:=wide_some (W:=W) (H:=H) (xs:=(upG W H xs d rs k).1) (dots_of (field_bd rfl h1).2.2.2.2.2.2.2.1) (by omega)
   have:=flipW_count i1 i2 i3
   unfold upG
   exact ⟨field_flipW h1,by rw [wide_len];exact h2,by simp only [];omega,by simp only [List.length_set];exact h4⟩
theorem icount_le (v:Int) (xs:List Int):icount v xs≤xs.length:=List.length_filter_le _ _
theorem isum_dots {xs:List Int} (h:Dots xs):isum xs=(icount 1 xs:Int):=by
 induction xs with
 | nil=>rfl
 | cons a r ih=>
   rw [icount_cons]
   have h0:=h 0 (by simp)
   have hr:Dots r:=fun k hk=>by have:=h (k+1) (by simpa using hk);simpa using this
   have:=ih hr
   simp only [List.getD_cons_zero] at h0
   unfold isum
   rcases h0 with h0 | h0 <;>subst h0 <;>simp <;>omega
end Go.Proofs.YtmikajnpgcabfaaGreatDoor
namespace Go.Proofs.YtmikajnpgcabfaaGreatDoor
open Go
set_option linter.unusedVariables false
set_option linter.unusedSimpArgs false
section
variable {P : Program} {ops : Array Oper} {Q : Exit → Act → World → Prop} {md : Region.Mode} {S : World → Prop} {n : Nat}
def wpAnyT (P:Program) (md:Region.Mode) (ops:Array Oper) (Q:Exit→Act→World→Prop) (S:World→Prop) (n:Nat):Nat→Array Bool→Act→World→Prop
 | 0,listed,a,w=>Region.ready md ops listed=[]∧Q .normal a w
 | fuel+1,listed,a,w=>
   (Region.ready md ops listed=[]→Q .normal a w)∧
   ∀i ∈ Region.ready md ops listed,wpOp P ops Q i (fun a' w'=>(i<n→S w')∧wpAnyT P md ops Q S n fuel (listed.setIfInBounds i true) a' w') a w
theorem wpAny_of_T: ∀(fuel:Nat) (listed:Array Bool) (a:Act) (w:World),wpAnyT P md ops Q S n fuel listed a w→wpAny P md ops Q fuel listed a w
 | 0,_,_,_,h=>h
 | fuel+1,_,_,_,h=>⟨h.1,fun i hi=>wpOp_mono (fun a' w' h'=>wpAny_of_T fuel _ a' w' h'.2) (h.2 i hi)⟩
theorem wpAnyT_first {i:Nat} {oi:Oper} {v:Value} (hi:ops[i]?=some oi) (hsel: ∀(j:Nat) (o:Oper) cs b,ops[j]?=some o→o.op≠ .select cs b)
   (hQ: ∀c a w,Q (.panic c) (a.put oi.dst v) w→Q (.panic c) a w) (hin:i<n) (hs:Region.sinkB md ops n=true) (hc:Region.chainB md ops n=true) (hn:n<ops.size):
   ∀ (fuel:Nat) (listed:Array Bool) (a:Act) (w:World),
     (∀j oj,ops[j]?=some oj→j≠i→listed.getD j true=false→(∀e ∈ oj.after,Region.binds md e=true→e.on≠i)→oi.apart ops oj=true)→HeadInv md ops n listed→
     i ∈ Region.ready md ops listed→YieldsIf P ops S oi v a→S w→
     wpAnyT P md ops Q S n fuel (listed.setIfInBounds i true) (a.put oi.dst v) w→wpAnyT P md ops Q S n (fuel+1) listed a w:=by
 intro fuel
 induction fuel with
 | zero=>
   intro listed a w _ _ hr hy hS H
   refine ⟨fun h=>(by rw [h] at hr;cases hr),fun j hj=>?_⟩
   by_cases hji:j=i
   · subst hji;exact hy.wpOp hi hS ⟨fun _=>hS,H⟩
   · have:=ready_mono hj hji
     rw [H.1] at this
     cases this
 | succ fuel ih=>
   intro listed a w hfree inv hr hy hS H
   refine ⟨fun h=>(by rw [h] at hr;cases hr),fun j hj=>?_⟩
   by_cases hji:j=i
   · subst hji;exact hy.wpOp hi hS ⟨fun _=>hS,H⟩
   · have h1:=H.2 j (ready_mono hj hji)
     obtain ⟨hjun,oj,hoj,hall⟩:=mem_ready.1 hj
     have hiun:=(mem_ready.1 hr).1
     have hjn:j<n:=by
       by_cases h:j<n
       · exact h
       · exact absurd hj (tail_waits hs hc hn inv (n - i) i rfl hin hiun j (by omega))
     have hnot: ∀e ∈ oj.after,Region.binds md e=true→e.on≠i:=fun e he hb heq=>by
       have h1:=hall e he hb
       rw [heq,getD_both hiun] at h1
       cases h1
     have h2:=wpOp_putIf hoj (hfree j oj hoj hji hjun hnot) (fun cs b=>hsel i oi cs b hi) (fun cs b=>hsel j oj cs b hoj) hQ hy h1
     have hfree': ∀k ok,ops[k]?=some ok→k≠i→(listed.setIfInBounds j true).getD k true=false→
         (∀e ∈ ok.after,Region.binds md e=true→e.on≠i)→oi.apart ops ok=true:=fun k ok hk hki hun hno=>by
       refine hfree k ok hk hki ?_ hno
       by_cases hjk:j=k
       · subst hjk;exact hjun
       · rw [getD_set_ne true hjk] at hun;exact hun
     refine wpOp_mono (fun a' w' h3=>⟨h3.2.1,ih (listed.setIfInBounds j true) a' w' hfree' (inv.set hj hjn) (ready_mono hr (Ne.symm hji)) h3.1 (h3.2.1 hjn) ?_⟩) h2
     rw [Array.setIfInBounds_comm _ _ hji]
     exact h3.2.2
def headB (md:Region.Mode) (ops:Array Oper) (n:Nat) (listed:Array Bool):Bool:=
 decide (listed.size=ops.size) &&
 (List.range ops.size).all (fun j=>!listed.getD j false || (match ops[j]? with | some oj=>oj.after.all (fun e=>!Region.binds md e || listed.getD e.on false) | none=>true)) &&
 (List.range ops.size).all (fun t=>decide (t<n) || !listed.getD t true)
theorem headB_spec {listed:Array Bool} (h:headB md ops n listed=true):HeadInv md ops n listed:=by
 unfold headB at h
 simp only [Bool.and_eq_true,decide_eq_true_eq,List.all_eq_true,List.mem_range,Bool.or_eq_true,Bool.not_eq_true'] at h
 obtain ⟨⟨h1,h2⟩,h3⟩:=h
 refine ⟨h1,fun j oj hj hl e he hb=>?_,fun t ht ht'=>?_⟩
 · have:=h2 j (Array.getElem?_eq_some_iff.1 hj).1
   rw [hl,hj] at this
   rcases this with h | h
   · cases h
   · simp only at h
     have h5:=Array.all_eq_true_iff_forall_mem.1 h e he
     rw [hb] at h5
     simpa using h5
 · rcases h3 t ht' with h | h
   · omega
   · exact h
theorem wpAnyT_take {i:Nat} {oi:Oper} {v:Value} {fuel:Nat} {listed:Array Bool} {a:Act} {w:World} (hi:ops[i]?=some oi)
   (hs:Region.noSelect ops=true) (hf:Region.free md ops listed i=true) (hr:(Region.ready md ops listed).contains i=true)
   (ht:(decide (i<n) && Region.sinkB md ops n && Region.chainB md ops n && decide (n<ops.size) && headB md ops n listed)=true)
   (hQ: ∀c a w,Q (.panic c) (a.put oi.dst v) w→Q (.panic c) a w) (hy:YieldsIf P ops S oi v a) (hS:S w)
   (h:wpAnyT P md ops Q S n fuel (listed.setIfInBounds i true) (a.put oi.dst v) w):wpAnyT P md ops Q S n (fuel+1) listed a w:=by
 simp only [Bool.and_eq_true,decide_eq_true_eq] at ht
 obtain ⟨⟨⟨⟨t1,t2⟩,t3⟩,t4⟩,t5⟩:=ht
 exact wpAnyT_first hi (Region.noSelect_spec hs) hQ t1 t2 t3 t4 fuel listed a w (Region.free_spec hi hf) (headB_spec t5) (by simpa using hr) hy hS h
theorem wpAnyT_all {rs:List Nat} {fuel:Nat} {listed:Array Bool} {a:Act} {w:World} (hr:Region.ready md ops listed=rs) (hne:rs≠ [])
   (h: ∀i ∈ rs,wpOp P ops Q i (fun a' w'=>(i<n→S w')∧wpAnyT P md ops Q S n fuel (listed.setIfInBounds i true) a' w') a w):wpAnyT P md ops Q S n (fuel+1) listed a w:=
 ⟨fun h0=>absurd (hr ▸ h0) hne,hr ▸ h⟩
theorem wpAnyT_done {listed:Array Bool} {a:Act} {w:World} (hr:Region.ready md ops listed=[]) (h:Q .normal a w): ∀fuel,wpAnyT P md ops Q S n fuel listed a w
 | 0=>⟨hr,h⟩
 | _+1=>⟨fun _=>h,by rw [hr];simp⟩
theorem wpAnyT_one {i:Nat} {o:Oper} {fuel:Nat} {listed:Array Bool} {a:Act} {w:World} (hr:Region.ready md ops listed=[i]) (ho:ops[i]?=some o)
   (h: ∀K':Act→World→Prop,Shut (∀a w,(i<n→S w)→((i<n→S w)→wpAnyT P md ops Q S n fuel (listed.setIfInBounds i true) a w)→K' a w)→if Region.wanted o (yielded ops a.tmps)=true then Oper.wp P o a w K' Q else K' (a.put o.dst undef) w):
   wpAnyT P md ops Q S n (fuel+1) listed a w:=
 wpAnyT_all hr (by simp) (fun j hj=>by
   obtain rfl:j=i:=by simpa using hj
   exact wpOp_step ho (fun K' hK=>h K' (fun a w hS hW=>hK a w ⟨hS,hW hS⟩)))
theorem wp_region_T (n:Nat) {id:Nat} {a:Act} {w:World} (S:World→Prop) (hm:P.follows .mixedOrders=true) (hS:S w.drew)
   (h:S w.drew→wpAnyT P .any ops Q S n ops.size (Array.replicate ops.size false) a w.drew):(Code.region id ops true).wp P Q a w:=
 wp_region_any hm (wpAny_of_T _ _ _ _ (h hS))
end
end Go.Proofs.YtmikajnpgcabfaaGreatDoor
namespace Go.Proofs.YtmikajnpgcabfaaGreatDoor
open Go.RowKit
set_option linter.unusedVariables false
set_option linter.unusedSimpArgs false
theorem infoInt6:(Tryz.prog.info? 3).map (fun i=>(i.zero,i.size,i.bytes))=some (some (.int .i64 0),1,8):=by kernel_rfl
theorem RowA.toOwn6 {w:World} {B n cap:Nat} {ad:Option Addr} {xs:List Int} (h:RowA w 3 1 B ad n cap xs):OwnA w B ad n cap xs:=by
 rcases h with h | ⟨g,h1,h2,h3,cur,h4,h5,h6,h7,h8⟩
 · exact .inl h
 · exact .inr ⟨g,h1,h2,by omega,cur,h4,h5,h6,by omega,by rw [Nat.mul_one] at h8;exact h8⟩
theorem rowT_empty6 (w:World) (T sz:Nat):RowT (w.alloc (.cells #[] T)) T sz w.heap.size 0 0 []:=⟨by simp,#[],heap_alloc_new w _,Nat.le_refl _,by unfold maxLen;omega,by simp,by simp⟩
theorem wp_clone6 (w:World) {ops:Array Oper} {rest:List Oper} {o:Oper} {a:Act} {Q:Exit→Act→World→Prop}
   (hgd:o.guard=none) (s x:Operand) (hop:o.op= .call {callee:= .builtin .append,args:=#[s,x],argTypes:=#[25,25]})
   (B cap:Nat) (ad:Option Addr) (hs:a.eval s= .slice ad 0 cap) (ho:RowA w 3 1 B ad 0 cap []) (b off m c:Nat) (vs:List Int) (hx:a.eval x= .slice (some ⟨b,off,none⟩) m c)
   (hv:vs.length=m) (hc: ∀j,j<m→w.cell? ⟨b,off+j,none⟩=some (.int .i64 (vs.getD j 0))) (hn:m≤1048576) (hB:B≤w.heap.size)
   (hK: ∀ad' cap' w',RowA w' 3 1 B ad' m cap' vs→w.grownBy w' (blockOf ad)→wpList Tryz.prog ops Q rest (a.put o.dst (.slice ad' m cap')) w'):
   wpList Tryz.prog ops Q (o::rest) a w:=by
 obtain ⟨i,hi,hz0,hz1,hz2⟩:=info_parts infoInt6
 refine wpList_append_own w hgd s x 25 hop B 3 i (.int .i64 0) 1 8 Tryz.underlying25 hi hz0 hz1 hz2 rfl (by omega) _ 0 (([]:List Int).map (Value.int .i64)) hs ho.toRow ⟨b,off,none⟩ m c (vs.map (Value.int .i64)) hx (by simp [hv]) ?_ ?_ (by unfold maxLen;omega) (by rw [Nat.zero_add];omega) hB ?_
 · intro j u hj
   by_cases hjs:j<m
   · have:=hc j hjs
     rw [List.getElem?_map,List.getElem?_eq_getElem (by omega)] at hj
     simp only [Option.map_some,Option.some.injEq] at hj
     subst hj
     rw [show (Addr.mk b off none).add j=⟨b,off+j,none⟩ by rw [Addr.add_lit],this]
     simp [List.getD,List.getElem?_eq_getElem (show j<vs.length by omega)]
   · rw [List.getElem?_eq_none (by simp;omega)] at hj;cases hj
 · intro u hu
   obtain ⟨x,_,rfl⟩:=List.mem_map.1 hu
   rfl
 · intro v' w' h2 h3 _
   rw [Nat.zero_add] at h2
   have h4:w'.ownsRow B 3 1 v' m (vs.map (Value.int .i64)):=by simpa using h2
   obtain ⟨ad',cap',rfl,h5⟩:=RowA.ofRow h4
   rw [blockOf_ownT] at h3
   exact hK ad' cap' w' h5 h3
def CopyOut (w:World) (W H:Int) (n:Nat) (xs:List Int) (e:Ending) (w':World):Prop:=
 ∃a c,e= .returned (.agg #[.int .i64 W, .int .i64 H, .slice a n c])∧OwnA w' w.heap.size a n c xs∧Below w.heap.size w w'
def evenR (W H:Int) (xs:List Int) (m:Int):List Int × Int:=if fieldOk W H xs=true∧0≤m∧m≤64 then ((evenG W H m.toNat xs).1,((evenG W H m.toNat xs).2:Int)) else (xs,0)
theorem evenF_is (W H:Int) (xs:List Int) (m:Int):evenF W H xs m=(⟨W,H,(evenR W H xs m).1⟩,(evenR W H xs m).2):=by
 unfold evenF evenR
 split <;>rfl
def EvenOut (w:World) (W H:Int) (n:Nat) (R:List Int × Int) (e:Ending) (w':World):Prop:=
 ∃a c,e= .returned (.tuple #[.agg #[.int .i64 W, .int .i64 H, .slice a n c], .int .i64 R.2])∧OwnA w' w.heap.size a n c R.1∧Below w.heap.size w w'
def PicOutI (w:World) (R:Pic × Int) (e:Ending) (w':World):Prop:=
 ∃a n c,e= .returned (.tuple #[.agg #[.int .i64 R.1.W, .int .i64 R.1.H, .slice a n c], .int .i64 R.2])∧OwnA w' w.heap.size a n c R.1.ink∧n≤1048576∧Below w.heap.size w w'
theorem EvenOut.out {w:World} {W H m:Int} {n:Nat} {xs:List Int} {e:Ending} {w':World} (h:EvenOut w W H n (evenR W H xs m) e w') (hl:n≤1048576):PicOutI w (evenF W H xs m) e w':=by
 rw [evenF_is]
 obtain ⟨a,c,h1,h2,h3⟩:=h
 exact ⟨a,n,c,h1,h2,hl,h3⟩
set_option maxRecDepth 100000 in
set_option maxHeartbeats 800000 in
theorem clone_ints6 (b off n cap:Nat) (xs:List Int) (w:World) (hn:xs.length=n) (ha:Rd w (some ⟨b,off,none⟩) xs) (hl:n≤1048576):
   Calls Tryz.prog 86 #[.slice (some ⟨b,off,none⟩) n cap] w fun e w'=> ∃a c,e= .returned (.slice a n c)∧OwnA w' w.heap.size a n c xs∧Below w.heap.size w w':=by
 have HN:=Lib.hid hn
 have HA:=Lib.hid ha
 clear hn ha
 have hnil:=fun v:World=>Lib.run_eql_slice_nil (P:=Tryz.prog) v (t:=25) (e:=3) (a:=some ⟨b,off,none⟩) n cap 0 0 Tryz.underlying25
 go_enter Tryz.func86,Tryz.ntmps86
 go_wp2_with (at_builtin;refine wp_clone6 _ rfl (.tmp 5) (.tmp 6) rfl w.heap.size 0 _ rfl (RowA.mk (rowT_empty6 w 3 1) (Nat.le_refl _)) b off n cap xs rfl HN.out (fun j hj=>by
   obtain ⟨b2,o2,h3,h4,h5⟩:=(HA.out.alloc (.cells #[] 3)).at (by have:=HN.out;omega)
   cases h3
   exact h5 j (by have:=HN.out;omega)) hl (by simp) ?_;intro ad2 cap2 w5 ho5 hg5)
 have HB5:=Lib.hid ((Joins.below_alloc1 w (.cells #[] 3)).grown hg5 (by simp) (fun k hk=>by simp [blockOf] at hk;omega))
 have HO5:=Lib.hid ho5.toOwn6
 clear ho5 hg5
 go_ret
 exact ⟨_,_,rfl,HO5.out,HB5.out⟩
set_option maxRecDepth 100000 in
set_option maxHeartbeats 1600000 in
theorem impl_unchanged (W H:Int) (b off n cap:Nat) (xs:List Int) (w:World) (hn:xs.length=n) (ha:Rd w (some ⟨b,off,none⟩) xs) (hl:n≤1048576):
   Calls Tryz.prog 85 #[.agg #[.int .i64 W, .int .i64 H, .slice (some ⟨b,off,none⟩) n cap]] w (CopyOut w W H n xs):=by
 have HN:=Lib.hid hn
 have HA:=Lib.hid ha
 clear hn ha
 go_enter Tryz.func85,Tryz.ntmps85
 go_upto_region 1 with fail
 have KP:=Lib.hid ((Blk.new w 27 #[.int .i64 W, .int .i64 H, .slice (some ⟨b,off,none⟩) n cap]).alloc (.cells #[.int .i64 0, .int .i64 0, .slice none 0 0] 27))
 have KZ:=Lib.hid (Blk.new' (g:=w.heap.size+1) (w:=w.alloc (.cells #[.int .i64 W, .int .i64 H, .slice (some ⟨b,off,none⟩) n cap] 27)) 27 #[.int .i64 0, .int .i64 0, .slice none 0 0] (by simp))
 have HBP:=Lib.hid (bAlloc (bAlloc (Below.refl w.heap.size w) (.cells #[.int .i64 W, .int .i64 H, .slice (some ⟨b,off,none⟩) n cap] 27)) (.cells #[.int .i64 0, .int .i64 0, .slice none 0 0] 27))
 have RP:=Lib.hid ((HA.out.alloc (.cells #[.int .i64 W, .int .i64 H, .slice (some ⟨b,off,none⟩) n cap] 27)).alloc (.cells #[.int .i64 0, .int .i64 0, .slice none 0 0] 27))
 obtain ⟨wo,hwo⟩: ∃wo:World,wo=(w.alloc (.cells #[.int .i64 W, .int .i64 H, .slice (some ⟨b,off,none⟩) n cap] 27)).alloc (.cells #[.int .i64 0, .int .i64 0, .slice none 0 0] 27):=⟨_,rfl⟩
 have ZO:Hid (wo.heap.size=w.heap.size+1+1):=Lib.hid (by rw [hwo];simp)
 rw [←hwo] at KP KZ HBP RP⊢
 clear hwo
 obtain ⟨l0,o0,o1,o2⟩:=KP.out.c3
 have MK:Hid (∀v,BelowL wo v→v.cell? ⟨w.heap.size,0,none⟩=some (.int .i64 W)∧v.cell? ⟨w.heap.size,1,none⟩=some (.int .i64 H)∧v.cell? ⟨w.heap.size,2,none⟩=some (.slice (some ⟨b,off,none⟩) n cap)∧BelowL wo v):=Lib.hid (fun v hB=>⟨(hB.out.cell l0).trans o0,(hB.out.cell l0).trans o1,(hB.out.cell l0).trans o2,hB⟩)
 refine wp_region_T 8 (fun v=>v.cell? ⟨w.heap.size,0,none⟩=some (.int .i64 W)∧v.cell? ⟨w.heap.size,1,none⟩=some (.int .i64 H)∧v.cell? ⟨w.heap.size,2,none⟩=some (.slice (some ⟨b,off,none⟩) n cap)∧BelowL wo v) (by kernel_rfl) (MK.out _ (BelowL.start _)) ?_
 intro hHeld
 have hb0:=limb4 hHeld
 (refine' wpAnyT_take (i:=0) (v:=?_) rfl (by kernel_rfl) (by kernel_rfl) (by kernel_rfl) (by kernel_rfl) (fun _ _ _ h=>h) (Or.inl ⟨by rfl,?_⟩) (by assumption) ?_;rotate_left;(· (intro w hSw;(try dsimp only at hSw);go_simp;try with_reducible rfl));(try simp only [Act.put,List.setIfInBounds_toArray,List.set_cons_zero,List.set_cons_succ]))
 (refine' wpAnyT_take (i:=1) (v:=?_) rfl (by kernel_rfl) (by kernel_rfl) (by kernel_rfl) (by kernel_rfl) (fun _ _ _ h=>h) (Or.inl ⟨by rfl,?_⟩) (by assumption) ?_;rotate_left;(· (intro w hSw;(try dsimp only at hSw);go_simp;try with_reducible rfl));(try simp only [Act.put,List.setIfInBounds_toArray,List.set_cons_zero,List.set_cons_succ]))
 (refine' wpAnyT_take (i:=2) (v:=?_) rfl (by kernel_rfl) (by kernel_rfl) (by kernel_rfl) (by kernel_rfl) (fun _ _ _ h=>h) (Or.inl ⟨by rfl,?_⟩) (by assumption) ?_;rotate_left;(· (intro w hSw;(try dsimp only at hSw);go_simp;try with_reducible rfl));(try simp only [Act.put,List.setIfInBounds_toArray,List.set_cons_zero,List.set_cons_succ]))
 (refine' wpAnyT_take (i:=3) (v:=?_) rfl (by kernel_rfl) (by kernel_rfl) (by kernel_rfl) (by kernel_rfl) (fun _ _ _ h=>h) (Or.inl ⟨by rfl,?_⟩) (by assumption) ?_;rotate_left;(· (intro w hSw;(try dsimp only at hSw);go_simp;try with_reducible rfl));(try simp only [Act.put,List.setIfInBounds_toArray,List.set_cons_zero,List.set_cons_succ]))
 (refine' wpAnyT_take (i:=4) (v:=?_) rfl (by kernel_rfl) (by kernel_rfl) (by kernel_rfl) (by kernel_rfl) (fun _ _ _ h=>h) (Or.inl ⟨by rfl,?_⟩) (by assumption) ?_;rotate_left;(· (intro w hSw;(try dsimp only at hSw);go_simp;try with_reducible rfl));(try simp only [Act.put,List.setIfInBounds_toArray,List.set_cons_zero,List.set_cons_succ]))
 (refine' wpAnyT_take (i:=5) (v:=?_) rfl (by kernel_rfl) (by kernel_rfl) (by kernel_rfl) (by kernel_rfl) (fun _ _ _ h=>h) (Or.inl ⟨by rfl,?_⟩) (by assumption) ?_;rotate_left;(· (intro w hSw;(try dsimp only at hSw);go_simp;try with_reducible rfl));(try simp only [Act.put,List.setIfInBounds_toArray,List.set_cons_zero,List.set_cons_succ]))
 refine wpAnyT_one (i:=6) (by kernel_rfl) rfl (fun K hK=>?_)
 go_simp
 go_at_call 86
 ((with_reducible refine (clone_ints6 b off n cap xs _ HN.out (by exact RP.out.below hb0.out) hl).mono ?_);rintro e v1 ⟨ad2,cap2,rfl,ho5,hq1⟩)
 have hb1:=BelowL.call hb0 hq1
 go_wp2_with fail
 refine hK.out _ _ (fun _=>by (try dsimp only);exact MK.out _ hb1) (fun hH2=>?_)
 clear hK K hHeld
 have HO5:=Lib.hid ho5
 have KZ5:=Lib.hid (KZ.out.below hb1.out KZ.out.lt)
 have HBF:=Lib.hid (bTrans HBP.out hb1.out)
 clear ho5
 obtain ⟨z0,r0,r1,r2⟩:=KZ5.out.c3
 obtain ⟨f0,f1,f2⟩:=KZ5.out.f3
 refine wpAnyT_one (i:=7) (by kernel_rfl) rfl (fun K hK=>?_)
 go_simp
 refine hK.out _ _ (fun _=>by (try dsimp only);exact MK.out _ hb1) (fun hH2=>?_)
 clear hK K
 refine wpAnyT_one (i:=8) (by kernel_rfl) rfl (fun K hK=>?_)
 go_simp
 refine hK.out _ _ (fun h=>absurd h (by decide)) (fun hH2=>?_)
 clear hK K hH2
 refine wpAnyT_done (by kernel_rfl) ?_ _
 (try go_simp)
 go_wp2_with fail
 exact bodyPost_ret (v:= .agg #[.int .i64 W, .int .i64 H, .slice ad2 n cap2]) (by simp [results,Tryz.results85,go_sem,r0,r1,r2]) rfl
   ⟨_,_,rfl,(((HO5.out.other (by simp;(try have:=ZO.out);omega) _).other (by simp;(try have:=ZO.out);omega) _).other (by simp;(try have:=ZO.out);omega) _).mono (by have:=ZO.out;show w.heap.size≤wo.heap.size;omega),
     ((HBF.out.setCell (by first | (simp;done) | (simp;omega)) _).setCell (by first | (simp;done) | (simp;omega)) _).setCell (by first | (simp;done) | (simp;omega)) _⟩
end Go.Proofs.YtmikajnpgcabfaaGreatDoor
