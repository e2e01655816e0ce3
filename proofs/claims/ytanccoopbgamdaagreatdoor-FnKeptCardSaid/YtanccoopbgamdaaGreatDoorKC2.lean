/-
  Contracts and plain facts on which the theorem of this claim rests, text 2.
-/
import Derived.Test.YtanccoopbgamdaaGreatDoorKC1
namespace Go.Proofs.YtanccoopbgamdaaGreatDoor
set_option linter.unusedVariables false
set_option linter.unusedSimpArgs false
theorem join_dm {q r m:Int} (h0:0≤r) (h1:r<m):(q*m+r)/m=q∧(q*m+r) % m=r:=by
 constructor
 · rw [Int.add_comm,Int.add_mul_ediv_right _ _ (by omega),Int.ediv_eq_zero_of_lt h0 h1];omega
 · rw [Int.add_comm,Int.add_mul_emod_self_right,Int.emod_eq_of_lt h0 h1]
theorem split_dm {i W H:Int} (hW:1≤W) (h0:0≤i) (h1:i<W*H): ∃x y,0≤x∧x<W∧0≤y∧y<H∧i=y*W+x∧i % W=x∧i/W=y:=by
 refine ⟨i % W,i/W,Int.emod_nonneg _ (by omega),Int.emod_lt_of_pos _ (by omega),Int.ediv_nonneg h0 (by omega),?_,?_,rfl,rfl⟩
 · exact Int.ediv_lt_of_lt_mul (by omega) (by rw [Int.mul_comm];exact h1)
 · have:=Int.mul_ediv_add_emod i W
   rw [Int.mul_comm] at this
   omega
theorem row_bd {x y W H:Int} (h0:0≤x) (h1:x<W) (h2:0≤y) (h3:y<H):0≤y*W∧y*W+x<W*H:=by
 have e1:0≤y*W:=Int.mul_nonneg h2 (by omega)
 have e2:(y+1)*W≤H*W:=Int.mul_le_mul_of_nonneg_right (by omega) (by omega)
 rw [Int.add_mul,Int.one_mul,Int.mul_comm H W] at e2
 omega
def mirT (W i:Int):Int:=i/W*W+W - 1 - i % W
theorem getD_set (ys:List Int) (a b:Nat) (v:Int) (ha:a<ys.length):(ys.set a v).getD b 0=if a=b then v else ys.getD b 0:=by
 simp only [List.getD,List.getElem?_set]
 by_cases h:a=b
 · subst h;simp [ha]
 · simp [h]
theorem map_get (xs:List Int) (f:Int→Int) (k:Nat) (h:k<xs.length):(xs.map f).getD k 0=f (xs[k]?.getD 0):=by
 simp [List.getD,h]
def matSize (W H:Int):Bool:=decide (1≤W∧W≤256∧1≤H∧H≤256∧W*H≤256)
def inR (xs:List Int) (n:Nat):Bool:=xs.all (fun v=>decide (0≤v∧v<(n:Int)))
def permOk (xs:List Int):Bool:=inR xs xs.length && decide xs.Nodup
def matOk (W H:Int) (xs:List Int):Bool:=matSize W H && (decide ((xs.length:Int)=W*H) && permOk xs)
theorem mul_bdM (W H:Int) (h1:1≤W) (h2:W≤256) (h3:1≤H) (h4:H≤256):1≤W*H∧W*H≤65536:=by
 constructor
 · have:=Int.mul_le_mul h1 h3 (by omega) (by omega);omega
 · have:=Int.mul_le_mul h2 h4 (by omega) (by omega);omega
theorem matSize_in {W H:Int} (h1:1≤W) (h2:W≤256) (h3:1≤H) (h4:H≤256):matSize W H=decide (W*H≤256):=by unfold matSize;simp [h1,h2,h3,h4]
theorem matSize_out {W H:Int} (c: ¬(1≤W∧W≤256∧1≤H∧H≤256)):matSize W H=false:=by
 unfold matSize;rw [decide_eq_false_iff_not];exact fun h=>c ⟨h.1,h.2.1,h.2.2.1,h.2.2.2.1⟩
theorem matSize_bd {W H:Int} (h:matSize W H=true):1≤W∧W≤256∧1≤H∧H≤256∧W*H≤256∧1≤W*H:=by
 unfold matSize at h
 have h:=of_decide_eq_true h
 exact ⟨h.1,h.2.1,h.2.2.1,h.2.2.2.1,h.2.2.2.2,(mul_bdM W H h.1 h.2.1 h.2.2.1 h.2.2.2.1).1⟩
theorem matSize_mk {W H:Int} (h1:1≤W) (h3:1≤H) (h5:W*H≤256):matSize W H=true:=by
 have e1:W*1≤W*H:=Int.mul_le_mul_of_nonneg_left h3 (by omega)
 have e2:1*H≤W*H:=Int.mul_le_mul_of_nonneg_right h1 (by omega)
 unfold matSize
 rw [decide_eq_true_iff]
 omega
theorem toNat_mulM {W H:Int} (h:matSize W H=true):((W*H).toNat:Int)=W*H∧(W*H).toNat≤256:=by
 obtain ⟨_,_,_,_,h5,h6⟩:=matSize_bd h
 omega
theorem inR_at {xs:List Int} {n:Nat} (h:inR xs n=true) (k:Nat) (hk:k<xs.length):0≤xs[k]?.getD 0∧xs[k]?.getD 0<(n:Int):=by
 unfold inR at h
 have:=List.all_eq_true.1 h xs[k] (List.getElem_mem hk)
 simpa [List.getElem?_eq_getElem hk] using this
theorem inR_no {xs:List Int} {n:Nat} (k:Nat) (hk:k<xs.length) (h: ¬(0≤xs[k]?.getD 0∧xs[k]?.getD 0<(n:Int))):inR xs n=false:=by
 unfold inR
 rw [List.all_eq_false]
 refine ⟨xs[k],List.getElem_mem hk,?_⟩
 simpa [List.getElem?_eq_getElem hk] using h
theorem inR_of {xs:List Int} {n:Nat} (h: ∀k,k<xs.length→0≤xs[k]?.getD 0∧xs[k]?.getD 0<(n:Int)):inR xs n=true:=by
 unfold inR
 rw [List.all_eq_true]
 intro v hv
 obtain ⟨k,hk,rfl⟩:=List.getElem_of_mem hv
 have:=h k hk
 simpa [List.getElem?_eq_getElem hk] using this
theorem inR_snoc {xs:List Int} {n k:Nat} (hk:k<xs.length) (h:inR (xs.take k) n=true) (h0:0≤xs[k]?.getD 0) (h1:xs[k]?.getD 0<(n:Int)):inR (xs.take (k+1)) n=true:=by
 unfold inR at h⊢
 rw [List.take_succ_eq_append_getElem hk,List.all_append,h]
 simp only [List.getElem?_eq_getElem hk,Option.getD_some] at h0 h1
 simp [h0,h1]
theorem permOk_noR {xs:List Int} {n:Nat} (hn:xs.length=n) (k:Nat) (hk:k<n) (h: ¬(0≤xs[k]?.getD 0∧xs[k]?.getD 0<(n:Int))):permOk xs=false:=by
 unfold permOk;rw [inR_no k (by omega) (by rw [hn];exact h)];rfl
theorem permOk_bd {xs:List Int} (h:permOk xs=true):inR xs xs.length=true∧xs.Nodup:=by
 unfold permOk at h
 simpa using h
theorem permOk_mk {xs:List Int} {n:Nat} (hn:xs.length=n) (h:inR xs n=true) (h2:xs.Nodup):permOk xs=true:=by
 unfold permOk;rw [hn,h];simpa using h2
theorem permOk_noD {xs:List Int} (h: ¬xs.Nodup):permOk xs=false:=by
 unfold permOk;simp [h]
theorem nodup_take_no {xs:List Int} {k:Nat} (hk:k<xs.length) (h:xs[k]?.getD 0 ∈ xs.take k): ¬xs.Nodup:=by
 intro hd
 have h2:(xs.take (k+1)).Nodup:=hd.sublist (List.take_sublist _ _)
 rw [List.take_succ_eq_append_getElem hk,List.nodup_append] at h2
 simp only [List.getElem?_eq_getElem hk,Option.getD_some] at h
 exact h2.2.2 _ h _ (by simp) rfl
theorem nodup_take_succ {xs:List Int} {k:Nat} (hk:k<xs.length) (hd:(xs.take k).Nodup) (h: ¬xs[k]?.getD 0 ∈ xs.take k):(xs.take (k+1)).Nodup:=by
 rw [List.take_succ_eq_append_getElem hk,List.nodup_append]
 simp only [List.getElem?_eq_getElem hk,Option.getD_some] at h
 refine ⟨hd,by simp,?_⟩
 intro a ha b hb
 simp at hb
 subst hb
 intro e
 subst e
 exact h ha
theorem matOk_no1 {W H:Int} {xs:List Int} (h:matSize W H=false):matOk W H xs=false:=by unfold matOk;simp [h]
theorem matOk_no2 {W H:Int} {xs:List Int} {n:Nat} (hn:xs.length=n) (h: ¬(n:Int)=W*H):matOk W H xs=false:=by unfold matOk;rw [hn];simp [h]
theorem matOk_in {W H:Int} {xs:List Int} {n:Nat} (hn:xs.length=n) (h1:matSize W H=true) (h:(n:Int)=W*H):matOk W H xs=permOk xs:=by unfold matOk;rw [hn];simp [h,h1]
theorem matOk_bd {W H:Int} {xs:List Int} {n:Nat} (hn:xs.length=n) (h:matOk W H xs=true):matSize W H=true∧(n:Int)=W*H∧inR xs n=true∧xs.Nodup:=by
 unfold matOk at h
 simp only [Bool.and_eq_true,decide_eq_true_eq] at h
 obtain ⟨h1,h2,h3⟩:=h
 obtain ⟨h4,h5⟩:=permOk_bd h3
 exact ⟨h1,by rw [←hn];exact h2,by rw [←hn];exact h4,h5⟩
theorem matOk_mk {W H:Int} {xs:List Int} {n:Nat} (hn:xs.length=n) (h1:matSize W H=true) (h2:(n:Int)=W*H) (h3:inR xs n=true) (h4:xs.Nodup):matOk W H xs=true:=by
 rw [matOk_in hn h1 h2];exact permOk_mk hn h3 h4
theorem icount_cons (v x:Int) (xs:List Int):icount v (x::xs)=(if x=v then 1 else 0)+icount v xs:=by
 unfold icount
 by_cases h:x=v
 · subst h;simp;omega
 · simp [h]
theorem icount_pos {v:Int} {xs:List Int} (h:v ∈ xs):1≤icount v xs:=by
 unfold icount
 exact List.length_pos_of_mem (List.mem_filter.2 ⟨h,by simp⟩)
theorem nodup_of_icount {xs:List Int} (h: ∀v,icount v xs≤1):xs.Nodup:=by
 induction xs with
 | nil=>exact List.nodup_nil
 | cons x xs ih=>
   rw [List.nodup_cons]
   refine ⟨fun hm=>?_,ih (fun v=>?_)⟩
   · have h1:=h x
     rw [icount_cons,if_pos rfl] at h1
     have:=icount_pos hm
     omega
   · have h1:=h v
     rw [icount_cons] at h1
     omega
theorem icount_nodup {xs:List Int} (h:xs.Nodup) (v:Int):icount v xs≤1:=by
 induction xs with
 | nil=>simp [icount]
 | cons x xs ih=>
   rw [List.nodup_cons] at h
   rw [icount_cons]
   by_cases e:x=v
   · subst e
     have h0:icount x xs=0:=by
       unfold icount
       rw [List.length_eq_zero_iff,List.filter_eq_nil_iff]
       intro a ha hq
       simp at hq
       subst hq
       exact h.1 ha
     rw [if_pos rfl,h0]
     omega
   · rw [if_neg e]
     have:=ih h.2
     omega
def sumTo (f:Nat→Nat):Nat→Nat
 | 0=>0
 | n+1=>sumTo f n+f n
theorem sumTo_congr {f g:Nat→Nat} {n:Nat} (h: ∀r,r<n→f r=g r):sumTo f n=sumTo g n:=by
 induction n with
 | zero=>rfl
 | succ n ih=>simp only [sumTo];rw [ih (fun r hr=>h r (by omega)),h n (by omega)]
theorem sumTo_add (f g:Nat→Nat) (n:Nat):sumTo (fun r=>f r+g r) n=sumTo f n+sumTo g n:=by
 induction n with
 | zero=>rfl
 | succ n ih=>simp only [sumTo];rw [ih];omega
theorem sumTo_one (x:Nat) (n:Nat):sumTo (fun r=>if x=r then 1 else 0) n=if x<n then 1 else 0:=by
 induction n with
 | zero=>rfl
 | succ n ih=>
   simp only [sumTo];rw [ih]
   by_cases h1:x<n
   · rw [if_pos h1,if_neg (by omega),if_pos (by omega)]
   · by_cases h2:x=n
     · rw [if_neg h1,if_pos h2,if_pos (by omega)]
     · rw [if_neg h1,if_neg h2,if_neg (by omega)]
theorem sumTo_le {f:Nat→Nat} {n:Nat} (h: ∀r,r<n→f r≤1):sumTo f n≤n:=by
 induction n with
 | zero=>exact Nat.le_refl 0
 | succ n ih=>
   simp only [sumTo]
   have:=ih (fun r hr=>h r (by omega))
   have:=h n (by omega)
   omega
theorem sumTo_full {f:Nat→Nat} {n:Nat} (h: ∀r,r<n→f r≤1) (hs:sumTo f n=n): ∀r,r<n→f r=1:=by
 induction n with
 | zero=>intro r hr;omega
 | succ n ih=>
   simp only [sumTo] at hs
   have h1:=sumTo_le (f:=f) (n:=n) (fun r hr=>h r (by omega))
   have h2:=h n (by omega)
   intro r hr
   by_cases e:r=n
   · subst e;omega
   · exact ih (fun r hr=>h r (by omega)) (by omega) r (by omega)
def below (n:Int) (xs:List Int):Nat:=(xs.filter (fun v=>decide (v<n))).length
theorem sum_icount {xs:List Int} (h: ∀v,v ∈ xs→0≤v) (n:Nat):sumTo (fun r=>icount (r:Int) xs) n=below n xs:=by
 induction xs with
 | nil=>
   have: ∀n,sumTo (fun _=>0) n=0:=by intro n;induction n with | zero=>rfl | succ n ih=>simp only [sumTo];omega
   simpa [icount,below] using this n
 | cons x xs ih=>
   have hx:=h x (by simp)
   have e1:sumTo (fun r=>icount (r:Int) (x::xs)) n=sumTo (fun r=>(if x.toNat=r then 1 else 0)+icount (r:Int) xs) n:=by
     refine sumTo_congr (fun r hr=>?_)
     rw [icount_cons]
     by_cases e:x=r
     · rw [if_pos e,if_pos (by omega)]
     · rw [if_neg e,if_neg (by omega)]
   rw [e1,sumTo_add,sumTo_one,ih (fun v hv=>h v (by simp [hv]))]
   unfold below
   by_cases e:x<n
   · rw [if_pos (by omega)]
     simp [e];omega
   · rw [if_neg (by omega)]
     simp [e]
theorem below_all {xs:List Int} {n:Nat} (h:inR xs n=true):below n xs=xs.length:=by
 unfold below
 unfold inR at h
 rw [List.filter_eq_self.2]
 intro a ha
 have:=List.all_eq_true.1 h a ha
 simp at this⊢
 exact this.2
theorem inR_mem {xs:List Int} {n:Nat} (h:inR xs n=true) {v:Int} (hv:v ∈ xs):0≤v∧v<(n:Int):=by
 unfold inR at h
 have:=List.all_eq_true.1 h v hv
 simpa using this
theorem perm_icount {xs:List Int} {n:Nat} (hn:xs.length=n) (h:inR xs n=true) (hd:xs.Nodup): ∀r,r<n→icount (r:Int) xs=1:=by
 refine sumTo_full (fun r _=>icount_nodup hd _) ?_
 rw [sum_icount (fun v hv=>(inR_mem h hv).1) n,below_all h,hn]
theorem icount_out {xs:List Int} {n:Nat} (h:inR xs n=true) (v:Int) (hv: ¬(0≤v∧v<n)):icount v xs=0:=by
 unfold icount
 rw [List.length_eq_zero_iff,List.filter_eq_nil_iff]
 intro a ha hq
 simp at hq
 subst hq
 exact hv (inR_mem h ha)
def cntRow (xs:List Int) (k:Nat):List Int:=gen 256 (fun r=>(icount (r:Int) (xs.take k):Int))
def onceRow (k:Nat):List Int:=gen 256 (fun i=>if i<k then 1 else 0)
theorem gen_set (n:Nat) (f g:Nat→Int) (r:Nat) (v:Int) (hr:r<n) (hv:g r=v) (h: ∀i,i<n→i≠r→g i=f i):(gen n f).set r v=gen n g:=by
 refine gen_ext n g _ (by simp [gen_len]) (fun k hk=>?_)
 rw [getD_set _ _ _ _ (by rw [gen_len];exact hr)]
 by_cases e:r=k
 · subst e;rw [if_pos rfl,hv]
 · rw [if_neg e,gen_get _ _ _ hk,h k hk (by omega)]
theorem gen_congr {n:Nat} {f g:Nat→Int} (h: ∀i,i<n→f i=g i):gen n f=gen n g:=by
 refine gen_ext n g _ (by simp [gen_len]) (fun k hk=>?_)
 rw [gen_get _ _ _ hk,h k hk]
theorem cntRow_zero (xs:List Int):cntRow xs 0=List.replicate 256 0:=by
 unfold cntRow
 refine (gen_ext 256 _ _ List.length_replicate (fun k hk=>?_)).symm
 simp only [List.getD,List.getElem?_replicate,if_pos hk,Option.getD_some,List.take_zero]
 rfl
theorem onceRow_zero:onceRow 0=List.replicate 256 0:=by
 unfold onceRow
 refine (gen_ext 256 _ _ List.length_replicate (fun k hk=>?_)).symm
 simp only [List.getD,List.getElem?_replicate,if_pos hk,Option.getD_some]
 rfl
theorem cntRow_at (xs:List Int) (k r:Nat) (hr:r<256):(cntRow xs k)[r]?.getD 0=(icount (r:Int) (xs.take k):Int):=gen_get 256 _ r hr
theorem cntRow_succ (xs:List Int) (k r:Nat) (hk:k<xs.length) (hr:r<256) (he:xs[k]?.getD 0=(r:Int)):(cntRow xs k).set r ((icount (r:Int) (xs.take k):Int)+1)=cntRow xs (k+1):=by
 refine gen_set 256 _ _ r _ hr ?_ (fun i hi hne=>?_)
 · rw [icount_yes _ _ _ hk he];omega
 · rw [icount_no _ _ _ hk (by rw [he];omega)]
theorem onceRow_succ (k:Nat) (hk:k<256):(onceRow k).set k 1=onceRow (k+1):=by
 refine gen_set 256 _ _ k _ hk ?_ (fun i hi hne=>?_)
 · rw [if_pos (by omega)]
 · by_cases h:i<k
   · rw [if_pos h,if_pos (by omega)]
   · rw [if_neg h,if_neg (by omega)]
theorem rows_eq {xs:List Int} {n:Nat} (hn:xs.length=n) (hm:n≤256) (h:inR xs n=true):decide (cntRow xs n=onceRow n)=permOk xs:=by
 have ht:xs.take n=xs:=List.take_of_length_le (by omega)
 by_cases hd:xs.Nodup
 · rw [permOk_mk hn h hd,decide_eq_true_iff]
   refine gen_congr (fun r hr=>?_)
   rw [ht]
   by_cases hrn:r<n
   · rw [perm_icount hn h hd r hrn,if_pos hrn];rfl
   · rw [icount_out h _ (by omega),if_neg hrn];rfl
 · rw [permOk_noD hd,decide_eq_false_iff_not]
   intro he
   apply hd
   apply nodup_of_icount
   intro v
   by_cases hv:0≤v∧v<(n:Int)
   · obtain ⟨r,rfl⟩: ∃r:Nat,v=r:=⟨v.toNat,by omega⟩
     have e1:=cntRow_at xs n r (by omega)
     rw [he,ht] at e1
     have e2:(onceRow n)[r]?.getD 0=if r<n then 1 else 0:=gen_get 256 _ r (by omega)
     rw [e2,if_pos (by omega)] at e1
     omega
   · rw [icount_out h v hv];omega
structure Mat where
 W:Int
 H:Int
 ranks:List Int
def noMat:Mat:=⟨0,0,[]⟩
def rankOf (W H:Int) (xs:List Int) (x y:Int):Int:=xs.getD (y % H*W+x % W).toNat 0
def quarter (a b:Int):Int:=if a=0 then (if b=0 then 0 else 3) else (if b=0 then 2 else 1)
def dblG (W H:Int) (xs:List Int) (i:Nat):Int:=4*rankOf W H xs ((i:Int) % (2*W)) ((i:Int)/(2*W))+quarter ((i:Int) % (2*W)/W) ((i:Int)/(2*W)/H)
def dblM (m:Mat):Mat:=⟨2*m.W,2*m.H,gen (4*m.ranks.length) (dblG m.W m.H m.ranks)⟩
def bayerM:Nat→Mat
 | 0=>⟨1,1,[0]⟩
 | k+1=>dblM (bayerM k)
def bayerF (k:Int):Mat × Bool:=if 0≤k∧k≤4 then (bayerM k.toNat,true) else (noMat,false)
def rowF (W H:Int):Mat × Bool:=if matSize W H=true then (⟨W,H,gen (W*H).toNat (fun i=>(i:Int))⟩,true) else (noMat,false)
def revF (W H:Int) (xs:List Int):Mat:=if matOk W H xs=true then ⟨W,H,xs.map (fun v=>(xs.length:Int) - 1 - v)⟩ else noMat
def shiftG (W H:Int) (xs:List Int) (dx dy:Int) (i:Nat):Int:=rankOf W H xs ((i:Int) % W - dx) ((i:Int)/W - dy)
def shiftF (W H:Int) (xs:List Int) (dx dy:Int):Mat:=if matOk W H xs=true∧-1000≤dx∧dx≤1000∧-1000≤dy∧dy≤1000 then ⟨W,H,gen xs.length (shiftG W H xs dx dy)⟩ else noMat
theorem mod_bd (a:Int) {n:Int} (h:1≤n):0≤a % n∧a % n<n:=⟨Int.emod_nonneg _ (by omega),Int.emod_lt_of_pos _ (by omega)⟩
theorem rank_idx {W H:Int} {n:Nat} (hn:(n:Int)=W*H) (hW:1≤W) (hH:1≤H) (x y:Int):0≤y % H*W∧0≤y % H*W+x % W∧y % H*W+x % W<(n:Int)∧(y % H*W+x % W).toNat<n:=by
 obtain ⟨x0,x1⟩:=mod_bd x hW
 obtain ⟨y0,y1⟩:=mod_bd y hH
 obtain ⟨r0,r1⟩:=row_bd x0 x1 y0 y1
 omega
theorem rankOf_bd {W H:Int} {xs:List Int} {n m:Nat} (hl:xs.length=n) (hn:(n:Int)=W*H) (hW:1≤W) (hH:1≤H) (h:inR xs m=true) (x y:Int):0≤rankOf W H xs x y∧rankOf W H xs x y<(m:Int):=by
 unfold rankOf
 obtain ⟨_,_,_,h3⟩:=rank_idx hn hW hH x y
 have:=inR_at h (y % H*W+x % W).toNat (by omega)
 simpa [List.getD] using this
theorem rowF_no {W H:Int} (h: ¬matSize W H=true):rowF W H=(noMat,false):=by unfold rowF;rw [if_neg h]
theorem rowF_yes {W H:Int} {n:Nat} (h:matSize W H=true) (hn:(n:Int)=W*H):rowF W H=(⟨W,H,gen n (fun i=>(i:Int))⟩,true):=by
 unfold rowF;rw [if_pos h,←hn];simp
theorem revF_no {W H:Int} {xs:List Int} (h: ¬matOk W H xs=true):revF W H xs=noMat:=by unfold revF;rw [if_neg h]
theorem revF_yes {W H:Int} {xs:List Int} {n:Nat} (hn:xs.length=n) (h:matOk W H xs=true):revF W H xs=⟨W,H,xs.map (fun v=>(n:Int) - 1 - v)⟩:=by unfold revF;rw [if_pos h,hn]
theorem shiftF_no {W H:Int} {xs:List Int} {dx dy:Int} (h: ¬(matOk W H xs=true∧-1000≤dx∧dx≤1000∧-1000≤dy∧dy≤1000)):shiftF W H xs dx dy=noMat:=by unfold shiftF;rw [if_neg h]
theorem shiftF_yes {W H:Int} {xs:List Int} {dx dy:Int} {n:Nat} (hn:xs.length=n) (h:matOk W H xs=true) (h1:-1000≤dx) (h2:dx≤1000) (h3:-1000≤dy) (h4:dy≤1000):shiftF W H xs dx dy=⟨W,H,gen n (shiftG W H xs dx dy)⟩:=by
 unfold shiftF;rw [if_pos ⟨h,h1,h2,h3,h4⟩,hn]
theorem quarter_bd (a b:Int):0≤quarter a b∧quarter a b≤3:=by
 unfold quarter
 split <;>split <;>omega
theorem inR_gen {n m:Nat} {f:Nat→Int} (h: ∀i,i<n→0≤f i∧f i<(m:Int)):inR (gen n f) m=true:=by
 refine inR_of (fun k hk=>?_)
 rw [gen_len] at hk
 have e:(gen n f)[k]?.getD 0=f k:=gen_get n f k hk
 rw [e]
 exact h k hk
def MatOut (w:World) (R:Mat) (e:Ending) (w':World):Prop:=
 ∃a n c,e= .returned (.agg #[.int .i64 R.W, .int .i64 R.H, .slice a n c])∧OwnA w' w.heap.size a n c R.ranks∧n≤1048576∧Go.RowKit.Below w.heap.size w w'
def MatOut2 (w:World) (R:Mat × Bool) (e:Ending) (w':World):Prop:=
 ∃a n c,e= .returned (.tuple #[.agg #[.int .i64 R.1.W, .int .i64 R.1.H, .slice a n c], .bool R.2])∧OwnA w' w.heap.size a n c R.1.ranks∧n≤1048576∧Go.RowKit.Below w.heap.size w w'
end Go.Proofs.YtanccoopbgamdaaGreatDoor
namespace Go.Proofs.YtanccoopbgamdaaGreatDoor
open Go.RowKit
set_option linter.unusedVariables false
set_option linter.unusedSimpArgs false
def RdU (B:Nat) (w:World) (ad:Option Addr) (xs:List Int):Prop:=
 ∀k,k<xs.length→(0≤xs.getD k 0∧xs.getD k 0≤255)∧ ∃b off,ad=some ⟨b,off,none⟩∧b<B∧b<w.heap.size∧w.cell? ⟨b,off+k,none⟩=some (.int .u8 (xs.getD k 0))
theorem RdU.same {B:Nat} {w w':World} {ad:Option Addr} {xs:List Int} (h:RdU B w ad xs) (hb: ∀b,b<B→b<w.heap.size→w'.heap[b]? =w.heap[b]?) (hs:w.heap.size≤w'.heap.size):RdU B w' ad xs:=by
 intro k hk
 obtain ⟨h0,b,off,h1,h2,h3,h4⟩:=h k hk
 exact ⟨h0,b,off,h1,h2,by omega,(World.cell?_of_block (hb b h2 h3)).trans h4⟩
theorem RdU.mono {B B':Nat} {w:World} {ad:Option Addr} {xs:List Int} (h:RdU B w ad xs) (hB:B≤B'):RdU B' w ad xs:=by
 intro k hk
 obtain ⟨h0,b,off,h1,h2,h3,h4⟩:=h k hk
 exact ⟨h0,b,off,h1,by omega,h3,h4⟩
theorem RdU.below {B:Nat} {w w':World} {ad:Option Addr} {xs:List Int} (h:RdU B w ad xs) (hb:Below B w w'):RdU B w' ad xs:=
 h.same (fun b h1 _=>hb.block b h1) hb.size
def Cur (w:World) (c:Nat) (ac:Option Addr) (nc capc:Nat) (bs:List Int):Prop:=
 ∃(i:Nat) (h:Int),i≤nc∧nc≤4611686018427387904∧bs.length=nc∧Blk w c 85 #[.slice ac nc capc, .int .i64 i, .int .i64 h]∧RdU c w ac bs
namespace Cur
variable {w w' : World} {c nc capc : Nat} {ac : Option Addr} {bs : List Int}
theorem lt (h:Cur w c ac nc capc bs):c<w.heap.size:=by
 obtain ⟨i,h,_,_,_,hb,_⟩:=h
 exact hb.lt
theorem same (h:Cur w c ac nc capc bs) (hb: ∀b,b≤c→w'.heap[b]? =w.heap[b]?) (hs:w.heap.size≤w'.heap.size):Cur w' c ac nc capc bs:=by
 obtain ⟨i,x,h1,h2,h3,h4,h5⟩:=h
 exact ⟨i,x,h1,h2,h3,h4.of_block (hb c (Nat.le_refl _)),h5.same (fun b h6 _=>hb b (by omega)) hs⟩
theorem below' (h:Cur w c ac nc capc bs) (hb:Below w.heap.size w w'):Cur w' c ac nc capc bs:=h.same (fun b h1=>hb.block b (by have:=h.lt;omega)) hb.size
theorem alloc (h:Cur w c ac nc capc bs) (o:Obj):Cur (w.alloc o) c ac nc capc bs:=h.below' (Joins.below_alloc1 w o)
theorem drewN (h:Cur w c ac nc capc bs) (m:Nat):Cur (w.drewN m) c ac nc capc bs:=h.same (fun _ _=>rfl) (Nat.le_refl _)
theorem drew (h:Cur w c ac nc capc bs):Cur w.drew c ac nc capc bs:=h.drewN 1
theorem grown {row:Option Nat} (h:Cur w c ac nc capc bs) (hb:w.grownBy w' row) (hr: ∀k,row=some k→c<k):Cur w' c ac nc capc bs:=
 h.same (fun b h1=>hb.block b (by have:=h.lt;omega) (fun e=>by have:=hr b e.symm;omega)) hb.size
theorem other (h:Cur w c ac nc capc bs) {a:Addr} (ha:c<a.block) (u:Value):Cur (w.setCell a u) c ac nc capc bs:=
 h.same (fun b h1=>Below.heap_setCell w a u b (by omega)) (by simp [World.setCell])
end Cur
theorem i64_and255 (n:Int):bits .and .i64 n 255=n % 256:=by
 have h1:(BitVec.ofInt 64 255).toNat=2^8 - 1:=by decide
 have key:(BitVec.ofInt 64 n &&& BitVec.ofInt 64 255).toNat=(n % ((2^64:Nat):Int)).toNat % 2^8:=by
   rw [BitVec.toNat_and,BitVec.toNat_ofInt,h1,Nat.and_two_pow_sub_one_eq_mod]
 show IntKind.i64.wrap ((BitVec.ofInt 64 n &&& BitVec.ofInt 64 255).toNat:Nat)=n % 256
 rw [key,IntKind.wrap_i64]
 omega
theorem and255_bd (n:Int):0≤bits .and .i64 n 255∧bits .and .i64 n 255≤255:=by rw [i64_and255];omega
set_option maxHeartbeats 1600000 in
theorem spec_l01Byte (c:Nat) (ac:Option Addr) (nc capc:Nat) (bs:List Int) (w:World) (hc:Cur w c ac nc capc bs):
   Calls Tryz.prog 73 #[.pointer (some ⟨c,0,none⟩)] w fun e w'=> ∃v:Int,e= .returned (.int .i64 v)∧0≤v∧v≤255∧Cur w' c ac nc capc bs∧w.grownBy w' (some c):=by
 obtain ⟨i,h,hi,hn,hl,hb,hr⟩:=hc
 have KB:=Lib.hid hb
 have HR:=Lib.hid hr
 have HL:=Lib.hid hl
 obtain ⟨l0,o0,o1,o2⟩:=hb.c3
 obtain ⟨f0,f1,f2⟩:=hb.f3
 clear hb hr hl
 by_cases hlt:i<nc
 · obtain ⟨⟨u0,u1⟩,bb,bo,rfl,bl,bl2,hcell⟩:=HR.out i (by have:=HL.out;omega)
   have nb:c≠bb:=by omega
   have hlt2:(i:Int)<nc:=by omega
   go_enter Tryz.func73,Tryz.ntmps73
   go_wp2_with fail
   go_quiet (fail)
   go_wp2_with fail
   go_quiet (fail)
   go_wp2_with fail
   go_quiet (fail)
   go_wp2_with fail
   go_ret
   exact ⟨_,rfl,(and255_bd _).1,(and255_bd _).2,⟨i+1,_,by omega,hn,HL.out,by exact ((KB.out.set 2 _).set 1 _),HR.out.same (fun b h1 _=>by exact (Below.heap_setCell (w.setCell _ _) ⟨c,1,none⟩ _ b (by simp;omega)).trans (Below.heap_setCell w ⟨c,2,none⟩ _ b (by simp;omega))) (by simp [World.setCell])⟩,by exact grown_set (grown_drewN (grown_set (grown_refl w (some c)) _) _) _⟩
 · have hlt2: ¬(i:Int)<nc:=by omega
   go_enter Tryz.func73,Tryz.ntmps73
   go_wp2_with fail
   go_quiet (fail)
   go_wp2_with fail
   go_quiet (fail)
   go_wp2_with fail
   go_ret
   exact ⟨_,rfl,(and255_bd _).1,(and255_bd _).2,⟨i,_,by omega,hn,HL.out,by exact (KB.out.set 2 _),HR.out.same (fun b h1 _=>by exact (Below.heap_setCell w ⟨c,2,none⟩ _ b (by simp;omega))) (by simp [World.setCell])⟩,by exact grown_drewN (grown_drewN (grown_set (grown_refl w (some c)) _) _) _⟩
set_option maxHeartbeats 400000 in
theorem spec_l01Below (c:Nat) (ac:Option Addr) (nc capc:Nat) (bs:List Int) (n:Int) (w:World) (hc:Cur w c ac nc capc bs) (h1:1≤n) (h2:n≤256):
   Calls Tryz.prog 54 #[.pointer (some ⟨c,0,none⟩), .int .i64 n] w fun e w'=> ∃v:Int,e= .returned (.int .i64 v)∧0≤v∧v<n∧Cur w' c ac nc capc bs∧w.grownBy w' (some c):=by
 go_enter Tryz.func54,Tryz.ntmps54
 go_wp2_with fail
 refine (spec_l01Byte c ac nc capc bs _ hc).mono ?_
 rintro e w1 ⟨v,rfl,v0,v1,hc1,hg1⟩
 go_wp2_with fail
 go_ret
 exact ⟨_,rfl,Int.emod_nonneg _ (by omega),Int.emod_lt_of_pos _ (by omega),hc1,hg1⟩
set_option maxHeartbeats 400000 in
theorem spec_l01Once (c:Nat) (ac:Option Addr) (nc capc:Nat) (bs:List Int) (n:Int) (w:World) (hc:Cur w c ac nc capc bs) (h1:1≤n) (h2:n≤256):
   Calls Tryz.prog 55 #[.pointer (some ⟨c,0,none⟩), .int .i64 n] w fun e w'=> ∃v:Bool,e= .returned (.bool v)∧Cur w' c ac nc capc bs∧w.grownBy w' (some c):=by
 go_enter Tryz.func55,Tryz.ntmps55
 go_wp2_with fail
 refine (spec_l01Below c ac nc capc bs n _ hc h1 h2).mono ?_
 rintro e w1 ⟨v,rfl,v0,v1,hc1,hg1⟩
 go_wp2_with fail
 go_ret
 exact ⟨_,rfl,hc1,hg1⟩
set_option maxHeartbeats 400000 in
theorem spec_l01Int (c:Nat) (ac:Option Addr) (nc capc:Nat) (bs:List Int) (al:Option Addr) (n cl:Nat) (xs:List Int) (w:World) (hc:Cur w c ac nc capc bs) (hl:xs.length=n) (ha:Rd w al xs) (hb: ∀b off,al=some ⟨b,off,none⟩→c≠b) (h1:1≤n) (h2:n≤256):
   Calls Tryz.prog 56 #[.pointer (some ⟨c,0,none⟩), .slice al n cl] w fun e w'=> ∃v:Int,e= .returned (.int .i64 v)∧v ∈ xs∧Cur w' c ac nc capc bs∧w.grownBy w' (some c):=by
 obtain ⟨b,off,rfl,hal,hac⟩:=ha.at (by omega)
 have hne:=hb b off rfl
 have HAC:=Lib.hid hac
 have HL:=Lib.hid hl
 clear ha hac hb hl
 go_enter Tryz.func56,Tryz.ntmps56
 go_wp2_with fail
 refine (spec_l01Below c ac nc capc bs n _ hc (by omega) (by omega)).mono ?_
 rintro e w1 ⟨v,rfl,v0,v1,hc1,hg1⟩
 obtain ⟨r,rfl⟩: ∃r:Nat,v=r:=⟨v.toNat,by omega⟩
 have hr:r<xs.length:=by have:=HL.out;omega
 have hcell:w1.cell? ⟨b,off+r,none⟩=some (.int .i64 (xs.getD r 0)):=(World.cell?_of_block (hg1.block b hal (fun e=>hne (Option.some.inj e).symm))).trans (HAC.out r hr)
 go_wp2_with fail
 go_ret
 exact ⟨_,rfl,by first | exact List.getElem_mem hr | (rw [List.getElem?_eq_getElem hr];exact List.getElem_mem hr),hc1,hg1⟩
set_option maxRecDepth 100000 in
set_option maxHeartbeats 1600000 in
theorem spec_l01New (ac:Option Addr) (nc capc:Nat) (bs:List Int) (w:World) (hl:bs.length=nc) (hr:RdU w.heap.size w ac bs) (hn:nc≤4611686018427387904):
   Calls Tryz.prog 33 #[.slice ac nc capc] w fun e w'=> ∃c:Nat,e= .returned (.pointer (some ⟨c,0,none⟩))∧w.heap.size≤c∧Cur w' c ac nc capc bs∧Below w.heap.size w w':=by
 have HL:=Lib.hid hl
 have HR:=Lib.hid hr
 clear hl hr
 go_enter Tryz.func33,Tryz.ntmps33
 go_wp2_with fail
 go_loop [3,4] (fun h i=> ∃(k:Nat) (x:Int),k≤nc∧i= .int .i64 k∧h= .int .i64 x) (fun _ i=>nc - (intOf i).toNat)
 case atStart=>exact ⟨0,_,Nat.zero_le _,rfl,rfl⟩
 case round=>
   obtain ⟨k,x,hk,rfl,rfl⟩:=hrel
   by_cases hlt:k<nc∧k<4000
   · obtain ⟨hlt,hlt4⟩:=hlt
     obtain ⟨⟨u0,u1⟩,bb,bo,hae,bl,bl2,hcell⟩:=HR.out k (by have:=HL.out;omega)
     subst hae
     obtain ⟨v,hv⟩: ∃v,bs.getD k 0=v:=⟨_,rfl⟩
     rw [hv] at hcell
     clear u0 u1 hv
     go_wp2_with fail
     go_round
     case rel=>exact ⟨k+1,_,by omega,by go_num,rfl⟩
     case measure=>simp [intOf];omega
   · go_wp2_with fail
     all_goals first
       | (exfalso;exact hlt ⟨by omega,by omega⟩)
       | (go_ret
          exact ⟨w.heap.size,rfl,Nat.le_refl _,⟨0,_,Nat.zero_le _,hn,HL.out,Blk.new _ _ _,(HR.out.below (Joins.below_alloc1 _ _))⟩,Joins.below_alloc1 _ _⟩)
set_option maxHeartbeats 400000 in
theorem impl_isMatrixSize (W H:Int) (w:World):
   Calls Tryz.prog 46 #[.int .i64 W, .int .i64 H] w fun e w'=>e= .returned (.bool (matSize W H))∧w=w':=by
 by_cases c:1≤W∧W≤256∧1≤H∧H≤256
 · obtain ⟨h1,h2,h3,h4⟩:=c
   rw [matSize_in h1 h2 h3 h4]
   obtain ⟨m1,m2⟩:=mul_bdM W H h1 h2 h3 h4
   go_enter Tryz.func46,Tryz.ntmps46
   go_wp2
   all_goals (go_ret;exact ⟨rfl,rfl⟩)
 · rw [matSize_out c]
   go_enter Tryz.func46,Tryz.ntmps46
   go_wp2
   all_goals (go_ret;first | exact ⟨rfl,rfl⟩ | (exfalso;exact c ⟨by omega,by omega,by omega,by omega⟩))
set_option maxHeartbeats 400000 in
theorem spec_l2Shape (W H:Int) (w:World):
   Calls Tryz.prog 59 #[.int .i64 W, .int .i64 H] w fun e w'=>e= .returned (.bool (matSize W H))∧w=w':=by
 by_cases c:1≤W∧W≤256∧1≤H∧H≤256
 · obtain ⟨h1,h2,h3,h4⟩:=c
   rw [matSize_in h1 h2 h3 h4]
   obtain ⟨m1,m2⟩:=mul_bdM W H h1 h2 h3 h4
   go_enter Tryz.func59,Tryz.ntmps59
   go_wp2
   all_goals (go_ret;exact ⟨rfl,rfl⟩)
 · rw [matSize_out c]
   go_enter Tryz.func59,Tryz.ntmps59
   go_wp2
   all_goals (go_ret;first | exact ⟨rfl,rfl⟩ | (exfalso;exact c ⟨by omega,by omega,by omega,by omega⟩))
theorem impl_isMatrixSize_yes (W H:Int) (w:World) (h:matSize W H=true):
   Calls Tryz.prog 46 #[.int .i64 W, .int .i64 H] w fun e w'=>e= .returned (.bool true)∧w=w':=
 (impl_isMatrixSize W H w).mono fun e w' ⟨he,hw⟩=>⟨by rw [he,h],hw⟩
theorem impl_isMatrixSize_no (W H:Int) (w:World) (h: ¬matSize W H=true):
   Calls Tryz.prog 46 #[.int .i64 W, .int .i64 H] w fun e w'=>e= .returned (.bool false)∧w=w':=
 (impl_isMatrixSize W H w).mono fun e w' ⟨he,hw⟩=>⟨by rw [he];exact ret_bool (by simpa using h),hw⟩
theorem spec_l2Shape_yes (W H:Int) (w:World) (h:matSize W H=true):
   Calls Tryz.prog 59 #[.int .i64 W, .int .i64 H] w fun e w'=>e= .returned (.bool true)∧w=w':=
 (spec_l2Shape W H w).mono fun e w' ⟨he,hw⟩=>⟨by rw [he,h],hw⟩
theorem spec_l2Shape_no (W H:Int) (w:World) (h: ¬matSize W H=true):
   Calls Tryz.prog 59 #[.int .i64 W, .int .i64 H] w fun e w'=>e= .returned (.bool false)∧w=w':=
 (spec_l2Shape W H w).mono fun e w' ⟨he,hw⟩=>⟨by rw [he];exact ret_bool (by simpa using h),hw⟩
theorem tmod_neg {a n:Int} (h:a<0) (hn:1≤n):-n<a.tmod n∧a.tmod n≤0∧(a.tmod n<0→a.tmod n+n=a % n)∧(¬a.tmod n<0→a.tmod n=a % n):=by
 obtain ⟨b,rfl⟩: ∃b:Int,a=-b:=⟨-a,by omega⟩
 have e0:(-b).tmod n=-(b % n):=by rw [Int.neg_tmod,Int.tmod_eq_emod_of_nonneg (by omega)]
 have e1:0≤b % n:=Int.emod_nonneg _ (by omega)
 have e2:b % n<n:=Int.emod_lt_of_pos _ (by omega)
 rw [e0]
 refine ⟨by omega,by omega,fun h1=>?_,fun h1=>?_⟩
 · have e3:-b=(n - b % n)+n*(-(b/n) - 1):=by
     have:=Int.mul_ediv_add_emod b n
     rw [Int.mul_sub,Int.mul_neg]
     omega
   have e4:(-b) % n=n - b % n:=by
     rw [e3,Int.add_mul_emod_self_left,Int.emod_eq_of_lt (by omega) (by omega)]
   rw [e4];omega
 · have e5:b % n=0:=by omega
   have e6:(-b) % n=0:=Int.emod_eq_zero_of_dvd (Int.dvd_neg.2 (Int.dvd_of_emod_eq_zero e5))
   omega
set_option maxHeartbeats 400000 in
theorem impl_remainder (a n:Int) (w:World) (h:1≤n) (h2:n≤9223372036854775807):
   Calls Tryz.prog 68 #[.int .i64 a, .int .i64 n] w fun e w'=>e= .returned (.int .i64 (a % n))∧w=w':=by
 by_cases ha:0≤a
 · have e1:0≤a % n:=Int.emod_nonneg _ (by omega)
   have e2:a % n<n:=Int.emod_lt_of_pos _ (by omega)
   go_enter Tryz.func68,Tryz.ntmps68
   go_wp2
   go_ret
   exact ⟨rfl,rfl⟩
 · obtain ⟨t1,t2,t3,t4⟩:=tmod_neg (a:=a) (n:=n) (by omega) h
   have H3:=Lib.hid t3
   have H4:=Lib.hid t4
   clear t3 t4
   by_cases hr:a.tmod n<0
   · go_enter Tryz.func68,Tryz.ntmps68
     go_wp2
     go_ret
     exact ⟨ret_int (H3.out hr),rfl⟩
   · go_enter Tryz.func68,Tryz.ntmps68
     go_wp2
     go_ret
     exact ⟨ret_int (H4.out hr),rfl⟩
set_option maxHeartbeats 400000 in
theorem spec_l2Mod (a n:Int) (w:World) (h:1≤n) (h2:n≤9223372036854775807):
   Calls Tryz.prog 165 #[.int .i64 a, .int .i64 n] w fun e w'=>e= .returned (.int .i64 (a % n))∧w=w':=by
 by_cases ha:0≤a
 · have e1:0≤a % n:=Int.emod_nonneg _ (by omega)
   have e2:a % n<n:=Int.emod_lt_of_pos _ (by omega)
   go_enter Tryz.func165,Tryz.ntmps165
   go_wp2
   go_ret
   exact ⟨rfl,rfl⟩
 · obtain ⟨t1,t2,t3,t4⟩:=tmod_neg (a:=a) (n:=n) (by omega) h
   have H3:=Lib.hid t3
   have H4:=Lib.hid t4
   clear t3 t4
   by_cases hr:a.tmod n<0
   · go_enter Tryz.func165,Tryz.ntmps165
     go_wp2
     go_ret
     exact ⟨ret_int (H3.out hr),rfl⟩
   · go_enter Tryz.func165,Tryz.ntmps165
     go_wp2
     go_ret
     exact ⟨ret_int (H4.out hr),rfl⟩
end Go.Proofs.YtanccoopbgamdaaGreatDoor
