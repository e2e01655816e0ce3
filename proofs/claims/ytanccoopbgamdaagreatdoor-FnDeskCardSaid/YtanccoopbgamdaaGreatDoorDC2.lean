/-
  Contracts and plain facts on which the theorem of this claim rests, text 2.
-/
import Derived.Test.YtanccoopbgamdaaGreatDoorRows
import Derived.Test.YtanccoopbgamdaaGreatDoorDC1
namespace Go.Proofs.YtanccoopbgamdaaGreatDoor
set_option linter.unusedVariables false
set_option linter.unusedSimpArgs false
theorem join_dm {q r m:Int} (h0:0≤r) (h1:r<m):(q*m+r)/m=q∧(q*m+r) % m=r:=by
 constructor
 · rw [Int.add_comm,Int.add_mul_ediv_right _ _ (by omega),Int.ediv_eq_zero_of_lt h0 h1];omega
 · rw [Int.add_comm,Int.add_mul_emod_self_right,Int.emod_eq_of_lt h0 h1]
theorem split_dm {i W H:Int} (hW:1≤W) (h0:0≤i) (h1:i<W*H): ∃x y,0≤x∧x<W∧0≤y∧y<H∧i=y*W+x∧i % W=x∧i/W=y:=by
 refine ⟨i % W,i/W,Int.emod_nonneg _ (by omega),Int.emod_lt_of_pos _ (by omega),Int.ediv_nonneg h0 (by omega),?_,?_,rfl,rfl⟩
 · exact Int.ediv_lt_of_lt_mul (by omega) (by rw [Int.mul_comm];exact h1)
 · have:=Int.mul_ediv_add_emod i W
   rw [Int.mul_comm] at this
   omega
theorem row_bd {x y W H:Int} (h0:0≤x) (h1:x<W) (h2:0≤y) (h3:y<H):0≤y*W∧y*W+x<W*H:=by
 have e1:0≤y*W:=Int.mul_nonneg h2 (by omega)
 have e2:(y+1)*W≤H*W:=Int.mul_le_mul_of_nonneg_right (by omega) (by omega)
 rw [Int.add_mul,Int.one_mul,Int.mul_comm H W] at e2
 omega
def mirT (W i:Int):Int:=i/W*W+W - 1 - i % W
theorem getD_set (ys:List Int) (a b:Nat) (v:Int) (ha:a<ys.length):(ys.set a v).getD b 0=if a=b then v else ys.getD b 0:=by
 simp only [List.getD,List.getElem?_set]
 by_cases h:a=b
 · subst h;simp [ha]
 · simp [h]
theorem map_get (xs:List Int) (f:Int→Int) (k:Nat) (h:k<xs.length):(xs.map f).getD k 0=f (xs[k]?.getD 0):=by
 simp [List.getD,h]
structure Prt where
 dx:Int
 dy:Int
 wt:Int
def noPrt:Prt:=⟨0,0,0⟩
def Prt.nums (p:Prt):List Int:=[p.dx,p.dy,p.wt]
def flat (ks:List Prt):List Int:=ks.flatMap Prt.nums
def prt (ks:List Prt) (k:Nat):Prt:=ks.getD k noPrt
theorem flat_len (ks:List Prt):(flat ks).length=3*ks.length:=by
 induction ks with
 | nil=>rfl
 | cons p ks ih=>simp only [flat,List.flatMap_cons,List.length_append,List.length_cons] at ih⊢;rw [ih];simp [Prt.nums];omega
theorem flat_cons (p:Prt) (ks:List Prt):flat (p::ks)=p.dx::p.dy::p.wt::flat ks:=rfl
theorem prt_cons (p:Prt) (ks:List Prt) (k:Nat):prt (p::ks) (k+1)=prt ks k:=by simp [prt]
theorem flat_at (ks:List Prt) (k:Nat) (h:k<ks.length):(flat ks).getD (3*k) 0=(prt ks k).dx∧(flat ks).getD (3*k+1) 0=(prt ks k).dy∧(flat ks).getD (3*k+2) 0=(prt ks k).wt:=by
 induction ks generalizing k with
 | nil=>simp at h
 | cons p ks ih=>
   cases k with
   | zero=>exact ⟨rfl,rfl,rfl⟩
   | succ k=>
     have:=ih k (by simpa using h)
     rw [flat_cons,prt_cons,show 3*(k+1)=3*k+1+1+1 by omega]
     simpa [List.getD] using this
theorem take_prt (ks:List Prt) (k:Nat) (h:k<ks.length):ks.take (k+1)=ks.take k++ [prt ks k]:=by
 rw [List.take_succ_eq_append_getElem h]
 simp [prt,h]
def partOk (p:Prt):Bool:=decide (-4≤p.dx∧p.dx≤4∧0≤p.dy∧p.dy≤4∧(p.dy=0→1≤p.dx)∧1≤p.wt∧p.wt≤100)
def placed (L:List Prt) (x y:Int):Bool:=L.any (fun q=>decide (q.dx=x∧q.dy=y))
def kernTo (ks:List Prt) (k:Nat):Bool:=(List.range k).all (fun i=>partOk (prt ks i) && !placed (ks.take i) (prt ks i).dx (prt ks i).dy)
def kernOk (ks:List Prt):Bool:=decide (1≤ks.length∧ks.length≤12) && kernTo ks ks.length
theorem placed_nil (x y:Int):placed [] x y=false:=rfl
theorem placed_take (ks:List Prt) (k:Nat) (x y:Int) (h:k<ks.length):placed (ks.take (k+1)) x y=(placed (ks.take k) x y || decide ((prt ks k).dx=x∧(prt ks k).dy=y)):=by
 unfold placed
 rw [take_prt ks k h,List.any_append]
 simp
theorem placed_le {ks:List Prt} {k m:Nat} {x y:Int} (h:placed (ks.take k) x y=true) (hk:k≤m):placed (ks.take m) x y=true:=by
 unfold placed at*
 rw [List.any_eq_true] at*
 obtain ⟨q,hq,h2⟩:=h
 refine ⟨q,?_,h2⟩
 have e:ks.take k=(ks.take m).take k:=by rw [List.take_take];congr 1;omega
 rw [e] at hq
 exact List.mem_of_mem_take hq
theorem kernTo_succ (ks:List Prt) (k:Nat):kernTo ks (k+1)=(kernTo ks k && (partOk (prt ks k) && !placed (ks.take k) (prt ks k).dx (prt ks k).dy)):=by
 unfold kernTo
 rw [List.range_succ,List.all_append]
 simp
theorem kernTo_le {ks:List Prt} {k m:Nat} (h:kernTo ks m=true) (hk:k≤m):kernTo ks k=true:=by
 unfold kernTo at*
 rw [List.all_eq_true] at*
 intro i hi
 exact h i (by simp at hi⊢;omega)
theorem kernTo_no {ks:List Prt} {k m:Nat} (hk:k<m) (h:(partOk (prt ks k) && !placed (ks.take k) (prt ks k).dx (prt ks k).dy)=false):kernTo ks m=false:=by
 by_cases c:kernTo ks m=true
 · have:=kernTo_le c (show k+1≤m by omega)
   rw [kernTo_succ,h] at this
   simp at this
 · simpa using c
theorem kernOk_no1 {ks:List Prt} {n:Nat} (hn:ks.length=n) (h: ¬(1≤n∧n≤12)):kernOk ks=false:=by unfold kernOk;rw [hn,decide_eq_false h];rfl
theorem kernOk_no2 {ks:List Prt} {n k:Nat} (hn:ks.length=n) (hk:k<n) (h:(partOk (prt ks k) && !placed (ks.take k) (prt ks k).dx (prt ks k).dy)=false):kernOk ks=false:=by
 unfold kernOk;rw [hn,kernTo_no hk h];simp
theorem kernOk_yes {ks:List Prt} {n:Nat} (hn:ks.length=n) (h1:1≤n) (h2:n≤12) (h:kernTo ks n=true):kernOk ks=true:=by
 unfold kernOk;rw [hn,h,decide_eq_true ⟨h1,h2⟩];rfl
theorem kernOk_bd {ks:List Prt} {n:Nat} (hn:ks.length=n) (h:kernOk ks=true):1≤n∧n≤12∧kernTo ks n=true:=by
 unfold kernOk at h
 rw [hn] at h
 simp only [Bool.and_eq_true,decide_eq_true_eq] at h
 exact ⟨h.1.1,h.1.2,h.2⟩
theorem partOk_bd {p:Prt} (h:partOk p=true):-4≤p.dx∧p.dx≤4∧0≤p.dy∧p.dy≤4∧(p.dy=0→1≤p.dx)∧1≤p.wt∧p.wt≤100:=of_decide_eq_true h
theorem kern_part {ks:List Prt} {n k:Nat} (h:kernTo ks n=true) (hk:k<n):partOk (prt ks k)=true∧placed (ks.take k) (prt ks k).dx (prt ks k).dy=false:=by
 have:=kernTo_le h (show k+1≤n by omega)
 rw [kernTo_succ] at this
 simp only [Bool.and_eq_true,Bool.not_eq_true'] at this
 exact this.2
def wtTo (ks:List Prt):Nat→Int
 | 0=>0
 | k+1=>wtTo ks k+(prt ks k).wt
def weightF (ks:List Prt):Int:=if kernOk ks=true then wtTo ks ks.length else 0
theorem weightF_no {ks:List Prt} (h: ¬kernOk ks=true):weightF ks=0:=by unfold weightF;rw [if_neg h]
theorem weightF_yes {ks:List Prt} {n:Nat} (hn:ks.length=n) (h:kernOk ks=true):weightF ks=wtTo ks n:=by unfold weightF;rw [if_pos h,hn]
theorem wtTo_bd {ks:List Prt} {n:Nat} (h:kernTo ks n=true) (k:Nat) (hk:k≤n):(k:Int)≤wtTo ks k∧wtTo ks k≤100*k:=by
 induction k with
 | zero=>simp [wtTo]
 | succ k ih=>
   have h1:=ih (by omega)
   have h2:=partOk_bd (kern_part h (show k<n by omega)).1
   simp only [wtTo]
   omega
def shareB (ks:List Prt) (W e:Int) (k:Nat):Int:=e*(prt ks k).wt/W
def shSum (ks:List Prt) (W e:Int):Nat→Int
 | 0=>0
 | k+1=>shSum ks W e k+shareB ks W e k
def sharesG (ks:List Prt) (W e:Int):List Int:=(gen ks.length (shareB ks W e)).set 0 (shareB ks W e 0+(e - shSum ks W e ks.length))
theorem sharesG_len (ks:List Prt) (W e:Int):(sharesG ks W e).length=ks.length:=by simp [sharesG,gen_len]
theorem sharesG_at (ks:List Prt) (W e:Int) (k:Nat) (hk:k<ks.length):(sharesG ks W e).getD k 0=shareB ks W e k+(if k=0 then e - shSum ks W e ks.length else 0):=by
 unfold sharesG
 rw [getD_set _ _ _ _ (by rw [gen_len];omega)]
 by_cases h:k=0
 · subst h;simp
 · rw [if_neg (by omega),if_neg h,gen_get _ _ _ hk];omega
theorem shareB_bd {ks:List Prt} {n:Nat} {e:Int} (h:kernTo ks n=true) (k:Nat) (hk:k<n) (hn:1≤n):
   shareB ks (wtTo ks n) e k*wtTo ks n≤e*(prt ks k).wt∧e*(prt ks k).wt<shareB ks (wtTo ks n) e k*wtTo ks n+wtTo ks n:=by
 have h1:=(wtTo_bd h n (Nat.le_refl _)).1
 unfold shareB
 have a:=Int.emod_add_mul_ediv (e*(prt ks k).wt) (wtTo ks n)
 have b:=Int.emod_nonneg (e*(prt ks k).wt) (show wtTo ks n≠0 by omega)
 have c:=Int.emod_lt_of_pos (e*(prt ks k).wt) (show 0<wtTo ks n by omega)
 rw [Int.mul_comm (e*(prt ks k).wt/wtTo ks n)]
 omega
theorem mul_abs {e b c:Int} (h1:1≤b) (h2:b≤100) (hc:0≤c) (he1:-c≤e) (he2:e≤c):-(c*100)≤e*b∧e*b≤c*100:=by
 have m1:=Int.mul_le_mul_of_nonneg_left h2 hc
 have m2:=Int.mul_le_mul_of_nonneg_right he2 (show 0≤b by omega)
 have m3:=Int.mul_le_mul_of_nonneg_right he1 (show 0≤b by omega)
 rw [Int.neg_mul] at m3
 omega
theorem shareB_wide {ks:List Prt} {n:Nat} {e:Int} (h:kernTo ks n=true) (k:Nat) (hk:k<n) (he1:-1000000≤e) (he2:e≤1000000):
   -100000000≤e*(prt ks k).wt∧e*(prt ks k).wt≤100000000∧-100000000≤shareB ks (wtTo ks n) e k∧shareB ks (wtTo ks n) e k≤100000000:=by
 have h1:=(wtTo_bd h n (Nat.le_refl _)).1
 have h2:=partOk_bd (kern_part h hk).1
 obtain ⟨m1,m2⟩:=mul_abs (e:=e) (c:=1000000) h2.2.2.2.2.2.1 h2.2.2.2.2.2.2 (by omega) he1 he2
 refine ⟨by omega,by omega,?_,?_⟩
 · unfold shareB
   exact Int.le_ediv_of_mul_le (by omega) (by
     have:=Int.mul_le_mul_of_nonneg_left (show (1:Int)≤wtTo ks n by omega) (show (0:Int)≤100000000 by omega)
     rw [Int.neg_mul];omega)
 · unfold shareB
   exact Int.ediv_le_of_le_mul (by omega) (by
     have:=Int.mul_le_mul_of_nonneg_left (show (1:Int)≤wtTo ks n by omega) (show (0:Int)≤100000000 by omega)
     omega)
theorem shSum_wide {ks:List Prt} {n:Nat} {e:Int} (h:kernTo ks n=true) (he1:-1000000≤e) (he2:e≤1000000) (k:Nat) (hk:k≤n):-(100000000*(k:Int))≤shSum ks (wtTo ks n) e k∧shSum ks (wtTo ks n) e k≤100000000*k:=by
 induction k with
 | zero=>simp [shSum]
 | succ k ih=>
   have h1:=ih (by omega)
   have h2:=shareB_wide h k (by omega) he1 he2
   simp only [shSum]
   omega
theorem shSum_mul {ks:List Prt} {n:Nat} {e:Int} (h:kernTo ks n=true) (k:Nat) (hk:k≤n):shSum ks (wtTo ks n) e k*wtTo ks n≤e*wtTo ks k∧e*wtTo ks k≤shSum ks (wtTo ks n) e k*wtTo ks n+(k:Int)*(wtTo ks n - 1):=by
 induction k with
 | zero=>simp [shSum,wtTo]
 | succ k ih=>
   obtain ⟨a,b⟩:=ih (by omega)
   obtain ⟨c,d⟩:=shareB_bd (e:=e) h k (by omega) (by omega)
   simp only [shSum,wtTo]
   rw [Int.add_mul,Int.mul_add]
   have e1:((k+1:Nat):Int)*(wtTo ks n - 1)=(k:Int)*(wtTo ks n - 1)+(wtTo ks n - 1):=by
     rw [Int.natCast_add,Int.add_mul];simp
   rw [e1]
   omega
theorem shSum_near {ks:List Prt} {n:Nat} {e:Int} (h:kernTo ks n=true) (hn:1≤n):shSum ks (wtTo ks n) e n≤e∧e≤shSum ks (wtTo ks n) e n+n - 1:=by
 obtain ⟨a,b⟩:=shSum_mul (e:=e) h n (Nat.le_refl _)
 have h1:=(wtTo_bd h n (Nat.le_refl _)).1
 have hW:0<wtTo ks n:=by omega
 refine ⟨Int.le_of_mul_le_mul_right a hW,?_⟩
 have c:e*wtTo ks n<(shSum ks (wtTo ks n) e n+n)*wtTo ks n:=by
   rw [Int.add_mul]
   rw [Int.mul_sub] at b
   omega
 have:=Int.lt_of_mul_lt_mul_right c (by omega)
 omega
end Go.Proofs.YtanccoopbgamdaaGreatDoor
namespace Go.Proofs.YtanccoopbgamdaaGreatDoor
open Go.RowKit
set_option linter.unusedVariables false
set_option linter.unusedSimpArgs false
def RowT (w:World) (T sz g n cap:Nat) (xs:List Int):Prop:=
 xs.length=n*sz∧ ∃cur,w.heap[g]? =some (.cells cur T (0,0))∧n≤cap∧cap≤maxLen∧cur.size=cap*sz∧cur.toList.take (n*sz)=xs.map (Value.int .i64)
namespace RowT
variable {w w' : World} {T sz g n cap : Nat} {xs : List Int}
theorem len (h:RowT w T sz g n cap xs):xs.length=n*sz:=h.1
theorem lt (h:RowT w T sz g n cap xs):g<w.heap.size:=by
 obtain ⟨_,cur,hg,_⟩:=h
 exact (Array.getElem?_eq_some_iff.1 hg).1
theorem cell (h:RowT w T sz g n cap xs) {j:Nat} (hj:j<n*sz):w.cell? ⟨g,j,none⟩=some (.int .i64 (xs.getD j 0)):=by
 obtain ⟨hl,cur,hg,_,_,_,ht⟩:=h
 rw [cell_of_row w g j cur T (0,0) hg]
 have h2:(cur.toList.take (n*sz))[j]? =(xs.map (Value.int .i64))[j]?:=by rw [ht]
 rw [List.getElem?_take,if_pos hj] at h2
 simp only [Array.getElem?_toList] at h2
 rw [h2]
 simp [List.getD,List.getElem?_eq_getElem (show j<xs.length by omega)]
theorem frozen (h:RowT w T sz g n cap xs) (j:Nat):w.frozen? ⟨g,j,none⟩=false:=by
 obtain ⟨_,cur,hg,_⟩:=h
 exact frozen_of_row w g j cur T hg
theorem set (h:RowT w T sz g n cap xs) (j:Nat) (v:Int):RowT (w.setCell ⟨g,j,none⟩ (.int .i64 v)) T sz g n cap (xs.set j v):=by
 obtain ⟨hl,cur,hg,h1,h2,h3,ht⟩:=h
 refine ⟨by simpa using hl,cur.setIfInBounds j (.int .i64 v),heap_setCell_same w g j cur _ _ hg,h1,h2,by simpa using h3,?_⟩
 rw [Array.toList_setIfInBounds,List.map_set,←ht,List.take_set]
theorem of_block (h:RowT w T sz g n cap xs) (hb:w'.heap[g]? =w.heap[g]?):RowT w' T sz g n cap xs:=by
 obtain ⟨hl,cur,hg,r⟩:=h
 exact ⟨hl,cur,hb.trans hg,r⟩
theorem below {B:Nat} (h:RowT w T sz g n cap xs) (hb:Below B w w') (hg:g<B):RowT w' T sz g n cap xs:=h.of_block (hb.block g hg)
theorem grown {row:Option Nat} (h:RowT w T sz g n cap xs) (hb:w.grownBy w' row) (hg:some g≠row):RowT w' T sz g n cap xs:=h.of_block (hb.block g h.lt hg)
theorem alloc (h:RowT w T sz g n cap xs) (o:Obj):RowT (w.alloc o) T sz g n cap xs:=h.of_block (Below.heap_alloc w o g h.lt)
theorem drewN (h:RowT w T sz g n cap xs) (m:Nat):RowT (w.drewN m) T sz g n cap xs:=h.of_block rfl
theorem other (h:RowT w T sz g n cap xs) {a:Addr} (ha:a.block≠g) (u:Value):RowT (w.setCell a u) T sz g n cap xs:=h.of_block (Below.heap_setCell w a u g (by omega))
theorem rd (h:RowT w T sz g n cap xs):Rd w (some ⟨g,0,none⟩) xs:=fun k hk=>⟨g,0,rfl,h.lt,by rw [Nat.zero_add];exact h.cell (by have:=h.len;omega)⟩
end RowT
def RowA (w:World) (T sz B:Nat) (ad:Option Addr) (n cap:Nat) (xs:List Int):Prop:=
 (ad=none∧n=0∧cap=0∧xs=[])∨ ∃g,ad=some ⟨g,0,none⟩∧B≤g∧RowT w T sz g n cap xs
namespace RowA
variable {w w' : World} {T sz B n cap : Nat} {ad : Option Addr} {xs : List Int}
theorem mk {g:Nat} (h:RowT w T sz g n cap xs) (hB:B≤g):RowA w T sz B (some ⟨g,0,none⟩) n cap xs:= .inr ⟨g,rfl,hB,h⟩
theorem none (w:World) (T sz B:Nat):RowA w T sz B none 0 0 []:= .inl ⟨rfl,rfl,rfl,rfl⟩
theorem len (h:RowA w T sz B ad n cap xs):xs.length=n*sz:=by
 rcases h with ⟨_,rfl,_,rfl⟩ | ⟨g,_,_,h⟩
 · simp
 · exact h.len
theorem rd (h:RowA w T sz B ad n cap xs):Rd w ad xs:=by
 rcases h with ⟨_,_,_,rfl⟩ | ⟨g,rfl,_,h⟩
 · exact Rd.nil _ _
 · exact h.rd
theorem below {B':Nat} (h:RowA w T sz B ad n cap xs) (hb:Below B' w w') (hg:w.heap.size≤B'):RowA w' T sz B ad n cap xs:=by
 rcases h with h | ⟨g,h1,h2,h⟩
 · exact .inl h
 · exact .inr ⟨g,h1,h2,h.below hb (by have:=h.lt;omega)⟩
theorem below' (h:RowA w T sz B ad n cap xs) (hb:Below w.heap.size w w'):RowA w' T sz B ad n cap xs:=h.below hb (Nat.le_refl _)
theorem grown {row:Option Nat} (h:RowA w T sz B ad n cap xs) (hb:w.grownBy w' row) (hg: ∀k,row=some k→k<B):RowA w' T sz B ad n cap xs:=by
 rcases h with h | ⟨g,h1,h2,h⟩
 · exact .inl h
 · exact .inr ⟨g,h1,h2,h.grown hb (fun e=>by have:=hg g e.symm;omega)⟩
theorem grown2 {row:Option Nat} (h:RowA w T sz B ad n cap xs) (hb:w.grownBy w' row) (hg: ∀k,row=some k→w.heap.size≤k∨blockOf ad≠some k):RowA w' T sz B ad n cap xs:=by
 rcases h with h | ⟨g,h1,h2,h⟩
 · exact .inl h
 · refine .inr ⟨g,h1,h2,h.grown hb (fun e=>?_)⟩
   have hl:=h.lt
   rcases hg g e.symm with h3 | h3
   · omega
   · subst h1;simp [blockOf] at h3
theorem grownS {o:Option Addr} (h:RowA w T sz B ad n cap xs) (hb:w.grownBy w' (blockOf o)) (hs: ∀b,blockOf o=some b→blockOf ad≠some b):RowA w' T sz B ad n cap xs:=
 h.grown2 hb (fun k hk=> .inr (hs k hk))
theorem drewN (h:RowA w T sz B ad n cap xs) (m:Nat):RowA (w.drewN m) T sz B ad n cap xs:=by
 rcases h with h | ⟨g,h1,h2,h⟩
 · exact .inl h
 · exact .inr ⟨g,h1,h2,h.drewN m⟩
theorem drew (h:RowA w T sz B ad n cap xs):RowA w.drew T sz B ad n cap xs:=h.drewN 1
theorem alloc (h:RowA w T sz B ad n cap xs) (o:Obj):RowA (w.alloc o) T sz B ad n cap xs:=h.below (Joins.below_alloc1 w o) (Nat.le_refl _)
theorem other (h:RowA w T sz B ad n cap xs) {a:Addr} (ha:a.block<B) (u:Value):RowA (w.setCell a u) T sz B ad n cap xs:=by
 rcases h with h | ⟨g,h1,h2,h⟩
 · exact .inl h
 · exact .inr ⟨g,h1,h2,h.other (by omega) u⟩
theorem bd (h:RowA w T sz B ad n cap xs): ∀b,blockOf ad=some b→B≤b∧b<w.heap.size:=by
 intro b hb
 rcases h with ⟨rfl,_⟩ | ⟨g,rfl,h2,h⟩
 · simp [blockOf] at hb
 · simp only [blockOf,Option.some.injEq] at hb
   subst hb
   exact ⟨h2,h.lt⟩
theorem mono {B':Nat} (h:RowA w T sz B ad n cap xs) (hB:B'≤B):RowA w T sz B' ad n cap xs:=by
 rcases h with h | ⟨g,h1,h2,h⟩
 · exact .inl h
 · exact .inr ⟨g,h1,by omega,h⟩
theorem toRow (h:RowA w T sz B ad n cap xs):w.ownsRow B T sz (.slice ad n cap) n (xs.map (Value.int .i64)):=by
 rcases h with ⟨rfl,rfl,rfl,rfl⟩ | ⟨g,rfl,hB,hl,cur,hg,h1,h2,h3,h4⟩
 · exact ⟨by simp, .inl ⟨rfl,rfl⟩⟩
 · exact ⟨by simp [hl], .inr ⟨g,cap,cur,rfl,hB,hg,h1,h2,by omega,h4⟩⟩
theorem ofRow {v:Value} (h:w.ownsRow B T sz v n (xs.map (Value.int .i64))): ∃ad cap,v= .slice ad n cap∧RowA w T sz B ad n cap xs:=by
 obtain ⟨hl,h⟩:=h
 simp at hl
 rcases h with ⟨rfl,rfl⟩ | ⟨g,cap,cur,rfl,hB,hg,h1,h2,h3,h4⟩
 · obtain rfl:xs=[]:=List.eq_nil_of_length_eq_zero (by simpa using hl)
   exact ⟨Option.none,0,rfl,RowA.none _ _ _ _⟩
 · exact ⟨_,cap,rfl, .inr ⟨g,rfl,hB,hl,cur,hg,h1,h2,by omega,h4⟩⟩
end RowA
theorem blockOf_ownT (ad:Option Addr) (n cap:Nat):(Value.slice ad n cap).ownBlock=blockOf ad:=by cases ad <;>rfl
def zeros (sz:Nat):Value:= .agg (List.replicate sz (Value.int .i64 0)).toArray
theorem madeT (sz n:Nat) (hs:1≤sz):(madeCells (List.replicate sz (Value.int .i64 0)).toArray n).toList=(List.replicate n 0).map (Value.int .i64):=by
 apply List.ext_getElem?
 intro j
 by_cases hj:j<n
 · have h2:j % sz<sz:=Nat.mod_lt _ (by omega)
   simp [madeCells,hj,h2]
 · simp [madeCells,hj]
theorem wp_makeT {P:Program} (w:World) {ops:Array Oper} {rest:List Oper} {o:Oper} {a:Act} {Q:Exit→Act→World→Prop}
   (hg:o.guard=none) (t e sz bytes:Nat) (ht:P.underlying t=some (.slice e)) (hi0:(P.info? e).map (fun i=>(i.zero,i.size,i.bytes))=some (some (zeros sz),sz,bytes)) (hsz:1≤sz) (hby:bytes≤4096)
   (l c:Operand) (hop:o.op=Op.makeSlice t l c) (kl kc:IntKind) (L C:Int) (n:Nat) (hl:a.eval l= .int kl L) (hc:a.eval c= .int kc C) (hL:L=(n:Int)) (hC:C=(n:Int)) (hn:n≤1048576)
   (hK: ∀w',RowT w' e sz w.heap.size n n (List.replicate (n*sz) 0)→Below w.heap.size w w'→wpList P ops Q rest (a.put o.dst (.slice (some ⟨w.heap.size,0,none⟩) n n)) w'):
   wpList P ops Q (o::rest) a w:=by
 obtain ⟨i,hi,hz0,hz1,hz2⟩:=info_parts hi0
 refine wpList_plain hg fun K hK'=>?_
 subst hL
 subst hC
 have m1:(bytes:Int)*(n:Int)≤4096*1048576:=Int.mul_le_mul (by omega) (by omega) (by omega) (by omega)
 have hr:=run_make (P:=P) w t e i (zeros sz) ht hi hz0 kl kc n n (by omega) (Int.le_refl _) (by rw [hz2];omega) (by omega)
 simp only [Int.toNat_natCast,hz1] at hr
 have hm:RowT (w.alloc (.cells (madeCells (zeros sz).cells (n*sz)) e)) e sz w.heap.size n n (List.replicate (n*sz) 0):=by
   refine ⟨by simp,_,heap_alloc_new w _,Nat.le_refl _,by unfold maxLen;omega,size_madeCells _ _,?_⟩
   rw [List.take_of_length_le (by simp [size_madeCells])]
   exact madeT sz (n*sz) hsz
 unfold Oper.wp
 simp [execOp,hop,hl,hc,hr,Result.andThen]
 exact hK' _ _ (hK _ hm (Joins.below_alloc1 _ _))
theorem rd_part {w:World} {ad:Option Addr} {ks:List Prt} (h:Rd w ad (flat ks)) {k:Nat} (hk:k<ks.length):
   ∃b off,ad=some ⟨b,off,none⟩∧b<w.heap.size∧w.cell? ⟨b,off+k*3,none⟩=some (.int .i64 (prt ks k).dx)∧w.cell? ⟨b,off+k*3+1,none⟩=some (.int .i64 (prt ks k).dy)∧w.cell? ⟨b,off+k*3+2,none⟩=some (.int .i64 (prt ks k).wt):=by
 have hl:=flat_len ks
 obtain ⟨b,off,h1,h2,h3⟩:=h.at (by omega)
 obtain ⟨e1,e2,e3⟩:=flat_at ks k hk
 refine ⟨b,off,h1,h2,?_,?_,?_⟩
 · rw [←e1,Nat.mul_comm k 3];exact h3 _ (by omega)
 · rw [←e2,Nat.mul_comm k 3,Nat.add_assoc];exact h3 _ (by omega)
 · rw [←e3,Nat.mul_comm k 3,Nat.add_assoc];exact h3 _ (by omega)
theorem infoCell:(Tryz.prog.info? 149).map (fun i=>(i.zero,i.size,i.bytes))=some (some (zeros 2),2,16):=by kernel_rfl
def RowVA (w:World) (B:Nat) (ad:Option Addr) (n cap:Nat) (L:List PV):Prop:=
 L.length=n∧((ad=none∧n=0∧cap=0)∨ ∃g,ad=some ⟨g,0,none⟩∧B≤g∧RowV w g cap L)
namespace RowVA
variable {w w' : World} {B n cap : Nat} {ad : Option Addr} {L : List PV}
theorem nil (w:World) (B:Nat):RowVA w B none 0 0 []:=⟨rfl, .inl ⟨rfl,rfl,rfl⟩⟩
theorem mk {g:Nat} (h:RowV w g cap L) (hB:B≤g) (hl:L.length=n):RowVA w B (some ⟨g,0,none⟩) n cap L:=⟨hl, .inr ⟨g,rfl,hB,h⟩⟩
theorem below (h:RowVA w B ad n cap L) (hb:Below w.heap.size w w'):RowVA w' B ad n cap L:=
 ⟨h.1,by
   rcases h.2 with h0 | ⟨g,h1,h2,hr⟩
   · exact .inl h0
   · exact .inr ⟨g,h1,h2,hr.below hb⟩⟩
theorem alloc (h:RowVA w B ad n cap L) (o:Obj):RowVA (w.alloc o) B ad n cap L:=h.below (Joins.below_alloc1 w o)
theorem bd (h:RowVA w B ad n cap L): ∀b,blockOf ad=some b→B≤b∧b<w.heap.size:=by
 intro b hb
 rcases h.2 with ⟨h0,_⟩ | ⟨g,h1,h2,hr⟩
 · rw [h0] at hb;cases hb
 · rw [h1] at hb
   simp only [blockOf,Option.some.injEq] at hb
   subst hb
   exact ⟨h2,hr.lt⟩
theorem toRow (h:RowVA w B ad n cap L):w.ownsRow B 27 3 (.slice ad n cap) n (flatV L):=by
 obtain ⟨hl,h⟩:=h
 refine ⟨by rw [flatV_len,hl],?_⟩
 rcases h with ⟨rfl,rfl,rfl⟩ | ⟨g,rfl,hB,cur,hg,h1,h2,h3,h4⟩
 · exact .inl ⟨rfl,rfl⟩
 · exact .inr ⟨g,cap,cur,rfl,hB,hg,by omega,h2,by omega,by rw [←hl];exact h4⟩
theorem ofRow {v:Value} (hl:L.length=n) (h:w.ownsRow B 27 3 v n (flatV L)): ∃ad cap,v= .slice ad n cap∧RowVA w B ad n cap L:=by
 obtain ⟨_,h⟩:=h
 rcases h with ⟨rfl,rfl⟩ | ⟨g,cap,cur,rfl,hB,hg,h1,h2,h3,h4⟩
 · exact ⟨Option.none,0,rfl,hl, .inl ⟨rfl,rfl,rfl⟩⟩
 · exact ⟨_,cap,rfl,hl, .inr ⟨g,rfl,hB,cur,hg,by omega,h2,by omega,by rw [hl];exact h4⟩⟩
end RowVA
structure KeepT (S:Nat→Prop) (w w':World):Prop where
 os:w'.os=w.os
 tape:w'.tape=w.tape
 output:w'.output=w.output
 size:w.heap.size≤w'.heap.size
 block: ∀i,i<w.heap.size→ ¬S i→w'.heap[i]? =w.heap[i]?
namespace KeepT
variable {S : Nat → Prop} {w w' w2 : World}
theorem refl (S:Nat→Prop) (w:World):KeepT S w w:=⟨rfl,rfl,rfl,Nat.le_refl _,fun _ _ _=>rfl⟩
theorem trans (h:KeepT S w w') (k:KeepT S w' w2):KeepT S w w2:=
 ⟨k.os.trans h.os,k.tape.trans h.tape,k.output.trans h.output,Nat.le_trans h.size k.size,fun i hi hs=>(k.block i (Nat.lt_of_lt_of_le hi h.size) hs).trans (h.block i hi hs)⟩
theorem ofBelow (h:Below w.heap.size w w'):KeepT S w w':=⟨h.os,h.tape,h.output,h.size,fun i hi _=>h.block i hi⟩
theorem ofGrown {row:Option Nat} (h:w.grownBy w' row) (hs: ∀b,row=some b→S b):KeepT S w w':=
 ⟨h.os,h.tape,h.output,h.size,fun i hi hn=>h.block i hi (fun e=>hn (hs i e.symm))⟩
theorem below {B:Nat} (h:KeepT S w w') (hS: ∀i,S i→B≤i) (hB:B≤w.heap.size):Below B w w':=
 ⟨h.os,h.tape,h.output,h.size,fun i hi=>h.block i (by omega) (fun hs=>by have:=hS i hs;omega)⟩
theorem set (h:KeepT S w w') {a:Addr} (ha:S a.block) (u:Value):KeepT S w (w'.setCell a u):=
 ⟨h.os,h.tape,h.output,by simpa [World.setCell] using h.size,fun i hi hs=>(Below.heap_setCell w' a u i (fun e=>hs (by rw [e];exact ha))).trans (h.block i hi hs)⟩
theorem call (h:KeepT S w w') (hb:Below w'.heap.size w' w2):KeepT S w w2:=h.trans (ofBelow hb)
theorem mono {S2:Nat→Prop} (h:KeepT S w w') (hs: ∀i,S i→S2 i):KeepT S2 w w':=⟨h.os,h.tape,h.output,h.size,fun i hi h2=>h.block i hi (fun h3=>h2 (hs i h3))⟩
theorem blk {g T:Nat} {cs:Array Value} (h:KeepT S w w') (hb:Blk w g T cs) (hs: ¬S g):Blk w' g T cs:=hb.of_block (h.block g hb.lt hs)
theorem ownA {B n cap:Nat} {ad:Option Addr} {xs:List Int} (h:KeepT S w w') (hb:OwnA w B ad n cap xs) (hs: ∀b,blockOf ad=some b→ ¬S b):OwnA w' B ad n cap xs:=by
 rcases hb with hb | ⟨g,h1,h2,hb⟩
 · exact .inl hb
 · subst h1
   exact .inr ⟨g,rfl,h2,hb.of_block (h.block g hb.lt (hs g rfl))⟩
theorem rd {ad:Option Addr} {xs:List Int} (h:KeepT S w w') (hr:Rd w ad xs) (hs: ∀b,blockOf ad=some b→ ¬S b):Rd w' ad xs:=fun k hk=>by
 obtain ⟨b,off,h1,h2,h3⟩:=hr k hk
 subst h1
 exact ⟨b,off,rfl,Nat.lt_of_lt_of_le h2 h.size,(World.cell?_of_block (by exact h.block b h2 (hs b rfl))).trans h3⟩
theorem rowV {g cap:Nat} {L:List PV} (h:KeepT S w w') (hr:RowV w g cap L) (hs: ¬S g):RowV w' g cap L:=hr.of_block (h.block g hr.lt hs)
theorem ownV {B n cap:Nat} {ad:Option Addr} {L:List PV} (h:KeepT S w w') (ho:OwnV w B ad n cap L) (hs: ∀i,OwnV.blocks ad L i→ ¬S i):OwnV w' B ad n cap L:=
 ⟨ho.len,by
   rcases ho.row with h0 | ⟨g,h1,h2,hr⟩
   · exact .inl h0
   · exact .inr ⟨g,h1,h2,h.rowV hr (hs g (.inl (by rw [h1];rfl)))⟩,
   fun k hk=>h.ownA (ho.ink k hk) (fun b hb=>hs b (.inr ⟨k,by rw [ho.len];exact hk,hb⟩)),ho.off,ho.apart⟩
end KeepT
theorem flatV_congr {L M:List PV} (hl:L.length=M.length) (h: ∀k,k<L.length→(pv L k).W=(pv M k).W∧(pv L k).H=(pv M k).H∧(pv L k).a=(pv M k).a∧(pv L k).n=(pv M k).n∧(pv L k).c=(pv M k).c):flatV L=flatV M:=by
 induction L generalizing M with
 | nil=>
   cases M with
   | nil=>rfl
   | cons q s=>simp at hl
 | cons p r ih=>
   cases M with
   | nil=>simp at hl
   | cons q s=>
     have h0:=h 0 (by simp)
     have hr:=ih (M:=s) (by simpa using hl) (fun k hk=>by
       have:=h (k+1) (by simpa using hk)
       simpa [pv] using this)
     simp only [pv,List.getD_cons_zero] at h0
     obtain ⟨e1,e2,e3,e4,e5⟩:=h0
     have e:p.cells=q.cells:=by unfold PV.cells;rw [e1,e2,e3,e4,e5]
     unfold flatV at hr⊢
     simp only [List.flatMap_cons]
     rw [e,hr]
theorem OwnA.otherT {w:World} {B n cap:Nat} {ad:Option Addr} {xs:List Int} (h:OwnA w B ad n cap xs) {a:Addr} (ha:blockOf ad≠some a.block) (u:Value):OwnA (w.setCell a u) B ad n cap xs:=by
 rcases h with h | ⟨g,h1,h2,h⟩
 · exact .inl h
 · subst h1
   exact .inr ⟨g,rfl,h2,h.other (fun e=>ha (by rw [e];rfl)) u⟩
namespace OwnV
variable {w w' : World} {B n cap g k : Nat} {L : List PV}
theorem snoc {ad ad':Option Addr} {cap':Nat} {p:PV} (h:OwnV w B ad n cap L) (hr:RowVA w' B ad' (n+1) cap' (L++ [p])) (hg:w.grownBy w' (blockOf ad)) (hz: ∀b,blockOf ad'=some b→blockOf ad=some b∨w.heap.size≤b)
   (hp:OwnA w' B p.a p.n p.c p.ink) (h1: ∀b,blockOf p.a=some b→b<w.heap.size∧ ¬blocks ad L b):OwnV w' B ad' (n+1) cap' (L++ [p]):=by
 have at1: ∀i,i<n→pv (L++ [p]) i=pv L i:=fun i hi=>pv_snoc_lt (by rw [h.len];exact hi)
 have at2:pv (L++ [p]) n=p:=by rw [←h.len];exact pv_snoc
 refine ⟨hr.1,hr.2,fun i hi=>?_,fun i b hi hb=>?_,fun i j b hij hj hb=>?_⟩
 · by_cases e:i<n
   · rw [at1 i e]
     exact (h.ink i e).grownS hg (fun b hb hb2=>h.off i b e hb2 hb)
   · obtain rfl:i=n:=by omega
     rw [at2];exact hp
 · intro e
   by_cases q:i<n
   · rw [at1 i q] at hb
     rcases hz b e with z | z
     · exact h.off i b q hb z
     · have:=(h.ink i q).bd b hb;omega
   · obtain rfl:i=n:=by omega
     rw [at2] at hb
     obtain ⟨b1,b2⟩:=h1 b hb
     rcases hz b e with z | z
     · exact b2 (.inl z)
     · omega
 · by_cases q:j<n
   · rw [at1 i (by omega)] at hb
     rw [at1 j q]
     exact h.apart i j b hij q hb
   · obtain rfl:j=n:=by omega
     rw [at1 i hij] at hb
     rw [at2]
     intro e
     exact (h1 b e).2 (.inr ⟨i,by rw [h.len];exact hij,hb⟩)
end OwnV
def picsV (L:List PV):List Pic:=L.map PV.pic
theorem picsV_len (L:List PV):(picsV L).length=L.length:=by simp [picsV]
theorem picsV_at (L:List PV) (k:Nat) (h:k<L.length):(picsV L).getD k noPic=(pv L k).pic:=by
 simp [picsV,pv,List.getD,List.getElem?_eq_getElem h]
theorem picsV_eq {L M:List PV} (hl:L.length=M.length) (h: ∀k,k<L.length→(pv L k).W=(pv M k).W∧(pv L k).H=(pv M k).H∧(pv L k).ink=(pv M k).ink):picsV L=picsV M:=by
 apply List.ext_getElem?
 intro k
 by_cases hk:k<L.length
 · have e:=h k hk
   unfold pv at e
   simp only [List.getD,List.getElem?_eq_getElem hk,List.getElem?_eq_getElem (show k<M.length by omega),Option.getD_some] at e
   simp only [picsV,List.getElem?_map,List.getElem?_eq_getElem hk,List.getElem?_eq_getElem (show k<M.length by omega),Option.map_some]
   obtain ⟨e1,e2,e3⟩:=e
   unfold PV.pic
   rw [e1,e2,e3]
 · rw [List.getElem?_eq_none (by simp [picsV];omega),List.getElem?_eq_none (by simp [picsV];omega)]
end Go.Proofs.YtanccoopbgamdaaGreatDoor
