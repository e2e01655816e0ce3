/-
  Contracts and plain facts on which the theorem of this claim rests, text 1.
-/
import Derived.Lib.Hide
import Derived.Lib.SmallJoins
import Derived.WalkKit
import Derived.WalkLawsBesides
import Derived.WalkSpells
namespace Go.Proofs.YtanccoopbgamdaaGreatDoor
open Go.RowKit
set_option linter.unusedVariables false
set_option linter.unusedSimpArgs false
theorem ret_bool {a b:Bool} (h:a=b):Ending.returned (.bool a)= .returned (.bool b):=by rw [h]
theorem ret_int {k:IntKind} {a b:Int} (h:a=b):Ending.returned (.int k a)= .returned (.int k b):=by rw [h]
def Rd (w:World) (ad:Option Addr) (xs:List Int):Prop:=
 ∀k,k<xs.length→ ∃b off,ad=some ⟨b,off,none⟩∧b<w.heap.size∧w.cell? ⟨b,off+k,none⟩=some (.int .i64 (xs.getD k 0))
theorem Rd.at {w:World} {ad:Option Addr} {xs:List Int} (h:Rd w ad xs) (hx:0<xs.length):
   ∃b off,ad=some ⟨b,off,none⟩∧b<w.heap.size∧ ∀k,k<xs.length→w.cell? ⟨b,off+k,none⟩=some (.int .i64 (xs.getD k 0)):=by
 obtain ⟨b,off,hb,hl,_⟩:=h 0 hx
 refine ⟨b,off,hb,hl,fun k hk=>?_⟩
 obtain ⟨b',off',hb',_,hc⟩:=h k hk
 rw [hb] at hb'
 obtain ⟨rfl,rfl⟩:b=b'∧off=off':=by
   have:=Option.some.inj hb'
   simp only [Addr.mk.injEq] at this
   exact ⟨this.1,this.2.1⟩
 exact hc
theorem Rd.below {w w':World} {ad:Option Addr} {xs:List Int} (h:Rd w ad xs) (hb:Below w.heap.size w w'):Rd w' ad xs:=by
 intro k hk
 obtain ⟨b,off,h1,h2,h3⟩:=h k hk
 exact ⟨b,off,h1,Nat.lt_of_lt_of_le h2 hb.size,(hb.cell (p:=⟨b,off+k,none⟩) h2).trans h3⟩
theorem Rd.of_heap {w w':World} {ad:Option Addr} {xs:List Int} (h:Rd w ad xs) (he:w'.heap=w.heap):Rd w' ad xs:=by
 intro k hk
 obtain ⟨b,off,h1,h2,h3⟩:=h k hk
 exact ⟨b,off,h1,by rw [he];exact h2,(World.cell?_of_block (w:=w) (by rw [he])).trans h3⟩
theorem Rd.alloc {w:World} {ad:Option Addr} {xs:List Int} (h:Rd w ad xs) (o:Obj):Rd (w.alloc o) ad xs:=h.below (Joins.below_alloc1 w o)
theorem Rd.drew {w:World} {ad:Option Addr} {xs:List Int} (h:Rd w ad xs):Rd w.drew ad xs:=h.of_heap rfl
theorem Rd.nil (w:World) (ad:Option Addr):Rd w ad []:=fun _ hk=>by simp at hk
def Own (w:World) (g n cap:Nat) (xs:List Int):Prop:=
 xs.length=n∧ ∃cur,w.heap[g]? =some (.cells cur 3 (0,0))∧n≤cap∧cap≤maxLen∧cur.size=cap∧cur.toList.take n=xs.map (Value.int .i64)
namespace Own
variable {w w' : World} {g n cap : Nat} {xs : List Int}
theorem len (h:Own w g n cap xs):xs.length=n:=h.1
theorem lt (h:Own w g n cap xs):g<w.heap.size:=by
 obtain ⟨_,cur,hg,_⟩:=h
 exact (Array.getElem?_eq_some_iff.1 hg).1
theorem cell (h:Own w g n cap xs) {j:Nat} (hj:j<n):w.cell? ⟨g,j,none⟩=some (.int .i64 (xs.getD j 0)):=by
 obtain ⟨hl,cur,hg,_,_,_,ht⟩:=h
 rw [cell_of_row w g j cur 3 (0,0) hg]
 have h2:(cur.toList.take n)[j]? =(xs.map (Value.int .i64))[j]?:=by rw [ht]
 rw [List.getElem?_take,if_pos hj] at h2
 simp only [Array.getElem?_toList] at h2
 rw [h2]
 simp [List.getD,List.getElem?_eq_getElem (show j<xs.length by omega)]
theorem frozen (h:Own w g n cap xs) (j:Nat):w.frozen? ⟨g,j,none⟩=false:=by
 obtain ⟨_,cur,hg,_⟩:=h
 exact frozen_of_row w g j cur 3 hg
theorem set (h:Own w g n cap xs) (j:Nat) (v:Int):Own (w.setCell ⟨g,j,none⟩ (.int .i64 v)) g n cap (xs.set j v):=by
 obtain ⟨hl,cur,hg,h1,h2,h3,ht⟩:=h
 refine ⟨by simpa using hl,cur.setIfInBounds j (.int .i64 v),heap_setCell_same w g j cur _ _ hg,h1,h2,by simpa using h3,?_⟩
 rw [Array.toList_setIfInBounds,List.map_set,←ht,List.take_set]
theorem of_block (h:Own w g n cap xs) (hb:w'.heap[g]? =w.heap[g]?):Own w' g n cap xs:=by
 obtain ⟨hl,cur,hg,r⟩:=h
 exact ⟨hl,cur,hb.trans hg,r⟩
theorem below {B:Nat} (h:Own w g n cap xs) (hb:Below B w w') (hg:g<B):Own w' g n cap xs:=h.of_block (hb.block g hg)
theorem grown {row:Option Nat} (h:Own w g n cap xs) (hb:w.grownBy w' row) (hg:some g≠row):Own w' g n cap xs:=h.of_block (hb.block g h.lt hg)
theorem alloc (h:Own w g n cap xs) (o:Obj):Own (w.alloc o) g n cap xs:=h.of_block (Below.heap_alloc w o g h.lt)
theorem drewN (h:Own w g n cap xs) (m:Nat):Own (w.drewN m) g n cap xs:=h.of_block rfl
theorem other (h:Own w g n cap xs) {a:Addr} (ha:a.block≠g) (u:Value):Own (w.setCell a u) g n cap xs:=h.of_block (Below.heap_setCell w a u g (by omega))
theorem rd (h:Own w g n cap xs):Rd w (some ⟨g,0,none⟩) xs:=fun k hk=>⟨g,0,rfl,h.lt,by rw [Nat.zero_add];exact h.cell (by have:=h.len;omega)⟩
end Own
def RowM (M:Array Value) (n:Nat) (xs:List Int):Prop:=xs.length=n∧n≤maxLen∧M.size=n∧M.toList=xs.map (Value.int .i64)
theorem RowM.zero (n:Nat) (hn:n≤maxLen):RowM (madeCells #[.int .i64 0] n) n (List.replicate n 0):=
 ⟨by simp,hn,size_madeCells _ _,by rw [toList_madeCells_one];simp⟩
theorem RowM.own {M:Array Value} {n:Nat} {xs:List Int} (h:RowM M n xs) (w:World):Own (w.alloc (.cells M 3)) w.heap.size n n xs:=
 ⟨h.1,M,heap_alloc_new w _,Nat.le_refl _,h.2.1,h.2.2.1,by rw [h.2.2.2,List.take_of_length_le (by simp [h.1])]⟩
theorem RowM.own' {M:Array Value} {n g:Nat} {xs:List Int} (h:RowM M n xs) (w:World) (hg:g=w.heap.size):Own (w.alloc (.cells M 3)) g n n xs:=by
 subst hg;exact h.own w
def OwnA (w:World) (B:Nat) (ad:Option Addr) (n cap:Nat) (xs:List Int):Prop:=
 (ad=none∧n=0∧cap=0∧xs=[])∨ ∃g,ad=some ⟨g,0,none⟩∧B≤g∧Own w g n cap xs
def blockOf:Option Addr→Option Nat
 | some a=>some a.block
 | none=>none
namespace OwnA
variable {w w' : World} {B n cap : Nat} {ad : Option Addr} {xs : List Int}
theorem mk {g:Nat} (h:Own w g n cap xs) (hB:B≤g):OwnA w B (some ⟨g,0,none⟩) n cap xs:= .inr ⟨g,rfl,hB,h⟩
theorem none (w:World) (B:Nat):OwnA w B none 0 0 []:= .inl ⟨rfl,rfl,rfl,rfl⟩
theorem len (h:OwnA w B ad n cap xs):xs.length=n:=by
 rcases h with ⟨_,rfl,_,rfl⟩ | ⟨g,_,_,h⟩
 · rfl
 · exact h.len
theorem rd (h:OwnA w B ad n cap xs):Rd w ad xs:=by
 rcases h with ⟨_,_,_,rfl⟩ | ⟨g,rfl,_,h⟩
 · exact Rd.nil _ _
 · exact h.rd
theorem below {B':Nat} (h:OwnA w B ad n cap xs) (hb:Below B' w w') (hg:w.heap.size≤B'):OwnA w' B ad n cap xs:=by
 rcases h with h | ⟨g,h1,h2,h⟩
 · exact .inl h
 · exact .inr ⟨g,h1,h2,h.below hb (by have:=h.lt;omega)⟩
theorem grown {row:Option Nat} (h:OwnA w B ad n cap xs) (hb:w.grownBy w' row) (hg: ∀k,row=some k→k<B):OwnA w' B ad n cap xs:=by
 rcases h with h | ⟨g,h1,h2,h⟩
 · exact .inl h
 · exact .inr ⟨g,h1,h2,h.grown hb (fun e=>by have:=hg g e.symm;omega)⟩
theorem grown2 {row:Option Nat} (h:OwnA w B ad n cap xs) (hb:w.grownBy w' row) (hg: ∀k,row=some k→w.heap.size≤k∨blockOf ad≠some k):OwnA w' B ad n cap xs:=by
 rcases h with h | ⟨g,h1,h2,h⟩
 · exact .inl h
 · refine .inr ⟨g,h1,h2,h.grown hb (fun e=>?_)⟩
   have hl:=h.lt
   rcases hg g e.symm with h3 | h3
   · omega
   · subst h1;simp [blockOf] at h3
theorem drewN (h:OwnA w B ad n cap xs) (m:Nat):OwnA (w.drewN m) B ad n cap xs:=by
 rcases h with h | ⟨g,h1,h2,h⟩
 · exact .inl h
 · exact .inr ⟨g,h1,h2,h.drewN m⟩
theorem drew (h:OwnA w B ad n cap xs):OwnA w.drew B ad n cap xs:=h.drewN 1
theorem below' (h:OwnA w B ad n cap xs) (hb:Below w.heap.size w w'):OwnA w' B ad n cap xs:=h.below hb (Nat.le_refl _)
theorem alloc (h:OwnA w B ad n cap xs) (o:Obj):OwnA (w.alloc o) B ad n cap xs:=h.below (Joins.below_alloc1 w o) (Nat.le_refl _)
theorem grownS {o:Option Addr} (h:OwnA w B ad n cap xs) (hb:w.grownBy w' (blockOf o)) (hs: ∀b,blockOf o=some b→blockOf ad≠some b):OwnA w' B ad n cap xs:=
 h.grown2 hb (fun k hk=> .inr (hs k hk))
theorem bd (h:OwnA w B ad n cap xs): ∀b,blockOf ad=some b→B≤b∧b<w.heap.size:=by
 intro b hb
 rcases h with ⟨rfl,_⟩ | ⟨g,rfl,h2,h⟩
 · simp [blockOf] at hb
 · simp only [blockOf,Option.some.injEq] at hb
   subst hb
   exact ⟨h2,h.lt⟩
theorem mono {B':Nat} (h:OwnA w B ad n cap xs) (hB:B'≤B):OwnA w B' ad n cap xs:=by
 rcases h with h | ⟨g,h1,h2,h⟩
 · exact .inl h
 · exact .inr ⟨g,h1,by omega,h⟩
end OwnA
theorem bAlloc {w w1:World} (h:Below w.heap.size w w1) (o:Obj):Below w.heap.size w (w1.alloc o):=h.alloc h.size o
theorem bTrans {w w1 w2:World} (h:Below w.heap.size w w1) (hb:Below w1.heap.size w1 w2):Below w.heap.size w w2:=h.trans (hb.mono h.size)
def Blk (w:World) (g T:Nat) (cs:Array Value):Prop:=w.heap[g]? =some (.cells cs T (0,0))
namespace Blk
variable {w w' : World} {g T : Nat} {cs : Array Value}
theorem lt (h:Blk w g T cs):g<w.heap.size:=(Array.getElem?_eq_some_iff.1 h).1
theorem cell (h:Blk w g T cs) (i:Nat):w.cell? ⟨g,i,none⟩=cs[i]?:=Joins.cell_of_block h i
theorem frozen (h:Blk w g T cs) (i:Nat):w.frozen? ⟨g,i,none⟩=false:=Joins.unfrozen_of_block h i
theorem of_block (h:Blk w g T cs) (hb:w'.heap[g]? =w.heap[g]?):Blk w' g T cs:=hb.trans h
theorem below {B:Nat} (h:Blk w g T cs) (hb:Below B w w') (hg:g<B):Blk w' g T cs:=h.of_block (hb.block g hg)
theorem below' (h:Blk w g T cs) (hb:Below w.heap.size w w'):Blk w' g T cs:=h.below hb h.lt
theorem alloc (h:Blk w g T cs) (o:Obj):Blk (w.alloc o) g T cs:=h.of_block (Below.heap_alloc w o g h.lt)
theorem drewN (h:Blk w g T cs) (m:Nat):Blk (w.drewN m) g T cs:=h.of_block rfl
theorem grown {row:Option Nat} (h:Blk w g T cs) (hb:w.grownBy w' row) (hg:some g≠row):Blk w' g T cs:=h.of_block (hb.block g h.lt hg)
theorem drew (h:Blk w g T cs):Blk w.drew g T cs:=h.of_block rfl
theorem grownS {o:Option Addr} (h:Blk w g T cs) (hb:w.grownBy w' (blockOf o)) (hs: ∀b,blockOf o=some b→b≠g):Blk w' g T cs:=
 h.grown hb (fun e=>hs g e.symm rfl)
theorem other (h:Blk w g T cs) {a:Addr} (ha:a.block≠g) (u:Value):Blk (w.setCell a u) g T cs:=h.of_block (Below.heap_setCell w a u g (by omega))
theorem set (h:Blk w g T cs) (i:Nat) (u:Value):Blk (w.setCell ⟨g,i,none⟩ u) g T (cs.setIfInBounds i u):=Joins.block_setCell h u
theorem new (w:World) (T:Nat) (cs:Array Value):Blk (w.alloc (.cells cs T)) w.heap.size T cs:=heap_alloc_new w _
theorem new' {w:World} {g:Nat} (T:Nat) (cs:Array Value) (h:g=w.heap.size):Blk (w.alloc (.cells cs T)) g T cs:=by subst h;exact new w T cs
theorem c3 {a b c:Value} (h:Blk w g T #[a,b,c]):g<w.heap.size∧w.cell? ⟨g,0,none⟩=some a∧w.cell? ⟨g,1,none⟩=some b∧w.cell? ⟨g,2,none⟩=some c:=
 ⟨h.lt,by rw [h.cell];rfl,by rw [h.cell];rfl,by rw [h.cell];rfl⟩
theorem f3 (h:Blk w g T cs):w.frozen? ⟨g,0,none⟩=false∧w.frozen? ⟨g,1,none⟩=false∧w.frozen? ⟨g,2,none⟩=false:=⟨h.frozen 0,h.frozen 1,h.frozen 2⟩
end Blk
theorem grown_below {w w':World} {row:Option Nat} {B:Nat} (hg:w.grownBy w' row) (hB:B≤w.heap.size) (hr: ∀k,row=some k→B≤k):Below B w w':=(Below.refl B w).grown hg hB hr
theorem grown_trans {a b c:World} {row:Option Nat} (h:a.grownBy b row) (k:b.grownBy c row):a.grownBy c row:=
 ⟨k.os.trans h.os,k.tape.trans h.tape,k.output.trans h.output,Nat.le_trans h.size k.size,fun i hi hr=>(k.block i (Nat.lt_of_lt_of_le hi h.size) hr).trans (h.block i hi hr)⟩
theorem grown_refl (w:World) (row:Option Nat):w.grownBy w row:=World.grownBy.refl w row
theorem grown_drewN {a b:World} {row:Option Nat} (h:a.grownBy b row) (n:Nat):a.grownBy (b.drewN n) row:=⟨h.os,h.tape,h.output,h.size,h.block⟩
theorem grown_set {a b:World} {g j:Nat} (h:a.grownBy b (some g)) (u:Value):a.grownBy (b.setCell ⟨g,j,none⟩ u) (some g):=
 grown_trans h ⟨rfl,rfl,rfl,by simp [World.setCell],fun k _ hk=>Below.heap_setCell b _ u k (fun e=>hk (by simp [e]))⟩
theorem take_succ_eq {xs ys:List Int} {k:Nat} (h1:k<xs.length) (h2:k<ys.length) (h:xs.take k=ys.take k) (he:xs.getD k 0=ys.getD k 0):xs.take (k+1)=ys.take (k+1):=by
 rw [List.take_succ_eq_append_getElem h1,List.take_succ_eq_append_getElem h2,h]
 simp only [List.getD,List.getElem?_eq_getElem h1,List.getElem?_eq_getElem h2,Option.getD_some] at he
 rw [he]
theorem draws1 (w:World) (q:Nat): ∃k,w.drewN q=w.drewN k:=⟨q,rfl⟩
theorem draws2 (w:World) (q m:Nat): ∃k,(w.drewN q).drewN m=w.drewN k:=⟨q+m,by simp⟩
def filled (ys xs:List Int) (k:Nat):List Int:=ys.take k++xs.drop k
theorem filled_zero (ys xs:List Int):filled ys xs 0=xs:=by simp [filled]
theorem filled_all (ys xs:List Int) (h:xs.length=ys.length):filled ys xs ys.length=ys:=by rw [filled,List.take_of_length_le (by omega),List.drop_of_length_le (by omega),List.append_nil]
theorem filled_at (ys xs:List Int) (k:Nat) (h1:ys.length=k) (h2:xs.length=k):filled ys xs k=ys:=by rw [filled,List.take_of_length_le (by omega),List.drop_of_length_le (by omega),List.append_nil]
theorem filled_succ (ys xs:List Int) (k:Nat) (v:Int) (hk:k<ys.length) (hx:k<xs.length) (hv:ys.getD k 0=v):(filled ys xs k).set k v=filled ys xs (k+1):=by
 subst hv
 apply List.ext_getElem?
 intro i
 simp only [filled,List.getElem?_set,List.length_append,List.length_take,List.length_drop]
 by_cases h:k=i
 · subst h
   rw [if_pos rfl,if_pos (by omega),List.getElem?_append_left (by simp;omega),List.getElem?_take,if_pos (by omega)]
   simp [List.getD,hk]
 · rw [if_neg h]
   by_cases hi:i<k
   · rw [List.getElem?_append_left (by simp;omega),List.getElem?_append_left (by simp;omega),List.getElem?_take,List.getElem?_take,if_pos hi,if_pos (by omega)]
   · rw [List.getElem?_append_right (by simp;omega),List.getElem?_append_right (by simp;omega),List.getElem?_drop,List.getElem?_drop]
     simp only [List.length_take]
     congr 1;omega
end Go.Proofs.YtanccoopbgamdaaGreatDoor
namespace Go.Proofs.YtanccoopbgamdaaGreatDoor
set_option linter.unusedVariables false
set_option linter.unusedSimpArgs false
def sizeOk (W H:Int):Bool:=decide (1≤W∧W≤64∧1≤H∧H≤64∧W*H≤1024)
def within (xs:List Int) (m:Int):Bool:=xs.all (fun v=>decide (0≤v∧v≤m))
def picOk (W H:Int) (xs:List Int) (m:Int):Bool:=sizeOk W H && (decide ((xs.length:Int)=W*H) && within xs m)
theorem mul_bd (W H:Int) (h1:1≤W) (h2:W≤64) (h3:1≤H) (h4:H≤64):1≤W*H∧W*H≤4096:=by
 constructor
 · have:=Int.mul_le_mul h1 h3 (by omega) (by omega);omega
 · have:=Int.mul_le_mul h2 h4 (by omega) (by omega);omega
theorem sizeOk_in {W H:Int} (h1:1≤W) (h2:W≤64) (h3:1≤H) (h4:H≤64):sizeOk W H=decide (W*H≤1024):=by unfold sizeOk;simp [h1,h2,h3,h4]
theorem sizeOk_out {W H:Int} (c: ¬(1≤W∧W≤64∧1≤H∧H≤64)):sizeOk W H=false:=by
 unfold sizeOk;rw [decide_eq_false_iff_not];exact fun h=>c ⟨h.1,h.2.1,h.2.2.1,h.2.2.2.1⟩
theorem sizeOk_bd {W H:Int} (h:sizeOk W H=true):1≤W∧W≤64∧1≤H∧H≤64∧W*H≤1024∧1≤W*H:=by
 unfold sizeOk at h
 have h:=of_decide_eq_true h
 exact ⟨h.1,h.2.1,h.2.2.1,h.2.2.2.1,h.2.2.2.2,(mul_bd W H h.1 h.2.1 h.2.2.1 h.2.2.2.1).1⟩
theorem within_snoc (xs:List Int) (k:Nat) (m:Int) (hk:k<xs.length):within (xs.take (k+1)) m=(within (xs.take k) m && decide (0≤xs[k]?.getD 0∧xs[k]?.getD 0≤m)):=by
 unfold within
 rw [List.take_succ_eq_append_getElem hk,List.all_append]
 simp [List.getElem?_eq_getElem hk]
theorem within_no (xs:List Int) (k:Nat) (m:Int) (hk:k<xs.length) (h: ¬(0≤xs[k]?.getD 0∧xs[k]?.getD 0≤m)):within xs m=false:=by
 unfold within
 rw [List.all_eq_false]
 refine ⟨xs[k],List.getElem_mem hk,?_⟩
 simpa [List.getElem?_eq_getElem hk] using h
theorem within_at {xs:List Int} {m:Int} (h:within xs m=true) (k:Nat) (hk:k<xs.length):0≤xs[k]?.getD 0∧xs[k]?.getD 0≤m:=by
 unfold within at h
 have:=List.all_eq_true.1 h xs[k] (List.getElem_mem hk)
 simpa [List.getElem?_eq_getElem hk] using this
theorem picOk_no1 {W H:Int} {xs:List Int} {m:Int} (h:sizeOk W H=false):picOk W H xs m=false:=by unfold picOk;simp [h]
theorem picOk_no2 {W H:Int} {xs:List Int} {m:Int} {n:Nat} (hn:xs.length=n) (h: ¬(n:Int)=W*H):picOk W H xs m=false:=by unfold picOk;rw [hn];simp [h]
theorem picOk_in {W H:Int} {xs:List Int} {m:Int} {n:Nat} (hn:xs.length=n) (h1:sizeOk W H=true) (h:(n:Int)=W*H):picOk W H xs m=within xs m:=by unfold picOk;rw [hn];simp [h,h1]
theorem picOk_bd {W H:Int} {xs:List Int} {m:Int} {n:Nat} (hn:xs.length=n) (h:picOk W H xs m=true):sizeOk W H=true∧(n:Int)=W*H∧within xs m=true:=by
 unfold picOk at h
 simp only [Bool.and_eq_true,decide_eq_true_eq] at h
 exact ⟨h.1,by rw [←hn];exact h.2.1,h.2.2⟩
def gen (n:Nat) (f:Nat→Int):List Int:=(List.range n).map f
theorem gen_len (n:Nat) (f:Nat→Int):(gen n f).length=n:=by simp [gen]
theorem gen_get (n:Nat) (f:Nat→Int) (k:Nat) (h:k<n):(gen n f).getD k 0=f k:=by simp [gen,List.getD,h]
theorem gen_ext (n:Nat) (f:Nat→Int) (ys:List Int) (hl:ys.length=n) (h: ∀k,k<n→ys.getD k 0=f k):ys=gen n f:=by
 apply List.ext_getElem?
 intro i
 by_cases hi:i<n
 · have:=h i hi
   simp only [List.getD,List.getElem?_eq_getElem (show i<ys.length by omega),Option.getD_some] at this
   rw [List.getElem?_eq_getElem (show i<ys.length by omega),this]
   simp [gen,hi]
 · rw [List.getElem?_eq_none (by omega),List.getElem?_eq_none (by simp [gen];omega)]
def isum:List Int→Int
 | []=>0
 | x::xs=>x+isum xs
theorem isum_append (a b:List Int):isum (a++b)=isum a+isum b:=by
 induction a with
 | nil=>simp [isum]
 | cons x a ih=>simp [isum,ih];omega
theorem isum_snoc (xs:List Int) (k:Nat) (h:k<xs.length):isum (xs.take (k+1))=isum (xs.take k)+xs[k]?.getD 0:=by
 rw [List.take_succ_eq_append_getElem h,isum_append]
 simp [isum,h]
theorem isum_take_bd {xs:List Int} (h:within xs 255=true) (k:Nat):0≤isum (xs.take k)∧isum (xs.take k)≤255*k:=by
 induction k with
 | zero=>simp [isum]
 | succ k ih=>
   by_cases hk:k<xs.length
   · have:=within_at h k hk
     rw [isum_snoc xs k hk]
     omega
   · rw [List.take_of_length_le (by omega)] at ih⊢
     omega
def icount (v:Int) (xs:List Int):Nat:=(xs.filter (fun x=>x==v)).length
theorem icount_yes (v:Int) (xs:List Int) (k:Nat) (h:k<xs.length) (e:xs[k]?.getD 0=v):icount v (xs.take (k+1))=icount v (xs.take k)+1:=by
 simp only [List.getElem?_eq_getElem h,Option.getD_some] at e
 unfold icount
 rw [List.take_succ_eq_append_getElem h,List.filter_append,List.length_append,e]
 simp
theorem icount_no (v:Int) (xs:List Int) (k:Nat) (h:k<xs.length) (e: ¬xs[k]?.getD 0=v):icount v (xs.take (k+1))=icount v (xs.take k):=by
 simp only [List.getElem?_eq_getElem h,Option.getD_some] at e
 unfold icount
 rw [List.take_succ_eq_append_getElem h,List.filter_append,List.length_append]
 simp [e]
theorem icount_take_bd (v:Int) (xs:List Int) (k:Nat):icount v (xs.take k)≤k:=by
 unfold icount
 have:=List.length_filter_le (fun x=>x==v) (xs.take k)
 simp at this⊢
 omega
structure Pic where
 W:Int
 H:Int
 ink:List Int
def noPic:Pic:=⟨0,0,[]⟩
def flatF (W H ink:Int):Pic × Bool:=if sizeOk W H=true∧0≤ink∧ink≤255 then (⟨W,H,List.replicate (W*H).toNat ink⟩,true) else (noPic,false)
def rampF (W H:Int):Pic × Bool:=if sizeOk W H=true then (⟨W,H,gen (W*H).toNat (fun i=>if 1<W then (i:Int) % W*255/(W - 1) else 0)⟩,true) else (noPic,false)
def sumF (W H:Int) (xs:List Int):Int:=if picOk W H xs 255=true then isum xs else 0
def mirrorF (W H:Int) (xs:List Int):Pic:=if picOk W H xs 255=true then ⟨W,H,gen (W*H).toNat (fun i=>xs.getD ((i:Int)/W*W+W - 1 - (i:Int) % W).toNat 0)⟩ else noPic
def pairOk (W H:Int) (xs:List Int) (W' H':Int) (ys:List Int):Bool:=picOk W H xs 255 && (picOk W' H' ys 255 && decide (W=W'∧H=H'))
def PicOut (w:World) (R:Pic) (e:Ending) (w':World):Prop:=
 ∃a n c,e= .returned (.agg #[.int .i64 R.W, .int .i64 R.H, .slice a n c])∧OwnA w' w.heap.size a n c R.ink∧n≤1048576∧Go.RowKit.Below w.heap.size w w'
def PicOut2 (w:World) (R:Pic × Bool) (e:Ending) (w':World):Prop:=
 ∃a n c,e= .returned (.tuple #[.agg #[.int .i64 R.1.W, .int .i64 R.1.H, .slice a n c], .bool R.2])∧OwnA w' w.heap.size a n c R.1.ink∧n≤1048576∧Go.RowKit.Below w.heap.size w w'
end Go.Proofs.YtanccoopbgamdaaGreatDoor
namespace Go.Proofs.YtanccoopbgamdaaGreatDoor
open Go.RowKit
set_option linter.unusedVariables false
set_option linter.unusedSimpArgs false
structure PV where
 W:Int
 H:Int
 a:Option Addr
 n:Nat
 c:Nat
 ink:List Int
def PV.pic (p:PV):Pic:=⟨p.W,p.H,p.ink⟩
def PV.val (p:PV):Value:= .agg #[.int .i64 p.W, .int .i64 p.H, .slice p.a p.n p.c]
def PV.cells (p:PV):List Value:=[.int .i64 p.W, .int .i64 p.H, .slice p.a p.n p.c]
def noV:PV:=⟨0,0,none,0,0,[]⟩
def pv (L:List PV) (k:Nat):PV:=L.getD k noV
def flatV (L:List PV):List Value:=L.flatMap PV.cells
theorem flatV_len (L:List PV):(flatV L).length=L.length*3:=by
 induction L with
 | nil=>rfl
 | cons p r ih=>unfold flatV at ih⊢;simp only [List.flatMap_cons,List.length_append,ih];simp [PV.cells];omega
theorem flatV_at: ∀(L:List PV) (k:Nat),k<L.length→(flatV L)[k*3]? =some (.int .i64 (pv L k).W)∧(flatV L)[k*3+1]? =some (.int .i64 (pv L k).H)∧(flatV L)[k*3+2]? =some (.slice (pv L k).a (pv L k).n (pv L k).c)
 | [],k,h=>by simp at h
 | p::r,0,h=>by simp [flatV,PV.cells,pv]
 | p::r,k+1,h=>by
   have ih:=flatV_at r k (by simpa using h)
   have e1:(k+1)*3=k*3+1+1+1:=by omega
   have e2:flatV (p::r)= .int .i64 p.W:: .int .i64 p.H:: .slice p.a p.n p.c::flatV r:=by simp [flatV,PV.cells]
   rw [e2,e1]
   simpa [pv] using ih
theorem pv_snoc_lt {L:List PV} {p:PV} {k:Nat} (h:k<L.length):pv (L++ [p]) k=pv L k:=by
 unfold pv;simp [List.getD,List.getElem?_append_left h]
theorem pv_snoc {L:List PV} {p:PV}:pv (L++ [p]) L.length=p:=by
 unfold pv;simp [List.getD]
theorem pv_set_eq {L:List PV} {p:PV} {k:Nat} (h:k<L.length):pv (L.set k p) k=p:=by
 unfold pv;simp [List.getD,List.getElem?_set,h]
theorem pv_set_ne {L:List PV} {p:PV} {k j:Nat} (h:k≠j):pv (L.set k p) j=pv L j:=by
 unfold pv;simp [List.getD,List.getElem?_set,h]
def RdV (w:World) (ad:Option Addr) (L:List PV):Prop:=
 ∀k,k<L.length→ ∃b off,ad=some ⟨b,off,none⟩∧b<w.heap.size∧w.cell? ⟨b,off+k*3,none⟩=some (.int .i64 (pv L k).W)∧w.cell? ⟨b,off+k*3+1,none⟩=some (.int .i64 (pv L k).H)∧w.cell? ⟨b,off+k*3+2,none⟩=some (.slice (pv L k).a (pv L k).n (pv L k).c)∧(pv L k).ink.length=(pv L k).n∧Rd w (pv L k).a (pv L k).ink
namespace RdV
variable {w w' : World} {ad : Option Addr} {L : List PV}
theorem nil (w:World) (ad:Option Addr):RdV w ad []:=fun _ hk=>by simp at hk
theorem below (h:RdV w ad L) (hb:Below w.heap.size w w'):RdV w' ad L:=fun k hk=>by
 obtain ⟨b,off,h1,h2,h3,h4,h5,h6,h7⟩:=h k hk
 exact ⟨b,off,h1,Nat.lt_of_lt_of_le h2 hb.size,(hb.cell (p:=⟨b,off+k*3,none⟩) h2).trans h3,(hb.cell (p:=⟨b,off+k*3+1,none⟩) h2).trans h4,(hb.cell (p:=⟨b,off+k*3+2,none⟩) h2).trans h5,h6,h7.below hb⟩
theorem alloc (h:RdV w ad L) (o:Obj):RdV (w.alloc o) ad L:=h.below (Joins.below_alloc1 w o)
theorem drew (h:RdV w ad L):RdV w.drew ad L:=h.below (Below.refl _ _).drew
theorem cellsAt (h:RdV w ad L) {k:Nat} (hk:k<L.length): ∃b off,ad=some ⟨b,off,none⟩∧b<w.heap.size∧w.cell? ⟨b,off+k*3,none⟩=some (.int .i64 (pv L k).W)∧w.cell? ⟨b,off+k*3+1,none⟩=some (.int .i64 (pv L k).H)∧w.cell? ⟨b,off+k*3+2,none⟩=some (.slice (pv L k).a (pv L k).n (pv L k).c):=by
 obtain ⟨b,off,h1,h2,h3,h4,h5,_⟩:=h k hk
 exact ⟨b,off,h1,h2,h3,h4,h5⟩
theorem len (h:RdV w ad L) {k:Nat} (hk:k<L.length):(pv L k).ink.length=(pv L k).n:=by
 obtain ⟨b,off,_,_,_,_,_,h6,_⟩:=h k hk
 exact h6
theorem rd (h:RdV w ad L) {k:Nat} (hk:k<L.length):Rd w (pv L k).a (pv L k).ink:=by
 obtain ⟨b,off,_,_,_,_,_,_,h7⟩:=h k hk
 exact h7
end RdV
def RowV (w:World) (g cap:Nat) (L:List PV):Prop:=
 ∃cur,w.heap[g]? =some (.cells cur 27 (0,0))∧L.length≤cap∧cap≤maxLen∧cur.size=cap*3∧cur.toList.take (L.length*3)=flatV L
namespace RowV
variable {w w' : World} {g cap : Nat} {L : List PV}
theorem lt (h:RowV w g cap L):g<w.heap.size:=by
 obtain ⟨cur,hg,_⟩:=h
 exact (Array.getElem?_eq_some_iff.1 hg).1
theorem cellAt (h:RowV w g cap L) {j:Nat} (hj:j<L.length*3):w.cell? ⟨g,j,none⟩=(flatV L)[j]?:=by
 obtain ⟨cur,hg,_,_,_,ht⟩:=h
 rw [cell_of_row w g j cur 27 (0,0) hg,←ht,List.getElem?_take,if_pos hj]
 simp
theorem frozen (h:RowV w g cap L) (j:Nat):w.frozen? ⟨g,j,none⟩=false:=by
 obtain ⟨cur,hg,_⟩:=h
 exact frozen_of_row w g j cur 27 hg
theorem of_block (h:RowV w g cap L) (hb:w'.heap[g]? =w.heap[g]?):RowV w' g cap L:=by
 obtain ⟨cur,hg,r⟩:=h
 exact ⟨cur,hb.trans hg,r⟩
theorem below (h:RowV w g cap L) (hb:Below w.heap.size w w'):RowV w' g cap L:=h.of_block (hb.block g h.lt)
theorem other (h:RowV w g cap L) {a:Addr} (ha:a.block≠g) (u:Value):RowV (w.setCell a u) g cap L:=h.of_block (Below.heap_setCell w a u g (by omega))
theorem setAt (h:RowV w g cap L) {k j:Nat} {p:PV} (hk:k<L.length) (v:Value) (hf:(flatV L).set j v=flatV (L.set k p)):RowV (w.setCell ⟨g,j,none⟩ v) g cap (L.set k p):=by
 obtain ⟨cur,hg,h1,h2,h3,ht⟩:=h
 refine ⟨cur.setIfInBounds j v,heap_setCell_same w g j cur _ _ hg,by simpa using h1,h2,by simpa using h3,?_⟩
 rw [List.length_set,Array.toList_setIfInBounds,←hf,←ht,List.take_set]
end RowV
theorem flat_set0: ∀(L:List PV) (k:Nat) (x:Int),k<L.length→(flatV L).set (k*3) (.int .i64 x)=flatV (L.set k {pv L k with W:=x})
 | [],k,x,h=>by simp at h
 | p::r,0,x,h=>by simp [flatV,PV.cells,pv]
 | p::r,k+1,x,h=>by
   have ih:=flat_set0 r k x (by simpa using h)
   have e1:(k+1)*3=k*3+1+1+1:=by omega
   have e2: ∀(q:PV) (r:List PV),flatV (q::r)= .int .i64 q.W:: .int .i64 q.H:: .slice q.a q.n q.c::flatV r:=fun q r=>by simp [flatV,PV.cells]
   rw [e1,e2]
   simp only [List.set_cons_succ,ih]
   rw [e2]
   simp [pv]
theorem flat_set1: ∀(L:List PV) (k:Nat) (x:Int),k<L.length→(flatV L).set (k*3+1) (.int .i64 x)=flatV (L.set k {pv L k with H:=x})
 | [],k,x,h=>by simp at h
 | p::r,0,x,h=>by simp [flatV,PV.cells,pv]
 | p::r,k+1,x,h=>by
   have ih:=flat_set1 r k x (by simpa using h)
   have e1:(k+1)*3+1=k*3+1+1+1+1:=by omega
   have e2: ∀(q:PV) (r:List PV),flatV (q::r)= .int .i64 q.W:: .int .i64 q.H:: .slice q.a q.n q.c::flatV r:=fun q r=>by simp [flatV,PV.cells]
   rw [e1,e2]
   simp only [List.set_cons_succ]
   rw [ih,e2]
   simp [pv]
structure OwnV (w:World) (B:Nat) (ad:Option Addr) (n cap:Nat) (L:List PV):Prop where
 len:L.length=n
 row:(ad=none∧n=0∧cap=0)∨ ∃g,ad=some ⟨g,0,none⟩∧B≤g∧RowV w g cap L
 ink: ∀k,k<n→OwnA w B (pv L k).a (pv L k).n (pv L k).c (pv L k).ink
 off: ∀k b,k<n→blockOf (pv L k).a=some b→blockOf ad≠some b
 apart: ∀j k b,j<k→k<n→blockOf (pv L j).a=some b→blockOf (pv L k).a≠some b
namespace OwnV
variable {w w' : World} {B n cap : Nat} {ad : Option Addr} {L : List PV}
theorem nil (w:World) (B:Nat):OwnV w B none 0 0 []:=⟨rfl, .inl ⟨rfl,rfl,rfl⟩,fun k hk=>by omega,fun k b hk=>by omega,fun j k b h1 hk=>by omega⟩
theorem rd (h:OwnV w B ad n cap L):RdV w ad L:=fun k hk=>by
 have hk':k<n:=by rw [←h.len];exact hk
 rcases h.row with ⟨_,h0,_⟩ | ⟨g,hg,_,hr⟩
 · omega
 · obtain ⟨e0,e1,e2⟩:=flatV_at L k hk
   refine ⟨g,0,hg,hr.lt,?_,?_,?_,(h.ink k hk').len,(h.ink k hk').rd⟩
   · rw [Nat.zero_add,hr.cellAt (by omega),e0]
   · rw [Nat.zero_add,hr.cellAt (by omega),e1]
   · rw [Nat.zero_add,hr.cellAt (by omega),e2]
theorem below (h:OwnV w B ad n cap L) (hb:Below w.heap.size w w'):OwnV w' B ad n cap L:=
 ⟨h.len,by
   rcases h.row with h0 | ⟨g,hg,hB,hr⟩
   · exact .inl h0
   · exact .inr ⟨g,hg,hB,hr.below hb⟩,fun k hk=>(h.ink k hk).below' hb,h.off,h.apart⟩
theorem alloc (h:OwnV w B ad n cap L) (o:Obj):OwnV (w.alloc o) B ad n cap L:=h.below (Joins.below_alloc1 w o)
theorem drew (h:OwnV w B ad n cap L):OwnV w.drew B ad n cap L:=h.below (Below.refl _ _).drew
theorem mono {B':Nat} (h:OwnV w B ad n cap L) (hB:B'≤B):OwnV w B' ad n cap L:=
 ⟨h.len,by
   rcases h.row with h0 | ⟨g,hg,h1,hr⟩
   · exact .inl h0
   · exact .inr ⟨g,hg,by omega,hr⟩,fun k hk=>(h.ink k hk).mono hB,h.off,h.apart⟩
def blocks (ad:Option Addr) (L:List PV) (i:Nat):Prop:=blockOf ad=some i∨ ∃k,k<L.length∧blockOf (pv L k).a=some i
theorem bd (h:OwnV w B ad n cap L): ∀i,blocks ad L i→B≤i∧i<w.heap.size:=by
 rintro i (hi | ⟨k,hk,hi⟩)
 · rcases h.row with ⟨h0,_⟩ | ⟨g,hg,h1,hr⟩
   · rw [h0] at hi;cases hi
   · rw [hg] at hi
     simp only [blockOf,Option.some.injEq] at hi
     subst hi
     exact ⟨h1,hr.lt⟩
 · exact (h.ink k (by rw [←h.len];exact hk)).bd i hi
end OwnV
end Go.Proofs.YtanccoopbgamdaaGreatDoor
