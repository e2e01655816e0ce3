/-
  Contracts and plain facts on which the theorem of this claim rests, text 1.
-/
import Derived.BigGuardPart
import Derived.BigQuiet
import Derived.Deep.QuietTactic
import Derived.Lib.Hide
import Derived.Lib.SmallJoins
import Derived.Test.YtanccoopbgamdaaGreatDoorRows
import Derived.WalkKit
import Derived.WalkLawsBesides
import Derived.WalkSpells
namespace Go.Proofs.YtanccoopbgamdaaGreatDoor
open Go.RowKit
set_option linter.unusedVariables false
set_option linter.unusedSimpArgs false
theorem ret_bool {a b:Bool} (h:a=b):Ending.returned (.bool a)= .returned (.bool b):=by rw [h]
theorem ret_int {k:IntKind} {a b:Int} (h:a=b):Ending.returned (.int k a)= .returned (.int k b):=by rw [h]
def Rd (w:World) (ad:Option Addr) (xs:List Int):Prop:=
 ∀k,k<xs.length→ ∃b off,ad=some ⟨b,off,none⟩∧b<w.heap.size∧w.cell? ⟨b,off+k,none⟩=some (.int .i64 (xs.getD k 0))
theorem Rd.at {w:World} {ad:Option Addr} {xs:List Int} (h:Rd w ad xs) (hx:0<xs.length):
   ∃b off,ad=some ⟨b,off,none⟩∧b<w.heap.size∧ ∀k,k<xs.length→w.cell? ⟨b,off+k,none⟩=some (.int .i64 (xs.getD k 0)):=by
 obtain ⟨b,off,hb,hl,_⟩:=h 0 hx
 refine ⟨b,off,hb,hl,fun k hk=>?_⟩
 obtain ⟨b',off',hb',_,hc⟩:=h k hk
 rw [hb] at hb'
 obtain ⟨rfl,rfl⟩:b=b'∧off=off':=by
   have:=Option.some.inj hb'
   simp only [Addr.mk.injEq] at this
   exact ⟨this.1,this.2.1⟩
 exact hc
theorem Rd.below {w w':World} {ad:Option Addr} {xs:List Int} (h:Rd w ad xs) (hb:Below w.heap.size w w'):Rd w' ad xs:=by
 intro k hk
 obtain ⟨b,off,h1,h2,h3⟩:=h k hk
 exact ⟨b,off,h1,Nat.lt_of_lt_of_le h2 hb.size,(hb.cell (p:=⟨b,off+k,none⟩) h2).trans h3⟩
theorem Rd.of_heap {w w':World} {ad:Option Addr} {xs:List Int} (h:Rd w ad xs) (he:w'.heap=w.heap):Rd w' ad xs:=by
 intro k hk
 obtain ⟨b,off,h1,h2,h3⟩:=h k hk
 exact ⟨b,off,h1,by rw [he];exact h2,(World.cell?_of_block (w:=w) (by rw [he])).trans h3⟩
theorem Rd.alloc {w:World} {ad:Option Addr} {xs:List Int} (h:Rd w ad xs) (o:Obj):Rd (w.alloc o) ad xs:=h.below (Joins.below_alloc1 w o)
theorem Rd.drew {w:World} {ad:Option Addr} {xs:List Int} (h:Rd w ad xs):Rd w.drew ad xs:=h.of_heap rfl
theorem Rd.nil (w:World) (ad:Option Addr):Rd w ad []:=fun _ hk=>by simp at hk
def Own (w:World) (g n cap:Nat) (xs:List Int):Prop:=
 xs.length=n∧ ∃cur,w.heap[g]? =some (.cells cur 3 (0,0))∧n≤cap∧cap≤maxLen∧cur.size=cap∧cur.toList.take n=xs.map (Value.int .i64)
namespace Own
variable {w w' : World} {g n cap : Nat} {xs : List Int}
theorem len (h:Own w g n cap xs):xs.length=n:=h.1
theorem lt (h:Own w g n cap xs):g<w.heap.size:=by
 obtain ⟨_,cur,hg,_⟩:=h
 exact (Array.getElem?_eq_some_iff.1 hg).1
theorem cell (h:Own w g n cap xs) {j:Nat} (hj:j<n):w.cell? ⟨g,j,none⟩=some (.int .i64 (xs.getD j 0)):=by
 obtain ⟨hl,cur,hg,_,_,_,ht⟩:=h
 rw [cell_of_row w g j cur 3 (0,0) hg]
 have h2:(cur.toList.take n)[j]? =(xs.map (Value.int .i64))[j]?:=by rw [ht]
 rw [List.getElem?_take,if_pos hj] at h2
 simp only [Array.getElem?_toList] at h2
 rw [h2]
 simp [List.getD,List.getElem?_eq_getElem (show j<xs.length by omega)]
theorem frozen (h:Own w g n cap xs) (j:Nat):w.frozen? ⟨g,j,none⟩=false:=by
 obtain ⟨_,cur,hg,_⟩:=h
 exact frozen_of_row w g j cur 3 hg
theorem set (h:Own w g n cap xs) (j:Nat) (v:Int):Own (w.setCell ⟨g,j,none⟩ (.int .i64 v)) g n cap (xs.set j v):=by
 obtain ⟨hl,cur,hg,h1,h2,h3,ht⟩:=h
 refine ⟨by simpa using hl,cur.setIfInBounds j (.int .i64 v),heap_setCell_same w g j cur _ _ hg,h1,h2,by simpa using h3,?_⟩
 rw [Array.toList_setIfInBounds,List.map_set,←ht,List.take_set]
theorem of_block (h:Own w g n cap xs) (hb:w'.heap[g]? =w.heap[g]?):Own w' g n cap xs:=by
 obtain ⟨hl,cur,hg,r⟩:=h
 exact ⟨hl,cur,hb.trans hg,r⟩
theorem below {B:Nat} (h:Own w g n cap xs) (hb:Below B w w') (hg:g<B):Own w' g n cap xs:=h.of_block (hb.block g hg)
theorem grown {row:Option Nat} (h:Own w g n cap xs) (hb:w.grownBy w' row) (hg:some g≠row):Own w' g n cap xs:=h.of_block (hb.block g h.lt hg)
theorem alloc (h:Own w g n cap xs) (o:Obj):Own (w.alloc o) g n cap xs:=h.of_block (Below.heap_alloc w o g h.lt)
theorem drewN (h:Own w g n cap xs) (m:Nat):Own (w.drewN m) g n cap xs:=h.of_block rfl
theorem other (h:Own w g n cap xs) {a:Addr} (ha:a.block≠g) (u:Value):Own (w.setCell a u) g n cap xs:=h.of_block (Below.heap_setCell w a u g (by omega))
theorem rd (h:Own w g n cap xs):Rd w (some ⟨g,0,none⟩) xs:=fun k hk=>⟨g,0,rfl,h.lt,by rw [Nat.zero_add];exact h.cell (by have:=h.len;omega)⟩
end Own
def RowM (M:Array Value) (n:Nat) (xs:List Int):Prop:=xs.length=n∧n≤maxLen∧M.size=n∧M.toList=xs.map (Value.int .i64)
theorem RowM.zero (n:Nat) (hn:n≤maxLen):RowM (madeCells #[.int .i64 0] n) n (List.replicate n 0):=
 ⟨by simp,hn,size_madeCells _ _,by rw [toList_madeCells_one];simp⟩
theorem RowM.own {M:Array Value} {n:Nat} {xs:List Int} (h:RowM M n xs) (w:World):Own (w.alloc (.cells M 3)) w.heap.size n n xs:=
 ⟨h.1,M,heap_alloc_new w _,Nat.le_refl _,h.2.1,h.2.2.1,by rw [h.2.2.2,List.take_of_length_le (by simp [h.1])]⟩
theorem RowM.own' {M:Array Value} {n g:Nat} {xs:List Int} (h:RowM M n xs) (w:World) (hg:g=w.heap.size):Own (w.alloc (.cells M 3)) g n n xs:=by
 subst hg;exact h.own w
def OwnA (w:World) (B:Nat) (ad:Option Addr) (n cap:Nat) (xs:List Int):Prop:=
 (ad=none∧n=0∧cap=0∧xs=[])∨ ∃g,ad=some ⟨g,0,none⟩∧B≤g∧Own w g n cap xs
def blockOf:Option Addr→Option Nat
 | some a=>some a.block
 | none=>none
namespace OwnA
variable {w w' : World} {B n cap : Nat} {ad : Option Addr} {xs : List Int}
theorem mk {g:Nat} (h:Own w g n cap xs) (hB:B≤g):OwnA w B (some ⟨g,0,none⟩) n cap xs:= .inr ⟨g,rfl,hB,h⟩
theorem none (w:World) (B:Nat):OwnA w B none 0 0 []:= .inl ⟨rfl,rfl,rfl,rfl⟩
theorem len (h:OwnA w B ad n cap xs):xs.length=n:=by
 rcases h with ⟨_,rfl,_,rfl⟩ | ⟨g,_,_,h⟩
 · rfl
 · exact h.len
theorem rd (h:OwnA w B ad n cap xs):Rd w ad xs:=by
 rcases h with ⟨_,_,_,rfl⟩ | ⟨g,rfl,_,h⟩
 · exact Rd.nil _ _
 · exact h.rd
theorem below {B':Nat} (h:OwnA w B ad n cap xs) (hb:Below B' w w') (hg:w.heap.size≤B'):OwnA w' B ad n cap xs:=by
 rcases h with h | ⟨g,h1,h2,h⟩
 · exact .inl h
 · exact .inr ⟨g,h1,h2,h.below hb (by have:=h.lt;omega)⟩
theorem grown {row:Option Nat} (h:OwnA w B ad n cap xs) (hb:w.grownBy w' row) (hg: ∀k,row=some k→k<B):OwnA w' B ad n cap xs:=by
 rcases h with h | ⟨g,h1,h2,h⟩
 · exact .inl h
 · exact .inr ⟨g,h1,h2,h.grown hb (fun e=>by have:=hg g e.symm;omega)⟩
theorem grown2 {row:Option Nat} (h:OwnA w B ad n cap xs) (hb:w.grownBy w' row) (hg: ∀k,row=some k→w.heap.size≤k∨blockOf ad≠some k):OwnA w' B ad n cap xs:=by
 rcases h with h | ⟨g,h1,h2,h⟩
 · exact .inl h
 · refine .inr ⟨g,h1,h2,h.grown hb (fun e=>?_)⟩
   have hl:=h.lt
   rcases hg g e.symm with h3 | h3
   · omega
   · subst h1;simp [blockOf] at h3
theorem drewN (h:OwnA w B ad n cap xs) (m:Nat):OwnA (w.drewN m) B ad n cap xs:=by
 rcases h with h | ⟨g,h1,h2,h⟩
 · exact .inl h
 · exact .inr ⟨g,h1,h2,h.drewN m⟩
theorem drew (h:OwnA w B ad n cap xs):OwnA w.drew B ad n cap xs:=h.drewN 1
theorem below' (h:OwnA w B ad n cap xs) (hb:Below w.heap.size w w'):OwnA w' B ad n cap xs:=h.below hb (Nat.le_refl _)
theorem alloc (h:OwnA w B ad n cap xs) (o:Obj):OwnA (w.alloc o) B ad n cap xs:=h.below (Joins.below_alloc1 w o) (Nat.le_refl _)
theorem grownS {o:Option Addr} (h:OwnA w B ad n cap xs) (hb:w.grownBy w' (blockOf o)) (hs: ∀b,blockOf o=some b→blockOf ad≠some b):OwnA w' B ad n cap xs:=
 h.grown2 hb (fun k hk=> .inr (hs k hk))
theorem bd (h:OwnA w B ad n cap xs): ∀b,blockOf ad=some b→B≤b∧b<w.heap.size:=by
 intro b hb
 rcases h with ⟨rfl,_⟩ | ⟨g,rfl,h2,h⟩
 · simp [blockOf] at hb
 · simp only [blockOf,Option.some.injEq] at hb
   subst hb
   exact ⟨h2,h.lt⟩
theorem mono {B':Nat} (h:OwnA w B ad n cap xs) (hB:B'≤B):OwnA w B' ad n cap xs:=by
 rcases h with h | ⟨g,h1,h2,h⟩
 · exact .inl h
 · exact .inr ⟨g,h1,by omega,h⟩
end OwnA
theorem bAlloc {w w1:World} (h:Below w.heap.size w w1) (o:Obj):Below w.heap.size w (w1.alloc o):=h.alloc h.size o
theorem bTrans {w w1 w2:World} (h:Below w.heap.size w w1) (hb:Below w1.heap.size w1 w2):Below w.heap.size w w2:=h.trans (hb.mono h.size)
def Blk (w:World) (g T:Nat) (cs:Array Value):Prop:=w.heap[g]? =some (.cells cs T (0,0))
namespace Blk
variable {w w' : World} {g T : Nat} {cs : Array Value}
theorem lt (h:Blk w g T cs):g<w.heap.size:=(Array.getElem?_eq_some_iff.1 h).1
theorem cell (h:Blk w g T cs) (i:Nat):w.cell? ⟨g,i,none⟩=cs[i]?:=Joins.cell_of_block h i
theorem frozen (h:Blk w g T cs) (i:Nat):w.frozen? ⟨g,i,none⟩=false:=Joins.unfrozen_of_block h i
theorem of_block (h:Blk w g T cs) (hb:w'.heap[g]? =w.heap[g]?):Blk w' g T cs:=hb.trans h
theorem below {B:Nat} (h:Blk w g T cs) (hb:Below B w w') (hg:g<B):Blk w' g T cs:=h.of_block (hb.block g hg)
theorem below' (h:Blk w g T cs) (hb:Below w.heap.size w w'):Blk w' g T cs:=h.below hb h.lt
theorem alloc (h:Blk w g T cs) (o:Obj):Blk (w.alloc o) g T cs:=h.of_block (Below.heap_alloc w o g h.lt)
theorem drewN (h:Blk w g T cs) (m:Nat):Blk (w.drewN m) g T cs:=h.of_block rfl
theorem grown {row:Option Nat} (h:Blk w g T cs) (hb:w.grownBy w' row) (hg:some g≠row):Blk w' g T cs:=h.of_block (hb.block g h.lt hg)
theorem drew (h:Blk w g T cs):Blk w.drew g T cs:=h.of_block rfl
theorem grownS {o:Option Addr} (h:Blk w g T cs) (hb:w.grownBy w' (blockOf o)) (hs: ∀b,blockOf o=some b→b≠g):Blk w' g T cs:=
 h.grown hb (fun e=>hs g e.symm rfl)
theorem other (h:Blk w g T cs) {a:Addr} (ha:a.block≠g) (u:Value):Blk (w.setCell a u) g T cs:=h.of_block (Below.heap_setCell w a u g (by omega))
theorem set (h:Blk w g T cs) (i:Nat) (u:Value):Blk (w.setCell ⟨g,i,none⟩ u) g T (cs.setIfInBounds i u):=Joins.block_setCell h u
theorem new (w:World) (T:Nat) (cs:Array Value):Blk (w.alloc (.cells cs T)) w.heap.size T cs:=heap_alloc_new w _
theorem new' {w:World} {g:Nat} (T:Nat) (cs:Array Value) (h:g=w.heap.size):Blk (w.alloc (.cells cs T)) g T cs:=by subst h;exact new w T cs
theorem c3 {a b c:Value} (h:Blk w g T #[a,b,c]):g<w.heap.size∧w.cell? ⟨g,0,none⟩=some a∧w.cell? ⟨g,1,none⟩=some b∧w.cell? ⟨g,2,none⟩=some c:=
 ⟨h.lt,by rw [h.cell];rfl,by rw [h.cell];rfl,by rw [h.cell];rfl⟩
theorem f3 (h:Blk w g T cs):w.frozen? ⟨g,0,none⟩=false∧w.frozen? ⟨g,1,none⟩=false∧w.frozen? ⟨g,2,none⟩=false:=⟨h.frozen 0,h.frozen 1,h.frozen 2⟩
end Blk
theorem grown_below {w w':World} {row:Option Nat} {B:Nat} (hg:w.grownBy w' row) (hB:B≤w.heap.size) (hr: ∀k,row=some k→B≤k):Below B w w':=(Below.refl B w).grown hg hB hr
theorem grown_trans {a b c:World} {row:Option Nat} (h:a.grownBy b row) (k:b.grownBy c row):a.grownBy c row:=
 ⟨k.os.trans h.os,k.tape.trans h.tape,k.output.trans h.output,Nat.le_trans h.size k.size,fun i hi hr=>(k.block i (Nat.lt_of_lt_of_le hi h.size) hr).trans (h.block i hi hr)⟩
theorem grown_refl (w:World) (row:Option Nat):w.grownBy w row:=World.grownBy.refl w row
theorem grown_drewN {a b:World} {row:Option Nat} (h:a.grownBy b row) (n:Nat):a.grownBy (b.drewN n) row:=⟨h.os,h.tape,h.output,h.size,h.block⟩
theorem grown_set {a b:World} {g j:Nat} (h:a.grownBy b (some g)) (u:Value):a.grownBy (b.setCell ⟨g,j,none⟩ u) (some g):=
 grown_trans h ⟨rfl,rfl,rfl,by simp [World.setCell],fun k _ hk=>Below.heap_setCell b _ u k (fun e=>hk (by simp [e]))⟩
theorem take_succ_eq {xs ys:List Int} {k:Nat} (h1:k<xs.length) (h2:k<ys.length) (h:xs.take k=ys.take k) (he:xs.getD k 0=ys.getD k 0):xs.take (k+1)=ys.take (k+1):=by
 rw [List.take_succ_eq_append_getElem h1,List.take_succ_eq_append_getElem h2,h]
 simp only [List.getD,List.getElem?_eq_getElem h1,List.getElem?_eq_getElem h2,Option.getD_some] at he
 rw [he]
theorem draws1 (w:World) (q:Nat): ∃k,w.drewN q=w.drewN k:=⟨q,rfl⟩
theorem draws2 (w:World) (q m:Nat): ∃k,(w.drewN q).drewN m=w.drewN k:=⟨q+m,by simp⟩
def filled (ys xs:List Int) (k:Nat):List Int:=ys.take k++xs.drop k
theorem filled_zero (ys xs:List Int):filled ys xs 0=xs:=by simp [filled]
theorem filled_all (ys xs:List Int) (h:xs.length=ys.length):filled ys xs ys.length=ys:=by rw [filled,List.take_of_length_le (by omega),List.drop_of_length_le (by omega),List.append_nil]
theorem filled_at (ys xs:List Int) (k:Nat) (h1:ys.length=k) (h2:xs.length=k):filled ys xs k=ys:=by rw [filled,List.take_of_length_le (by omega),List.drop_of_length_le (by omega),List.append_nil]
theorem filled_succ (ys xs:List Int) (k:Nat) (v:Int) (hk:k<ys.length) (hx:k<xs.length) (hv:ys.getD k 0=v):(filled ys xs k).set k v=filled ys xs (k+1):=by
 subst hv
 apply List.ext_getElem?
 intro i
 simp only [filled,List.getElem?_set,List.length_append,List.length_take,List.length_drop]
 by_cases h:k=i
 · subst h
   rw [if_pos rfl,if_pos (by omega),List.getElem?_append_left (by simp;omega),List.getElem?_take,if_pos (by omega)]
   simp [List.getD,hk]
 · rw [if_neg h]
   by_cases hi:i<k
   · rw [List.getElem?_append_left (by simp;omega),List.getElem?_append_left (by simp;omega),List.getElem?_take,List.getElem?_take,if_pos hi,if_pos (by omega)]
   · rw [List.getElem?_append_right (by simp;omega),List.getElem?_append_right (by simp;omega),List.getElem?_drop,List.getElem?_drop]
     simp only [List.length_take]
     congr 1;omega
theorem infoInt:(Tryz.prog.info? 3).map (fun i=>(i.zero,i.size,i.bytes))=some (some (.int .i64 0),1,8):=by kernel_rfl
theorem wp_make (w:World) {ops:Array Oper} {rest:List Oper} {o:Oper} {a:Act} {Q:Exit→Act→World→Prop}
   (hg:o.guard=none) (l c:Operand) (hop:o.op=Op.makeSlice 25 l c) (kl kc:IntKind) (L C:Int) (n:Nat) (hl:a.eval l= .int kl L) (hc:a.eval c= .int kc C) (hL:L=(n:Int)) (hC:C=(n:Int)) (hn:n≤17592186044416)
   (hK: ∀M:Array Value,RowM M n (List.replicate n 0)→wpList Tryz.prog ops Q rest (a.put o.dst (.slice (some ⟨w.heap.size,0,none⟩) n n)) (w.alloc (.cells M 3))):
   wpList Tryz.prog ops Q (o::rest) a w:=by
 obtain ⟨i,hi,hz0,hz1,hz2⟩:=info_parts infoInt
 refine wpList_plain hg fun K hK'=>?_
 subst hL
 subst hC
 have hr:=run_make (P:=Tryz.prog) w 25 3 i (.int .i64 0) Tryz.underlying25 hi hz0 kl kc n n (by omega) (Int.le_refl _) (by rw [hz2];omega) (by omega)
 simp only [Int.toNat_natCast,hz1,Nat.mul_one] at hr
 have hm:=RowM.zero n (by unfold maxLen;omega)
 unfold Oper.wp
 simp only [Value.cells] at hr
 simp [execOp,hop,hl,hc,hr,Result.andThen]
 exact hK' _ _ (hK _ hm)
end Go.Proofs.YtanccoopbgamdaaGreatDoor
namespace Go.Proofs.YtanccoopbgamdaaGreatDoor
set_option linter.unusedVariables false
set_option linter.unusedSimpArgs false
def sizeOk (W H:Int):Bool:=decide (1≤W∧W≤64∧1≤H∧H≤64∧W*H≤1024)
def within (xs:List Int) (m:Int):Bool:=xs.all (fun v=>decide (0≤v∧v≤m))
def picOk (W H:Int) (xs:List Int) (m:Int):Bool:=sizeOk W H && (decide ((xs.length:Int)=W*H) && within xs m)
theorem mul_bd (W H:Int) (h1:1≤W) (h2:W≤64) (h3:1≤H) (h4:H≤64):1≤W*H∧W*H≤4096:=by
 constructor
 · have:=Int.mul_le_mul h1 h3 (by omega) (by omega);omega
 · have:=Int.mul_le_mul h2 h4 (by omega) (by omega);omega
theorem sizeOk_in {W H:Int} (h1:1≤W) (h2:W≤64) (h3:1≤H) (h4:H≤64):sizeOk W H=decide (W*H≤1024):=by unfold sizeOk;simp [h1,h2,h3,h4]
theorem sizeOk_out {W H:Int} (c: ¬(1≤W∧W≤64∧1≤H∧H≤64)):sizeOk W H=false:=by
 unfold sizeOk;rw [decide_eq_false_iff_not];exact fun h=>c ⟨h.1,h.2.1,h.2.2.1,h.2.2.2.1⟩
theorem sizeOk_bd {W H:Int} (h:sizeOk W H=true):1≤W∧W≤64∧1≤H∧H≤64∧W*H≤1024∧1≤W*H:=by
 unfold sizeOk at h
 have h:=of_decide_eq_true h
 exact ⟨h.1,h.2.1,h.2.2.1,h.2.2.2.1,h.2.2.2.2,(mul_bd W H h.1 h.2.1 h.2.2.1 h.2.2.2.1).1⟩
theorem within_snoc (xs:List Int) (k:Nat) (m:Int) (hk:k<xs.length):within (xs.take (k+1)) m=(within (xs.take k) m && decide (0≤xs[k]?.getD 0∧xs[k]?.getD 0≤m)):=by
 unfold within
 rw [List.take_succ_eq_append_getElem hk,List.all_append]
 simp [List.getElem?_eq_getElem hk]
theorem within_no (xs:List Int) (k:Nat) (m:Int) (hk:k<xs.length) (h: ¬(0≤xs[k]?.getD 0∧xs[k]?.getD 0≤m)):within xs m=false:=by
 unfold within
 rw [List.all_eq_false]
 refine ⟨xs[k],List.getElem_mem hk,?_⟩
 simpa [List.getElem?_eq_getElem hk] using h
theorem within_at {xs:List Int} {m:Int} (h:within xs m=true) (k:Nat) (hk:k<xs.length):0≤xs[k]?.getD 0∧xs[k]?.getD 0≤m:=by
 unfold within at h
 have:=List.all_eq_true.1 h xs[k] (List.getElem_mem hk)
 simpa [List.getElem?_eq_getElem hk] using this
theorem picOk_no1 {W H:Int} {xs:List Int} {m:Int} (h:sizeOk W H=false):picOk W H xs m=false:=by unfold picOk;simp [h]
theorem picOk_no2 {W H:Int} {xs:List Int} {m:Int} {n:Nat} (hn:xs.length=n) (h: ¬(n:Int)=W*H):picOk W H xs m=false:=by unfold picOk;rw [hn];simp [h]
theorem picOk_in {W H:Int} {xs:List Int} {m:Int} {n:Nat} (hn:xs.length=n) (h1:sizeOk W H=true) (h:(n:Int)=W*H):picOk W H xs m=within xs m:=by unfold picOk;rw [hn];simp [h,h1]
theorem picOk_bd {W H:Int} {xs:List Int} {m:Int} {n:Nat} (hn:xs.length=n) (h:picOk W H xs m=true):sizeOk W H=true∧(n:Int)=W*H∧within xs m=true:=by
 unfold picOk at h
 simp only [Bool.and_eq_true,decide_eq_true_eq] at h
 exact ⟨h.1,by rw [←hn];exact h.2.1,h.2.2⟩
def gen (n:Nat) (f:Nat→Int):List Int:=(List.range n).map f
theorem gen_len (n:Nat) (f:Nat→Int):(gen n f).length=n:=by simp [gen]
theorem gen_get (n:Nat) (f:Nat→Int) (k:Nat) (h:k<n):(gen n f).getD k 0=f k:=by simp [gen,List.getD,h]
theorem gen_ext (n:Nat) (f:Nat→Int) (ys:List Int) (hl:ys.length=n) (h: ∀k,k<n→ys.getD k 0=f k):ys=gen n f:=by
 apply List.ext_getElem?
 intro i
 by_cases hi:i<n
 · have:=h i hi
   simp only [List.getD,List.getElem?_eq_getElem (show i<ys.length by omega),Option.getD_some] at this
   rw [List.getElem?_eq_getElem (show i<ys.length by omega),this]
   simp [gen,hi]
 · rw [List.getElem?_eq_none (by omega),List.getElem?_eq_none (by simp [gen];omega)]
def isum:List Int→Int
 | []=>0
 | x::xs=>x+isum xs
theorem isum_append (a b:List Int):isum (a++b)=isum a+isum b:=by
 induction a with
 | nil=>simp [isum]
 | cons x a ih=>simp [isum,ih];omega
theorem isum_snoc (xs:List Int) (k:Nat) (h:k<xs.length):isum (xs.take (k+1))=isum (xs.take k)+xs[k]?.getD 0:=by
 rw [List.take_succ_eq_append_getElem h,isum_append]
 simp [isum,h]
theorem isum_take_bd {xs:List Int} (h:within xs 255=true) (k:Nat):0≤isum (xs.take k)∧isum (xs.take k)≤255*k:=by
 induction k with
 | zero=>simp [isum]
 | succ k ih=>
   by_cases hk:k<xs.length
   · have:=within_at h k hk
     rw [isum_snoc xs k hk]
     omega
   · rw [List.take_of_length_le (by omega)] at ih⊢
     omega
def icount (v:Int) (xs:List Int):Nat:=(xs.filter (fun x=>x==v)).length
theorem icount_yes (v:Int) (xs:List Int) (k:Nat) (h:k<xs.length) (e:xs[k]?.getD 0=v):icount v (xs.take (k+1))=icount v (xs.take k)+1:=by
 simp only [List.getElem?_eq_getElem h,Option.getD_some] at e
 unfold icount
 rw [List.take_succ_eq_append_getElem h,List.filter_append,List.length_append,e]
 simp
theorem icount_no (v:Int) (xs:List Int) (k:Nat) (h:k<xs.length) (e: ¬xs[k]?.getD 0=v):icount v (xs.take (k+1))=icount v (xs.take k):=by
 simp only [List.getElem?_eq_getElem h,Option.getD_some] at e
 unfold icount
 rw [List.take_succ_eq_append_getElem h,List.filter_append,List.length_append]
 simp [e]
theorem icount_take_bd (v:Int) (xs:List Int) (k:Nat):icount v (xs.take k)≤k:=by
 unfold icount
 have:=List.length_filter_le (fun x=>x==v) (xs.take k)
 simp at this⊢
 omega
structure Pic where
 W:Int
 H:Int
 ink:List Int
def noPic:Pic:=⟨0,0,[]⟩
def flatF (W H ink:Int):Pic × Bool:=if sizeOk W H=true∧0≤ink∧ink≤255 then (⟨W,H,List.replicate (W*H).toNat ink⟩,true) else (noPic,false)
def rampF (W H:Int):Pic × Bool:=if sizeOk W H=true then (⟨W,H,gen (W*H).toNat (fun i=>if 1<W then (i:Int) % W*255/(W - 1) else 0)⟩,true) else (noPic,false)
def sumF (W H:Int) (xs:List Int):Int:=if picOk W H xs 255=true then isum xs else 0
def mirrorF (W H:Int) (xs:List Int):Pic:=if picOk W H xs 255=true then ⟨W,H,gen (W*H).toNat (fun i=>xs.getD ((i:Int)/W*W+W - 1 - (i:Int) % W).toNat 0)⟩ else noPic
def pairOk (W H:Int) (xs:List Int) (W' H':Int) (ys:List Int):Bool:=picOk W H xs 255 && (picOk W' H' ys 255 && decide (W=W'∧H=H'))
def PicOut (w:World) (R:Pic) (e:Ending) (w':World):Prop:=
 ∃a n c,e= .returned (.agg #[.int .i64 R.W, .int .i64 R.H, .slice a n c])∧OwnA w' w.heap.size a n c R.ink∧n≤1048576∧Go.RowKit.Below w.heap.size w w'
def PicOut2 (w:World) (R:Pic × Bool) (e:Ending) (w':World):Prop:=
 ∃a n c,e= .returned (.tuple #[.agg #[.int .i64 R.1.W, .int .i64 R.1.H, .slice a n c], .bool R.2])∧OwnA w' w.heap.size a n c R.1.ink∧n≤1048576∧Go.RowKit.Below w.heap.size w w'
end Go.Proofs.YtanccoopbgamdaaGreatDoor
namespace Go.Proofs.YtanccoopbgamdaaGreatDoor
open Go.RowKit
set_option linter.unusedVariables false
set_option linter.unusedSimpArgs false
set_option maxHeartbeats 400000 in
theorem impl_isSize (W H:Int) (w:World):
   Calls Tryz.prog 19 #[.int .i64 W, .int .i64 H] w fun e w'=>e= .returned (.bool (sizeOk W H))∧w=w':=by
 by_cases c:1≤W∧W≤64∧1≤H∧H≤64
 · obtain ⟨h1,h2,h3,h4⟩:=c
   rw [sizeOk_in h1 h2 h3 h4]
   obtain ⟨m1,m2⟩:=mul_bd W H h1 h2 h3 h4
   go_enter Tryz.func19,Tryz.ntmps19
   go_wp2
   all_goals (go_ret;exact ⟨rfl,rfl⟩)
 · rw [sizeOk_out c]
   go_enter Tryz.func19,Tryz.ntmps19
   go_wp2
   all_goals (go_ret;first | exact ⟨rfl,rfl⟩ | (exfalso;exact c ⟨by omega,by omega,by omega,by omega⟩))
set_option maxHeartbeats 400000 in
theorem spec_l1In (x a b:Int) (w:World):
   Calls Tryz.prog 60 #[.int .i64 x, .int .i64 a, .int .i64 b] w fun e w'=>e= .returned (.bool (decide (a≤x∧x≤b)))∧w=w':=by
 go_enter Tryz.func60,Tryz.ntmps60
 go_wp2
 all_goals (go_ret;exact ⟨ret_bool (by first | (simp [*];done) | (simp [*];omega) | (simp;intros;omega)),rfl⟩)
set_option maxHeartbeats 400000 in
theorem spec_l1Size (W H:Int) (w:World):
   Calls Tryz.prog 74 #[.int .i64 W, .int .i64 H] w fun e w'=>e= .returned (.bool (sizeOk W H))∧w=w':=by
 by_cases c:1≤W∧W≤64∧1≤H∧H≤64
 · obtain ⟨h1,h2,h3,h4⟩:=c
   rw [sizeOk_in h1 h2 h3 h4]
   obtain ⟨m1,m2⟩:=mul_bd W H h1 h2 h3 h4
   go_enter Tryz.func74,Tryz.ntmps74
   go_wp2
   all_goals (go_ret;exact ⟨rfl,rfl⟩)
 · rw [sizeOk_out c]
   go_enter Tryz.func74,Tryz.ntmps74
   go_wp2
   all_goals (go_ret;first | exact ⟨rfl,rfl⟩ | (exfalso;exact c ⟨by omega,by omega,by omega,by omega⟩))
set_option maxHeartbeats 400000 in
theorem impl_allWithin (ad:Option Addr) (n cap:Nat) (xs:List Int) (m:Int) (w:World) (hn:xs.length=n) (ha:Rd w ad xs) (hl:n≤9223372036854775807):
   Calls Tryz.prog 48 #[.slice ad n cap, .int .i64 m] w fun e w'=>e= .returned (.bool (within xs m))∧w=w':=by
 have HN:=Lib.hid hn
 have HA:=Lib.hid ha
 clear hn ha
 go_enter Tryz.func48,Tryz.ntmps48
 go_wp2
 go_loop [9] (fun i=> ∃k:Nat,k≤n∧i= .int .i64 k∧Hid (within (xs.take k) m=true)) (fun i=>n - (intOf i).toNat)
 case atStart=>exact ⟨0,Nat.zero_le _,rfl,rfl⟩
 case round=>
   obtain ⟨k,hk,rfl,HT⟩:=hrel
   by_cases hlt:k<n
   · obtain ⟨ba,oa,hae,hal,hac⟩:=HA.out.at (by have:=HN.out;omega)
     subst hae
     have h1:w.cell? ⟨ba,oa+k,none⟩=some (.int .i64 (xs.getD k 0)):=hac k (by have:=HN.out;omega)
     clear hac
     go_wp2
     iterate 2
       · go_ret
         exact ⟨ret_bool (within_no xs k m (by have:=HN.out;omega) (by omega)).symm,rfl⟩
     · go_round
       case rel=>exact ⟨k+1,by omega,by go_num,by rw [within_snoc _ _ _ (by have:=HN.out;omega),HT.out,Bool.true_and,decide_eq_true_iff];exact ⟨by omega,by omega⟩⟩
       case measure=>simp [intOf];omega
   · go_wp2
     go_ret
     obtain rfl:k=n:=by omega
     have h:=HT.out
     rw [List.take_of_length_le (by have:=HN.out;omega)] at h
     exact ⟨ret_bool h.symm,rfl⟩
set_option maxHeartbeats 400000 in
theorem spec_l1Up (W H:Int) (ad:Option Addr) (n cap:Nat) (xs:List Int) (m:Int) (w:World) (hn:xs.length=n) (ha:Rd w ad xs) (hl:n≤9223372036854775807):
   Calls Tryz.prog 58 #[.agg #[.int .i64 W, .int .i64 H, .slice ad n cap], .int .i64 m] w fun e w'=>e= .returned (.bool (picOk W H xs m))∧Below w.heap.size w w':=by
 have HN:=Lib.hid hn
 have HA:=Lib.hid ha
 clear hn ha
 by_cases hs:sizeOk W H=true
 case neg=>
   have hs2:sizeOk W H=false:=by simpa using hs
   rw [picOk_no1 hs2]
   clear hs
   go_enter Tryz.func58,Tryz.ntmps58
   go_wp2_with (go_at_call 74;refine (spec_l1Size _ _ _).mono ?_;rintro e w' ⟨rfl,rfl⟩)
   go_ret
   exact ⟨rfl,Joins.below_alloc1 _ _⟩
 case pos=>
   obtain ⟨b1,b2,b3,b4,b5,b6⟩:=sizeOk_bd hs
   by_cases hq:(n:Int)=W*H
   case neg=>
     rw [picOk_no2 HN.out hq]
     have hq2:((n:Int) !=W*H)=true:=by simpa using hq
     clear hq
     go_enter Tryz.func58,Tryz.ntmps58
     go_wp2_with (go_at_call 74;refine (spec_l1Size _ _ _).mono ?_;rintro e w' ⟨rfl,rfl⟩)
     go_ret
     exact ⟨rfl,Joins.below_alloc1 _ _⟩
   case pos=>
     rw [picOk_in HN.out hs hq]
     have hq2:((n:Int) !=W*H)=false:=by simpa using hq
     clear hq
     go_enter Tryz.func58,Tryz.ntmps58
     go_wp2_with (go_at_call 74;refine (spec_l1Size _ _ _).mono ?_;rintro e w' ⟨rfl,rfl⟩)
     go_loop [27] (fun i=> ∃k:Nat,k≤n∧i= .int .i64 k∧Hid (within (xs.take k) m=true)) (fun i=>n - (intOf i).toNat)
     case atStart=>exact ⟨0,Nat.zero_le _,rfl,rfl⟩
     case round=>
       obtain ⟨k,hk,rfl,HT⟩:=hrel
       by_cases hlt:k<n
       · obtain ⟨ba,oa,hae,hal,hac⟩:=HA.out.at (by have:=HN.out;omega)
         subst hae
         have h1:w.cell? ⟨ba,oa+k,none⟩=some (.int .i64 (xs.getD k 0)):=hac k (by have:=HN.out;omega)
         clear hac
         by_cases hv:0≤xs[k]?.getD 0∧xs[k]?.getD 0≤m
         · have hv2:decide (0≤xs[k]?.getD 0∧xs[k]?.getD 0≤m)=true:=by simpa using hv
           go_wp2_with fail
           refine (spec_l1In _ _ _ _).mono ?_
           rintro e w' ⟨rfl,rfl⟩
           rw [hv2]
           clear hv2
           go_wp2_with fail
           go_round
           case rel=>exact ⟨k+1,by omega,by go_num,by rw [within_snoc _ _ _ (by have:=HN.out;omega),HT.out,Bool.true_and,decide_eq_true_iff];exact hv⟩
           case measure=>simp [intOf];omega
         · have hv2:decide (0≤xs[k]?.getD 0∧xs[k]?.getD 0≤m)=false:=by simpa using hv
           have HV:=Lib.hid hv
           clear hv
           go_wp2_with fail
           refine (spec_l1In _ _ _ _).mono ?_
           rintro e w' ⟨rfl,rfl⟩
           rw [hv2]
           clear hv2
           go_wp2_with fail
           go_ret
           exact ⟨ret_bool (within_no xs k m (by have:=HN.out;omega) HV.out).symm,Joins.below_alloc1 _ _⟩
       · go_wp2_with fail
         go_ret
         obtain rfl:k=n:=by omega
         have h:=HT.out
         rw [List.take_of_length_le (by have:=HN.out;omega)] at h
         exact ⟨ret_bool h.symm,Joins.below_alloc1 _ _⟩
set_option maxHeartbeats 400000 in
theorem spec_IsPicture (W H:Int) (ad:Option Addr) (n cap:Nat) (xs:List Int) (w:World) (hn:xs.length=n) (ha:Rd w ad xs) (hl:n≤9223372036854775807):
   Calls Tryz.prog 36 #[.agg #[.int .i64 W, .int .i64 H, .slice ad n cap]] w fun e w'=>e= .returned (.bool (picOk W H xs 255))∧Below w.heap.size w w':=by
 have HN:=Lib.hid hn
 have HA:=Lib.hid ha
 clear hn ha
 go_enter Tryz.func36,Tryz.ntmps36
 go_wp2_with fail
 refine (spec_l1Up _ _ _ _ _ xs _ _ HN.out (HA.out.below (Joins.below_alloc1 _ _)) hl).mono ?_
 rintro e w' ⟨rfl,hb⟩
 have HB:=Lib.hid hb
 clear hb
 go_wp2_with fail
 go_ret
 exact ⟨rfl,(Joins.below_alloc1 _ _).trans (HB.out.mono (by simp))⟩
set_option maxHeartbeats 400000 in
theorem impl_IsPicture (W H:Int) (ad:Option Addr) (n cap:Nat) (xs:List Int) (w:World) (hn:xs.length=n) (ha:Rd w ad xs) (hl:n≤9223372036854775807):
   Calls Tryz.prog 24 #[.agg #[.int .i64 W, .int .i64 H, .slice ad n cap]] w fun e w'=>e= .returned (.bool (picOk W H xs 255))∧Below w.heap.size w w':=by
 have HN:=Lib.hid hn
 have HA:=Lib.hid ha
 clear hn ha
 by_cases hs:sizeOk W H=true
 case neg=>
   have hs2:sizeOk W H=false:=by simpa using hs
   rw [picOk_no1 hs2]
   clear hs
   go_enter Tryz.func24,Tryz.ntmps24
   go_wp2_with (go_at_call 19;refine (impl_isSize _ _ _).mono ?_;rintro e w' ⟨rfl,rfl⟩)
   go_ret
   exact ⟨rfl,Joins.below_alloc1 _ _⟩
 case pos=>
   obtain ⟨b1,b2,b3,b4,b5,b6⟩:=sizeOk_bd hs
   by_cases hq:(n:Int)=W*H
   case neg=>
     rw [picOk_no2 HN.out hq]
     have hq2:((n:Int)==W*H)=false:=by simpa using hq
     clear hq
     go_enter Tryz.func24,Tryz.ntmps24
     go_wp2_with (go_at_call 19;refine (impl_isSize _ _ _).mono ?_;rintro e w' ⟨rfl,rfl⟩)
     go_ret
     exact ⟨rfl,Joins.below_alloc1 _ _⟩
   case pos=>
     rw [picOk_in HN.out hs hq]
     have hq2:((n:Int)==W*H)=true:=by simpa using hq
     clear hq
     go_enter Tryz.func24,Tryz.ntmps24
     go_wp2_with (go_at_call 19;refine (impl_isSize _ _ _).mono ?_;rintro e w' ⟨rfl,rfl⟩)
     refine (impl_allWithin _ _ _ xs _ _ HN.out (HA.out.below (Joins.below_alloc1 _ _)) hl).mono ?_
     rintro e w' ⟨rfl,rfl⟩
     go_wp2_with fail
     go_ret
     exact ⟨rfl,Joins.below_alloc1 _ _⟩
end Go.Proofs.YtanccoopbgamdaaGreatDoor
