/- Facts on which this claim rests, 1. -/
import Derived.Test.YtlenfgdjdianiaaGreatDoorFb
import Derived.BigGuardPart
import Derived.BigQuiet
import Derived.Lib.Hide
import Derived.Lib.SmallJoins
import Derived.Test.YtlenfgdjdianiaaGreatDoorRows
import Derived.WalkLawsBesides
import Derived.WalkSpells
set_option linter.all false
set_option maxHeartbeats 6400000
namespace Go.Proofs.YtlenfgdjdianiaaGreatDoor
section
open Go.RowKit Tq Go.Proofs.Tryz
variable {B B' g j n : Nat} {M : Array Value} {Q : Exit → Act → World → Prop} {a b w w' w1 w2 : World} {ad o : Option Addr} {c : Value} {k : IntKind} {ops : Array Oper} {row : Option Nat} {xs ys : List Int}
theorem zX {a b:Bool} (h:a=b):Ending.returned (.bool a)= .returned (.bool b):=by rw [h]
theorem yf {a b:Int} (h:a=b):Ending.returned (.int k a)= .returned (.int k b):=by rw [h]
def Rd (w:World) (ad:Option Addr) (xs:List Int):Prop:=
 ∀k,k<xs.length-> ∃b off,ad=some ⟨b,off,none⟩/\b<w.heap.size/\w.cell? ⟨b,off+k,none⟩=some (.int .i64 (xs.getD k 0))
theorem Rd.at {w:World} {ad:Option Addr} {xs:List Int} (h:Rd w ad xs) (s:0<xs.length):
 ∃b off,ad=some ⟨b,off,none⟩/\b<w.heap.size/\ ∀k,k<xs.length->w.cell? ⟨b,off+k,none⟩=some (.int .i64 (xs.getD k 0)):=by
 obtain ⟨b,off,hb,hl,_⟩:=h 0 s;refine ⟨b,off,hb,hl,fun k hk=>?_⟩;obtain ⟨l,f,e,_,hc⟩:=h k hk;rw [hb] at e
 obtain ⟨rfl,rfl⟩:b=l/\off=f:=by
  have:=Yd e;simp only [Addr.mk.injEq] at this;exact ⟨this.1,this.2.1⟩
 exact hc
theorem Rd.below (h:Rd w ad xs) (hb:Below w w w'):Rd w' ad xs:=by
 intro k hk;obtain ⟨b,off,h1,h2,h3⟩:=h k hk;exact ⟨b,off,h1,Yb h2 hb.size,(hb.cell (p:=↑(b,off+k)) h2).trans h3⟩
theorem Rd.of_heap (h:Rd w ad xs) (he:w'.heap=w.heap):Rd w' ad xs:=by
 intro k hk;obtain ⟨b,off,h1,h2,h3⟩:=h k hk;exact ⟨b,off,h1,by rw [he];exact h2,(World.cell?_of_block (w:=w) (by rw [he])).trans h3⟩
theorem Rd.alloc {w:World} {ad:Option Addr} {xs:List Int} (h:Rd w ad xs) (o:Obj):Rd (w.alloc o) ad xs:=h.below (Joins.below_alloc1 w o)
theorem Rd.drew {w:World} {ad:Option Addr} {xs:List Int} (h:Rd w ad xs):Rd w.drew ad xs:=h.of_heap rfl
theorem Rd.nil (w:World) (ad:Option Addr):Rd w ad []:=fun _ hk=>by simp at hk
def Own (w:World) (g n cap:Nat) (xs:List Int):Prop:=
 xs.length=n/\ ∃cur,w.heap[g]? =some (.cells cur 3 (0,0))/\n<=cap/\cap<=maxLen/\cur.size=cap/\cur.toList.take n=xs.map (Value.int .i64)
namespace Own
variable {w w' : World} {g n cap : Nat} {xs : List Int}
theorem len (h:Own w g n cap xs):xs.length=n:=h.1
theorem lt (h:Own w g n cap xs):g<w.heap.size:=by
 obtain ⟨_,e,hg,_⟩:=h;exact (Array.getElem?_eq_some_iff.1 hg).1
theorem cell (h:Own w g n cap xs) {j:Nat} (l:j<n):w.cell? (g,j)=some ↑(xs.getD j 0):=by
 obtain ⟨hl,e,hg,_,_,_,f⟩:=h;rw [cell_of_row w g j e 3 (0,0) hg];have h2:(e.toList.take n)[j]? =(xs.map (Value.int .i64))[j]?:=by rw [f]
 rw [List.getElem?_take,if_pos l] at h2;simp only [Array.getElem?_toList] at h2;rw [h2];simp [List.getD,Ya (show j<xs.length by omega)]
theorem frozen (h:Own w g n cap xs) (j:Nat):w.frozen? (g,j)=false:=by
 obtain ⟨_,e,hg,_⟩:=h;exact frozen_of_row w g j e 3 hg
theorem set (h:Own w g n cap xs) (j:Nat) (v:Int):Own (w.setCell (g,j) ↑v) g n cap (xs.set j v):=by
 obtain ⟨hl,e,hg,h1,h2,h3,f⟩:=h;refine ⟨by simpa using hl,e.setIfInBounds j ↑v,heap_setCell_same w g j e _ _ hg,h1,h2,by simpa using h3,?_⟩;rw [Array.toList_setIfInBounds,List.map_set,<-f,List.take_set]
theorem of_block (h:Own w g n cap xs) (hb:w'.heap[g]? =w.heap[g]?):Own w' g n cap xs:=by
 obtain ⟨hl,e,hg,r⟩:=h;exact ⟨hl,e,hb.trans hg,r⟩
theorem below (h:Own w g n cap xs) (hb:Below B w w') (hg:g<B):Own w' g n cap xs:=h.of_block (hb.block g hg)
theorem grown (h:Own w g n cap xs) (hb:w.grownBy w' row) (hg:some g≠row):Own w' g n cap xs:=h.of_block (hb.block g h.lt hg)
theorem alloc (h:Own w g n cap xs) (o:Obj):Own (w.alloc o) g n cap xs:=h.of_block (Below.heap_alloc w o g h.lt)
theorem drewN (h:Own w g n cap xs) (m:Nat):Own (w.drewN m) g n cap xs:=h.of_block rfl
theorem other (h:Own w g n cap xs) {a:Addr} (ha:a.block≠g) (u:Value):Own (w.setCell a u) g n cap xs:=h.of_block (Below.heap_setCell w a u g om)
theorem rd (h:Own w g n cap xs):Rd w ↑g xs:=fun k hk=>⟨g,0,rfl,h.lt,by rw [Nat.zero_add];exact h.cell (og h.len)⟩
end Own
def Zk (M:Array Value) (n:Nat) (xs:List Int):Prop:=xs.length=n/\n<=maxLen/\M.size=n/\M.toList=xs.map (Value.int .i64)
theorem Zk.zero (n:Nat) (hn:n<=maxLen):Zk (madeCells #[Z0] n) n (List.replicate n 0):=
 ⟨sI,hn,size_madeCells _ _,by rw [toList_madeCells_one];simp⟩
theorem Zk.own (h:Zk M n xs) (w:World):Own (w.alloc (.cells M 3)) w n n xs:=
 ⟨h.1,M,heap_alloc_new w _,nI,h.2.1,h.2.2.1,by rw [h.2.2.2,Yk (by simp [h.1])]⟩
theorem Zk.own' (h:Zk M n xs) (w:World) (hg:g=w.heap.size):Own (w.alloc (.cells M 3)) g n n xs:=by
 subst hg;exact h.own w
def OwnA (w:World) (B:Nat) (ad:Option Addr) (n cap:Nat) (xs:List Int):Prop:=
 (ad=none/\n=0/\cap=0/\xs=[])\/ ∃g,ad=some ⟨g,0,none⟩/\B<=g/\Own w g n cap xs
def zL:Option Addr->Option Nat
 | some a=>some a.block
 | none=>none
namespace OwnA
variable {w w' : World} {B n cap : Nat} {ad : Option Addr} {xs : List Int}
theorem mk (h:Own w g n cap xs) (e:B<=g):OwnA w B ↑g n cap xs:= .inr ⟨g,rfl,e,h⟩
theorem none (w:World) (B:Nat):OwnA w B none 0 0 []:= .inl ⟨rfl,rfl,rfl,rfl⟩
theorem len (h:OwnA w B ad n cap xs):xs.length=n:=by
 rcases h with ⟨_,rfl,_,rfl⟩ | ⟨g,_,_,h⟩
 rfl;exact h.len
theorem rd (h:OwnA w B ad n cap xs):Rd w ad xs:=by
 rcases h with ⟨_,_,_,rfl⟩ | ⟨g,rfl,_,h⟩
 exact Rd.nil _ _;exact h.rd
theorem below {B':Nat} (h:OwnA w B ad n cap xs) (hb:Below B' w w') (hg:w.heap.size<=B'):OwnA w' B ad n cap xs:=by
 rcases h with h | ⟨g,h1,h2,h⟩
 exact .inl h;exact .inr ⟨g,h1,h2,h.below hb (og h.lt)⟩
theorem grown {row:Option Nat} (h:OwnA w B ad n cap xs) (hb:w.grownBy w' row) (hg: ∀k,row=some k->k<B):OwnA w' B ad n cap xs:=by
 rcases h with h | ⟨g,h1,h2,h⟩
 exact .inl h;exact .inr ⟨g,h1,h2,h.grown hb (fun e=>by have:=hg g e.symm;omega)⟩
theorem grown2 (h:OwnA w B ad n cap xs) (hb:w.grownBy w' row) (hg: ∀k,row=some k->w.heap.size<=k\/zL ad≠some k):OwnA w' B ad n cap xs:=by
 rcases h with h | ⟨g,h1,h2,h⟩
 exact .inl h;refine .inr ⟨g,h1,h2,h.grown hb (fun e=>?_)⟩;have hl:=h.lt;rcases hg g e.symm with h3 | h3
 omega;subst h1;simp [zL] at h3
theorem drewN (h:OwnA w B ad n cap xs) (m:Nat):OwnA (w.drewN m) B ad n cap xs:=by
 rcases h with h | ⟨g,h1,h2,h⟩
 exact .inl h;exact .inr ⟨g,h1,h2,h.drewN m⟩
theorem drew (h:OwnA w B ad n cap xs):OwnA w.drew B ad n cap xs:=h.drewN 1
theorem zA (h:OwnA w B ad n cap xs) (hb:Below w w w'):OwnA w' B ad n cap xs:=h.below hb nI
theorem alloc (h:OwnA w B ad n cap xs) (o:Obj):OwnA (w.alloc o) B ad n cap xs:=h.below (Joins.below_alloc1 w o) nI
theorem zG (h:OwnA w B ad n cap xs) (hb:w.grownBy w' (zL o)) (e: ∀b,zL o=some b->zL ad≠some b):OwnA w' B ad n cap xs:=
 h.grown2 hb (fun k hk=> .inr (e k hk))
theorem bd (h:OwnA w B ad n cap xs): ∀b,zL ad=some b->B<=b/\b<w.heap.size:=by
 intro b hb;rcases h with ⟨rfl,_⟩ | ⟨g,rfl,h2,h⟩
 simp [zL] at hb;simp only [zL,Option.some.injEq] at hb;subst hb;exact ⟨h2,h.lt⟩
theorem mono (h:OwnA w B ad n cap xs) (e:B'<=B):OwnA w B' ad n cap xs:=by
 rcases h with h | ⟨g,h1,h2,h⟩
 exact .inl h;exact .inr ⟨g,h1,om,h⟩
end OwnA
theorem oN {w:World} {B:Nat}:OwnA w B .none 0 0 []:=OwnA.none w B
theorem zJ (h:Below w w w1) (o:Obj):Below w w (w1.alloc o):=h.alloc h.size o
theorem zI (h:Below w w w1) (hb:Below w1 w1 w2):Below w w w2:=h.trans (hb.mono h.size)
def Blk (w:World) (g T:Nat) (cs:Array Value):Prop:=w.heap[g]? =some (.cells cs T (0,0))
namespace Blk
variable {w w' : World} {g T : Nat} {cs : Array Value}
theorem lt (h:Blk w g T cs):g<w.heap.size:=(Array.getElem?_eq_some_iff.1 h).1
theorem cell (h:Blk w g T cs) (i:Nat):w.cell? (g,i)=cs[i]?:=Joins.cell_of_block h i
theorem frozen (h:Blk w g T cs) (i:Nat):w.frozen? (g,i)=false:=Joins.unfrozen_of_block h i
theorem of_block (h:Blk w g T cs) (hb:w'.heap[g]? =w.heap[g]?):Blk w' g T cs:=hb.trans h
theorem below (h:Blk w g T cs) (hb:Below B w w') (hg:g<B):Blk w' g T cs:=h.of_block (hb.block g hg)
theorem zA (h:Blk w g T cs) (hb:Below w w w'):Blk w' g T cs:=h.below hb h.lt
theorem alloc (h:Blk w g T cs) (o:Obj):Blk (w.alloc o) g T cs:=h.of_block (Below.heap_alloc w o g h.lt)
theorem drewN (h:Blk w g T cs) (m:Nat):Blk (w.drewN m) g T cs:=h.of_block rfl
theorem grown (h:Blk w g T cs) (hb:w.grownBy w' row) (hg:some g≠row):Blk w' g T cs:=h.of_block (hb.block g h.lt hg)
theorem drew (h:Blk w g T cs):Blk w.drew g T cs:=h.of_block rfl
theorem zG (h:Blk w g T cs) (hb:w.grownBy w' (zL o)) (f: ∀b,zL o=some b->b≠g):Blk w' g T cs:=
 h.grown hb (fun e=>f g e.symm rfl)
theorem other (h:Blk w g T cs) {a:Addr} (ha:a.block≠g) (u:Value):Blk (w.setCell a u) g T cs:=h.of_block (Below.heap_setCell w a u g om)
theorem set (h:Blk w g T cs) (i:Nat) (u:Value):Blk (w.setCell (g,i) u) g T (cs.setIfInBounds i u):=Joins.block_setCell h u
theorem new (w:World) (T:Nat) (cs:Array Value):Blk (w.alloc (.cells cs T)) w T cs:=heap_alloc_new w _
theorem zD (T:Nat) (cs:Array Value) (h:g=w.heap.size):Blk (w.alloc (.cells cs T)) g T cs:=by subst h;exact new w T cs
theorem c3 {a b:Value} (h:Blk w g T #[a,b,c]):g<w.heap.size/\JA w g a b c:=
 ⟨h.lt,by rw [h.cell];rfl,by rw [h.cell];rfl,by rw [h.cell];rfl⟩
theorem f3 (h:Blk w g T cs):w.frozen? g=false/\w.frozen? (g,1)=false/\w.frozen? (g,2)=false:=⟨h.frozen 0,h.frozen 1,h.frozen 2⟩
end Blk
theorem zGa (hg:w.grownBy w' row) (e:B<=w.heap.size) (hr: ∀k,row=some k->B<=k):Below B w w':=(Below.refl B w).grown hg e hr
theorem zU {c:World} (h:a.grownBy b row) (k:b.grownBy c row):a.grownBy c row:=
 ⟨k.os.trans h.os,k.tape.trans h.tape,k.output.trans h.output,Yx h.size k.size,fun i hi hr=>(k.block i (Yb hi h.size) hr).trans (h.block i hi hr)⟩
theorem yR (w:World) (row:Option Nat):w.grownBy w row:=World.grownBy.refl w row
theorem xc (h:a.grownBy b row) (n:Nat):a.grownBy (b.drewN n) row:=⟨h.os,h.tape,h.output,h.size,h.block⟩
theorem yO (h:a.grownBy b (some g)) (u:Value):a.grownBy (b.setCell (g,j) u) (some g):=
 zU h ⟨rfl,rfl,rfl,by simp [World.setCell],fun k _ hk=>Below.heap_setCell b _ u k (fun e=>hk (by simp [e]))⟩
theorem zFx {k:Nat} (h1:k<xs.length) (h2:k<ys.length) (h:xs.take k=ys.take k) (he:xs.getD k 0=ys.getD k 0):xs.take (k+1)=ys.take (k+1):=by
 rw [Ym h1,Ym h2,h];simp only [List.getD,Ya h1,Ya h2,Yz] at he;rw [he]
theorem zKV (w:World) (q:Nat): ∃k,w.drewN q=w.drewN k:=⟨q,rfl⟩
theorem zKW (w:World) (q m:Nat): ∃k,(w.drewN q).drewN m=w.drewN k:=⟨q+m,sI⟩
def zn (ys xs:List Int) (k:Nat):List Int:=ys.take k++xs.drop k
theorem yh (ys xs:List Int):zn ys xs 0=xs:=by simp [zn]
theorem Zx (ys xs:List Int) (h:xs.length=ys.length):zn ys xs ys.length=ys:=by rw [zn,Yk om,List.drop_of_length_le om,List.append_nil]
theorem zGW (xs:List Int) (k:Nat):zn xs xs k=xs:=by simp [zn]
theorem xY (ys xs:List Int) (k:Nat) (h1:ys.length=k) (h2:xs.length=k):zn ys xs k=ys:=by rw [zn,Yk om,List.drop_of_length_le om,List.append_nil]
theorem yd (ys xs:List Int) (k:Nat) (v:Int) (hk:k<ys.length) (e:k<xs.length) (hv:ys.getD k 0=v):(zn ys xs k).set k v=zn ys xs (k+1):=by
 subst hv;apply List.ext_getElem?;intro i;simp only [zn,List.getElem?_set,Yn,Yj,List.length_drop];by_cases h:k=i
 subst h;rw [if_pos rfl,if_pos om,List.getElem?_append_left sO,List.getElem?_take,if_pos om];simp [List.getD,hk];rw [if_neg h];by_cases hi:i<k
 rw [List.getElem?_append_left sO,List.getElem?_append_left sO,List.getElem?_take,List.getElem?_take,if_pos hi,if_pos om];rw [List.getElem?_append_right sO,List.getElem?_append_right sO,List.getElem?_drop,List.getElem?_drop];simp only [Yj];congr 1;omega
theorem qD:(prog.info? 3).map (fun i=>(i.zero,i.size,i.bytes))=some (some ↑Z0,1,8):=zK
theorem jU (w:World) {rest:List Oper} {o:Oper} {a:Act}
 (hg:o.guard=none) (l c:Operand) (e:o.op=Op.makeSlice 22 l c) (D A:IntKind) (L C:Int) (n:Nat) (hl:a.eval l= .int D L) (hc:a.eval c= .int A C) (hL:L=(n:Int)) (E:C=(n:Int)) (hn:n<=17592186044416)
 (hK: ∀M:Array Value,Zk M n (List.replicate n 0)->wpList prog ops Q rest (a.put o.dst (.slice ↑w n n)) (w.alloc (.cells M 3))):
 wpList prog ops Q (o::rest) a w:=by
 obtain ⟨i,hi,z,s,f⟩:=info_parts qD;refine wpList_plain hg fun K u=>?_;subst hL;subst E;have hr:=run_make (P:=prog) w 22 3 i ↑Z0 underlying22 hi z D A n n om (Int.le_refl _) (by rw [f];omega) om;simp only [Yu,s,Nat.mul_one] at hr;have hm:=Zk.zero n (by unfold maxLen;omega);unfold Oper.wp;simp only [Value.cells] at hr;simp [execOp,e,hl,hc,hr,Result.andThen];exact u _ _ (hK _ hm)
end
section
variable {H W m : Int} {n : Nat} {xs : List Int}
open Tq Go.Proofs.Tryz
def yM (W H:Int):Bool:=decide (1<=W/\W<=64/\1<=H/\H<=64/\W*H<=1024)
def yY (xs:List Int) (m:Int):Bool:=xs.all (fun v=>decide (0<=v/\v<=m))
def zP (W H:Int) (xs:List Int) (m:Int):Bool:=yM W H && (decide ((xs.length:Int)=W*H) && yY xs m)
theorem Vr (W H:Int) (h1:1<=W) (h2:W<=64) (h3:1<=H) (h4:H<=64):1<=W*H/\W*H<=4096:=by
 constructor;have:=Yr h1 h3 om om;omega;have:=Yr h2 h4 om om;omega
theorem zDa (h1:1<=W) (h2:W<=64) (h3:1<=H) (h4:H<=64):yM W H=decide (W*H<=1024):=by unfold yM;simp [h1,h2,h3,h4]
theorem zBZ (c: ¬(1<=W/\W<=64/\1<=H/\H<=64)):yM W H=false:=by
 unfold yM;rw [decide_eq_false_iff_not];exact fun h=>c ⟨h.1,h.2.1,h.2.2.1,h.2.2.2.1⟩
theorem yF (h:yM W H=true):1<=W/\W<=64/\1<=H/\H<=64/\W*H<=1024/\1<=W*H:=by
 unfold yM at h;have h:=of_decide_eq_true h;exact ⟨h.1,h.2.1,h.2.2.1,h.2.2.2.1,h.2.2.2.2,(Vr W H h.1 h.2.1 h.2.2.1 h.2.2.2.1).1⟩
theorem Qa (xs:List Int) (k:Nat) (m:Int) (hk:k<xs.length):yY (xs.take (k+1)) m=(yY (xs.take k) m && decide (0<=xs[k]?.getD 0/\xs[k]?.getD 0<=m)):=by
 unfold yY;rw [Ym hk,List.all_append];simp [Ya hk]
theorem zDl (xs:List Int) (k:Nat) (m:Int) (hk:k<xs.length) (h: ¬(0<=xs[k]?.getD 0/\xs[k]?.getD 0<=m)):yY xs m=false:=by
 unfold yY;rw [List.all_eq_false];refine ⟨xs[k],List.getElem_mem hk,?_⟩;simpa [Ya hk] using h
theorem xx (h:yY xs m=true) (k:Nat) (hk:k<xs.length):0<=xs[k]?.getD 0/\xs[k]?.getD 0<=m:=by
 unfold yY at h;have:=List.all_eq_true.1 h xs[k] (List.getElem_mem hk);simpa [Ya hk] using this
theorem zDO (h:yM W H=false):zP W H xs m=false:=by unfold zP;simp [h]
theorem zDP (hn:xs.length=n) (h: ¬(n:Int)=W*H):zP W H xs m=false:=by unfold zP;rw [hn];simp [h]
theorem wm (hn:xs.length=n) (h1:yM W H=true) (h:(n:Int)=W*H):zP W H xs m=yY xs m:=by unfold zP;rw [hn];simp [h,h1]
theorem yH (hn:xs.length=n) (h:zP W H xs m=true):yM W H=true/\(n:Int)=W*H/\yY xs m=true:=by
 unfold zP at h;simp only [Bool.and_eq_true,decide_eq_true_eq] at h;exact ⟨h.1,by rw [<-hn];exact h.2.1,h.2.2⟩
def gen (n:Nat) (f:Nat->Int):List Int:=(List.range n).map f
theorem zZ (n:Nat) (f:Nat->Int):(gen n f).length=n:=by simp [gen]
theorem yN (n:Nat) (f:Nat->Int) (k:Nat) (h:k<n):(gen n f).getD k 0=f k:=by simp [gen,List.getD,h]
theorem xk (n:Nat) (f:Nat->Int) (ys:List Int) (hl:ys.length=n) (h: ∀k,k<n->ys.getD k 0=f k):ys=gen n f:=by
 apply List.ext_getElem?;intro i;by_cases hi:i<n
 have:=h i hi;simp only [List.getD,Ya (show i<ys.length by omega),Yz] at this;rw [Ya (show i<ys.length by omega),this];simp [gen,hi];rw [Yv om,Yv (by simp [gen];omega)]
def ya:List Int->Int
 | []=>0
 | x::xs=>x+ya xs
theorem ZK (a b:List Int):ya (a++b)=ya a+ya b:=by
 induction a with
 | nil=>simp [ya]
 | cons x a e=>simp [ya,e];omega
theorem Vm (xs:List Int) (k:Nat) (h:k<xs.length):ya (xs.take (k+1))=ya (xs.take k)+xs[k]?.getD 0:=by
 rw [Ym h,ZK];simp [ya,h]
theorem wI (h:yY xs 255=true) (k:Nat):0<=ya (xs.take k)/\ya (xs.take k)<=255*k:=by
 induction k with
 | zero=>simp [ya]
 | succ k e=>
  by_cases hk:k<xs.length
  have:=xx h k hk;rw [Vm xs k hk];omega;rw [Yk om] at e⊢;omega
def zV (v:Int) (xs:List Int):Nat:=(xs.filter (fun x=>x==v)).length
theorem zAp (v:Int) (xs:List Int) (k:Nat) (h:k<xs.length) (e:xs[k]?.getD 0=v):zV v (xs.take (k+1))=zV v (xs.take k)+1:=by
 simp only [Ya h,Yz] at e;unfold zV;rw [Ym h,List.filter_append,Yn,e];simp
theorem zCz (v:Int) (xs:List Int) (k:Nat) (h:k<xs.length) (e: ¬xs[k]?.getD 0=v):zV v (xs.take (k+1))=zV v (xs.take k):=by
 simp only [Ya h,Yz] at e;unfold zV;rw [Ym h,List.filter_append,Yn];simp [e]
theorem KW (v:Int) (xs:List Int) (k:Nat):zV v (xs.take k)<=k:=by
 unfold zV;have:=List.length_filter_le (fun x=>x==v) (xs.take k);simp at this⊢;omega
structure Pic where
 W:Int
 H:Int
 ink:List Int
def yb:Pic:=⟨0,0,[]⟩
def xH (W H ink:Int):Pic × Bool:=if yM W H=true/\0<=ink/\ink<=255 then (⟨W,H,List.replicate (W*H).toNat ink⟩,true) else (yb,false)
def xP (W H:Int):Pic × Bool:=if yM W H=true then (⟨W,H,gen (W*H).toNat (fun i=>if 1<W then (i:Int) % W*255/(W - 1) else 0)⟩,true) else (yb,false)
def wT (W H:Int) (xs:List Int):Int:=if zP W H xs 255=true then ya xs else 0
def YM (W H:Int) (xs:List Int) (v:Int):Int:=if zP W H xs 255=true then (zV v xs:Int) else 0
def wl (W H:Int) (xs:List Int):Pic:=if zP W H xs 255=true then ⟨W,H,gen (W*H).toNat (fun i=>xs.getD ((i:Int)/W*W+W - 1 - (i:Int) % W).toNat 0)⟩ else yb
def kC (W H:Int) (xs:List Int) (W' H':Int) (ys:List Int):Bool:=zP W H xs 255 && (zP W' H' ys 255 && decide (W=W'/\H=H'))
def jl (w:World) (R:Pic) (e:Ending) (w':World):Prop:=
 ∃a n c,e= .returned (.agg #[R.W,R.H, .slice a n c])/\OwnA w' w a n c R.ink/\n<=1048576/\Go.RowKit.Below w w w'
def wZ (w:World) (R:Pic × Bool) (e:Ending) (w':World):Prop:=
 ∃a n c,e= .returned (.tuple #[.agg #[R.1.W,R.1.H, .slice a n c], .bool R.2])/\OwnA w' w a n c R.1.ink/\n<=1048576/\Go.RowKit.Below w w w'
end
section
open Go.RowKit Tq Go.Proofs.Tryz
theorem vD (W H:Int) (w:World):
 Calls prog 111 #[W,H] w fun e w'=>e= .returned (.bool (yM W H))/\w=w':=by
 by_cases c:1<=W/\W<=64/\1<=H/\H<=64
 . obtain ⟨h1,h2,h3,h4⟩:=c
   rw [zDa h1 h2 h3 h4];obtain ⟨l,f⟩:=Vr W H h1 h2 h3 h4;go_in
   go_wp2
   all_goals (go_ret;exact ⟨rfl,rfl⟩)
 rw [zBZ c];go_in
 go_wp2
 all_goals (go_ret;first | exact ⟨rfl,rfl⟩ | (exfalso;exact c ⟨om,om,om,om⟩))
theorem uy (x a b:Int) (w:World):
 Calls prog 57 #[x,a,b] w fun e w'=>e= .returned (.bool (decide (a<=x/\x<=b)))/\w=w':=by
 go_in
 go_wp2
 all_goals (go_ret;exact ⟨zX (by first | (simp [*];done) | (simp [*];omega) | (simp;intros;omega)),rfl⟩)
theorem qU (W H:Int) (w:World):
 Calls prog 101 #[W,H] w fun e w'=>e= .returned (.bool (yM W H))/\w=w':=by
 by_cases c:1<=W/\W<=64/\1<=H/\H<=64
 . obtain ⟨h1,h2,h3,h4⟩:=c
   rw [zDa h1 h2 h3 h4];obtain ⟨l,f⟩:=Vr W H h1 h2 h3 h4;go_in
   go_wp2
   all_goals (go_ret;exact ⟨rfl,rfl⟩)
 rw [zBZ c];go_in
 go_wp2
 all_goals (go_ret;first | exact ⟨rfl,rfl⟩ | (exfalso;exact c ⟨om,om,om,om⟩))
theorem KY (ad:Option Addr) (n cap:Nat) (xs:List Int) (m:Int) (w:World) (hn:xs.length=n) (ha:Rd w ad xs) (hl:n<=9223372036854775807):
 Calls prog 112 #[.slice ad n cap,m] w fun e w'=>e= .returned (.bool (yY xs m))/\w=w':=by
 have l:=Jh hn;have z:=Jh ha;clear hn ha;go_in
 go_wp2
 go_loop [9] (fun i=> ∃k:Nat,k<=n/\i=↑k/\Hd (yY (xs.take k) m=true)) (fun i=>n - (intOf i).toNat)
 case atStart=>exact ⟨0,nZ,rfl,rfl⟩
 obtain ⟨k,hk,rfl,u⟩:=hrel;by_cases A:k<n
 . obtain ⟨C,D,s,E,f⟩:=z.Z.at (oh l)
   subst s;have h1:w.cell? (C,D+k)=some ↑(xs.getD k 0):=f k (oh l);clear f
   go_wp2
   iterate 2
    go_ret;exact ⟨zX (zDl xs k m (oh l) om).symm,rfl⟩
   go_round
   case rel=>exact ⟨k+1,om,by go_num,by rw [Qa _ _ _ (oh l),u.Z,Bool.true_and,decide_eq_true_iff];exact ⟨om,om⟩⟩
   exact Jm
 go_wp2
 go_ret;obtain rfl:k=n:=om;have h:=u.Z;rw [Yk (oh l)] at h;exact ⟨zX h.symm,rfl⟩
theorem zDd (W H:Int) (ad:Option Addr) (n cap:Nat) (xs:List Int) (m:Int) (w:World) (hn:xs.length=n) (ha:Rd w ad xs) (hl:n<=9223372036854775807):
 Calls prog 84 #[.agg #[W,H, .slice ad n cap],m] w (zR (.bool (zP W H xs m)) w):=by
 have l:=Jh hn;have J:=Jh ha;clear hn ha;by_cases z:yM W H=true
 case neg=>
  have A:yM W H=false:=by simpa using z
  rw [zDO A];clear z;go_in;go_wp2_with (go_at_call 101;refine (qU _ _ _).mono ?_;rintro e w' ⟨rfl,rfl⟩);go_ret;exact ⟨rfl,nJ⟩
 obtain ⟨b1,b2,b3,P,R,O⟩:=yF z;by_cases s:(n:Int)=W*H
 case neg=>
  rw [zDP l.Z s];have D:((n:Int) !=W*H)=true:=by simpa using s
  clear s;go_in;go_wp2_with (go_at_call 101;refine (qU _ _ _).mono ?_;rintro e w' ⟨rfl,rfl⟩);go_ret;exact ⟨rfl,nJ⟩
 rw [wm l.Z z s];have D:((n:Int) !=W*H)=false:=by simpa using s
 clear s;go_in;go_wp2_with (go_at_call 101;refine (qU _ _ _).mono ?_;rintro e w' ⟨rfl,rfl⟩)
 go_loop [27] (fun i=> ∃k:Nat,k<=n/\i=↑k/\Hd (yY (xs.take k) m=true)) (fun i=>n - (intOf i).toNat)
 case atStart=>exact ⟨0,nZ,rfl,rfl⟩
 obtain ⟨k,hk,rfl,E⟩:=hrel;by_cases L:k<n
 . obtain ⟨G,I,C,N,u⟩:=J.Z.at (oh l)
   subst C;have h1:w.cell? (G,I+k)=some ↑(xs.getD k 0):=u k (oh l);clear u;by_cases hv:0<=xs[k]?.getD 0/\xs[k]?.getD 0<=m
   . have f:decide (0<=xs[k]?.getD 0/\xs[k]?.getD 0<=m)=true:=by simpa using hv
     go_wp2_with fail;refine (uy _ _ _ _).mono ?_;rintro e w' ⟨rfl,rfl⟩;rw [f];clear f;go_wp2_with fail;go_round
     case rel=>exact ⟨k+1,om,by go_num,by rw [Qa _ _ _ (oh l),E.Z,Bool.true_and,decide_eq_true_iff];exact hv⟩
     exact Jm
   have f:decide (0<=xs[k]?.getD 0/\xs[k]?.getD 0<=m)=false:=by simpa using hv
   have F:=Jh hv;clear hv;go_wp2_with fail;refine (uy _ _ _ _).mono ?_;rintro e w' ⟨rfl,rfl⟩;rw [f];clear f;go_wp2_with fail;go_ret;exact ⟨zX (zDl xs k m (oh l) F.Z).symm,nJ⟩
 go_wp2_with fail;go_ret;obtain rfl:k=n:=om;have h:=E.Z;rw [Yk (oh l)] at h;exact ⟨zX h.symm,nJ⟩
theorem yT (W H:Int) (ad:Option Addr) (n cap:Nat) (xs:List Int) (w:World) (hn:xs.length=n) (ha:Rd w ad xs) (hl:n<=9223372036854775807):
 Calls prog 45 #[.agg #[W,H, .slice ad n cap]] w (zR (.bool (zP W H xs 255)) w):=by
 have l:=Jh hn;have s:=Jh ha;clear hn ha;go_in;go_wp2_with fail;refine (zDd _ _ _ _ _ xs _ _ l.Z (s.Z.below nJ) hl).mono ?_;rintro e w' ⟨rfl,hb⟩;have f:=Jh hb;clear hb;go_wp2_with fail;go_ret;exact ⟨rfl,nJ.trans (f.Z.mono sI)⟩
theorem ym (W H:Int) (ad:Option Addr) (n cap:Nat) (xs:List Int) (w:World) (hn:xs.length=n) (ha:Rd w ad xs) (hl:n<=9223372036854775807):
 Calls prog 70 #[.agg #[W,H, .slice ad n cap]] w (zR (.bool (zP W H xs 255)) w):=by
 have u:=Jh hn;have A:=Jh ha;clear hn ha;by_cases l:yM W H=true
 case neg=>
  have s:yM W H=false:=by simpa using l
  rw [zDO s];clear l;go_in;go_wp2_with (go_at_call 111;refine (vD _ _ _).mono ?_;rintro e w' ⟨rfl,rfl⟩);go_ret;exact ⟨rfl,nJ⟩
 obtain ⟨b1,b2,b3,D,E,C⟩:=yF l;by_cases f:(n:Int)=W*H
 case neg=>
  rw [zDP u.Z f];have z:((n:Int)==W*H)=false:=by simpa using f
  clear f;go_in;go_wp2_with (go_at_call 111;refine (vD _ _ _).mono ?_;rintro e w' ⟨rfl,rfl⟩);go_ret;exact ⟨rfl,nJ⟩
 rw [wm u.Z l f];have z:((n:Int)==W*H)=true:=by simpa using f
 clear f;go_in;go_wp2_with (go_at_call 111;refine (vD _ _ _).mono ?_;rintro e w' ⟨rfl,rfl⟩);refine (KY _ _ _ xs _ _ u.Z (A.Z.below nJ) hl).mono ?_;rintro e w' ⟨rfl,rfl⟩;go_wp2_with fail;go_ret;exact ⟨rfl,nJ⟩
end
section
variable {H W i m q v x y : Int} {inv t : Nat → Nat} {k n : Nat} {xs ys : List Int}
open Tq Go.Proofs.Tryz
theorem wj {r:Int} (e:0<=r) (h1:r<m):(q*m+r)/m=q/\(q*m+r) % m=r:=by
 constructor;rw [Int.add_comm,Int.add_mul_ediv_right _ _ om,Int.ediv_eq_zero_of_lt e h1];omega;rw [Int.add_comm,Int.add_mul_emod_self_right,Int.emod_eq_of_lt e h1]
theorem Ji (f:1<=W) (e:0<=i) (h1:i<W*H): ∃x y,0<=x/\x<W/\0<=y/\y<H/\i=y*W+x/\i % W=x/\i/W=y:=by
 refine ⟨i % W,i/W,Yg _ om,Ye _ om,Yw e om,?_,?_,rfl,rfl⟩;exact Int.ediv_lt_of_lt_mul om (by rw [Ys];exact h1);have:=Int.mul_ediv_add_emod i W;rw [Ys] at this;omega
theorem ve (f:0<=x) (h1:x<W) (h2:0<=y) (h3:y<H):0<=y*W/\y*W+x<W*H:=by
 have l:0<=y*W:=Int.mul_nonneg h2 om;have e:(y+1)*W<=H*W:=Yo om om;rw [Int.add_mul,Int.one_mul,Ys H W] at e;omega
def uk (W i:Int):Int:=i/W*W+W - 1 - i % W
theorem zFK (C:1<=W) (l:0<=i) (h1:i<W*H):0<=uk W i/\uk W i<W*H/\uk W (uk W i)=i/\0<=i/W*W/\i/W*W+W<=W*H:=by
 obtain ⟨x,y,I,G,u,D,e,z,A⟩:=Ji C l h1;unfold uk;rw [z,A];have E:y*W+W - 1 - x=y*W+(W - 1 - x):=om;obtain ⟨s,F⟩:=wj (q:=y) (r:=W - 1 - x) (m:=W) om om;obtain ⟨f,J⟩:=ve (x:=W - 1) (y:=y) (W:=W) (H:=H) om om u D;rw [E,s,F];refine ⟨om,om,om,f,om⟩
theorem kw (ys:List Int) (a b:Nat) (v:Int) (ha:a<ys.length):(ys.set a v).getD b 0=if a=b then v else ys.getD b 0:=by
 simp only [List.getD,List.getElem?_set];by_cases h:a=b
 subst h;simp [ha];simp [h]
theorem zLz (f: ∀i,i<k->t i≠t k) (hr: ∀i,i<k->ys.getD (t i) 0=xs.getD i 0) (l:t k<ys.length) (hv:v=xs.getD k 0):
 ∀i,i<k+1->(ys.set (t k) v).getD (t i) 0=xs.getD i 0:=by
 intro i hi;rw [kw _ _ _ _ l];by_cases h:i=k
 subst h;rw [if_pos rfl,hv];rw [if_neg (fun e=>f i om e.symm)];exact hr i om
theorem zLy (inv:Nat->Nat) (hl:ys.length=n) (e: ∀j,j<n->inv j<n/\t (inv j)=j) (hr: ∀i,i<n->ys.getD (t i) 0=xs.getD i 0):
 ys=gen n (fun j=>xs.getD (inv j) 0):=by
 refine xk n _ ys hl (fun j f=>?_);obtain ⟨h1,h2⟩:=e j f;rw [<-hr _ h1,h2]
theorem zNe (e:1<=W) (hn:(n:Int)=W*H):
 ∀i,i<n->(uk W (i:Nat)).toNat<n/\(uk W ((uk W (i:Nat)).toNat:Nat)).toNat=i:=by
 intro i hi;obtain ⟨a,b,c,_⟩:=zFK (H:=H) (i:=i) e om om;refine ⟨om,?_⟩;rw [Int.toNat_of_nonneg a,c];omega
theorem zQZ (h: ∀i,i<n->t i<n/\inv (t i)=i) (hk:k<n): ∀i,i<k->t i≠t k:=by
 intro i hi e;have h1:=(h i om).2;have h2:=(h k hk).2;rw [e,h2] at h1;omega
theorem zCK (xs:List Int) (f:Int->Int) (k:Nat) (h:k<xs.length):(xs.map f).getD k 0=f (xs[k]?.getD 0):=by
 simp [List.getD,h]
end
end Go.Proofs.YtlenfgdjdianiaaGreatDoor
