/- Facts on which this claim rests, 1. -/
import Derived.Test.YtlenfgdjdianiaaGreatDoorGb
import Derived.Lib.Hide
import Derived.Lib.SmallJoins
import Derived.WalkLawsBesides
import Derived.WalkSpells
set_option linter.all false
set_option maxHeartbeats 6400000
namespace Go.Proofs.YtlenfgdjdianiaaGreatDoor
section
open Go.RowKit Tq Go.Proofs.Tryz
variable {B B' g j n : Nat} {M : Array Value} {W a b w w' w1 w2 : World} {ad o : Option Addr} {c : Value} {k : IntKind} {row : Option Nat} {xs ys : List Int}
theorem zV {a b:Bool} (h:a=b):Ending.returned (.bool a)= .returned (.bool b):=by rw [h]
theorem yh {a b:Int} (h:a=b):Ending.returned (.int k a)= .returned (.int k b):=by rw [h]
def Rd (w:World) (ad:Option Addr) (xs:List Int):Prop:=
 ∀k,k<xs.length-> ∃b off,ad=some ⟨b,off,none⟩/\b<w.heap.size/\w.cell? ⟨b,off+k,none⟩=some (.int .i64 (xs.getD k 0))
theorem Rd.at {w:World} {ad:Option Addr} {xs:List Int} (h:Rd w ad xs) (u:0<xs.length):
 ∃b off,ad=some ⟨b,off,none⟩/\b<w.heap.size/\ ∀k,k<xs.length->w.cell? ⟨b,off+k,none⟩=some (.int .i64 (xs.getD k 0)):=by
 obtain ⟨b,off,hb,hl,_⟩:=h 0 u;refine ⟨b,off,hb,hl,fun k hk=>?_⟩;obtain ⟨s,l,f,_,hc⟩:=h k hk;rw [hb] at f
 obtain ⟨rfl,rfl⟩:b=s/\off=l:=by
  have:=Yd f;simp only [Addr.mk.injEq] at this;exact ⟨this.1,this.2.1⟩
 exact hc
theorem Rd.below (h:Rd w ad xs) (hb:Below w w w'):Rd w' ad xs:=by
 intro k hk;obtain ⟨b,off,h1,h2,h3⟩:=h k hk;exact ⟨b,off,h1,Yb h2 hb.size,(hb.cell (p:=↑(b,off+k)) h2).trans h3⟩
theorem Rd.of_heap (h:Rd w ad xs) (he:w'.heap=w.heap):Rd w' ad xs:=by
 intro k hk;obtain ⟨b,off,h1,h2,h3⟩:=h k hk;exact ⟨b,off,h1,by rw [he];exact h2,(World.cell?_of_block (w:=w) (by rw [he])).trans h3⟩
theorem Rd.alloc {w:World} {ad:Option Addr} {xs:List Int} (h:Rd w ad xs) (o:Obj):Rd (w.alloc o) ad xs:=h.below (Joins.below_alloc1 w o)
theorem Rd.drew {w:World} {ad:Option Addr} {xs:List Int} (h:Rd w ad xs):Rd w.drew ad xs:=h.of_heap rfl
theorem Rd.nil (w:World) (ad:Option Addr):Rd w ad []:=fun _ hk=>by simp at hk
def Own (w:World) (g n cap:Nat) (xs:List Int):Prop:=
 xs.length=n/\ ∃cur,w.heap[g]? =some (.cells cur 3 (0,0))/\n<=cap/\cap<=maxLen/\cur.size=cap/\cur.toList.take n=xs.map (Value.int .i64)
namespace Own
variable {w w' : World} {g n cap : Nat} {xs : List Int}
theorem len (h:Own w g n cap xs):xs.length=n:=h.1
theorem lt (h:Own w g n cap xs):g<w.heap.size:=by
 obtain ⟨_,f,hg,_⟩:=h;exact (Array.getElem?_eq_some_iff.1 hg).1
theorem cell (h:Own w g n cap xs) {j:Nat} (l:j<n):w.cell? (g,j)=some ↑(xs.getD j 0):=by
 obtain ⟨hl,f,hg,_,_,_,s⟩:=h;rw [cell_of_row w g j f 3 (0,0) hg];have h2:(f.toList.take n)[j]? =(xs.map (Value.int .i64))[j]?:=by rw [s]
 rw [List.getElem?_take,if_pos l] at h2;simp only [Array.getElem?_toList] at h2;rw [h2];simp [List.getD,Ya (show j<xs.length by omega)]
theorem frozen (h:Own w g n cap xs) (j:Nat):w.frozen? (g,j)=false:=by
 obtain ⟨_,f,hg,_⟩:=h;exact frozen_of_row w g j f 3 hg
theorem set (h:Own w g n cap xs) (j:Nat) (v:Int):Own (w.setCell (g,j) ↑v) g n cap (xs.set j v):=by
 obtain ⟨hl,f,hg,h1,h2,h3,l⟩:=h;refine ⟨by simpa using hl,f.setIfInBounds j ↑v,heap_setCell_same w g j f _ _ hg,h1,h2,by simpa using h3,?_⟩;rw [Array.toList_setIfInBounds,List.map_set,<-l,List.take_set]
theorem of_block (h:Own w g n cap xs) (hb:w'.heap[g]? =w.heap[g]?):Own w' g n cap xs:=by
 obtain ⟨hl,f,hg,r⟩:=h;exact ⟨hl,f,hb.trans hg,r⟩
theorem below (h:Own w g n cap xs) (hb:Below B w w') (hg:g<B):Own w' g n cap xs:=h.of_block (hb.block g hg)
theorem grown (h:Own w g n cap xs) (hb:w.grownBy w' row) (hg:some g≠row):Own w' g n cap xs:=h.of_block (hb.block g h.lt hg)
theorem alloc (h:Own w g n cap xs) (o:Obj):Own (w.alloc o) g n cap xs:=h.of_block (Below.heap_alloc w o g h.lt)
theorem drewN (h:Own w g n cap xs) (m:Nat):Own (w.drewN m) g n cap xs:=h.of_block rfl
theorem other (h:Own w g n cap xs) {a:Addr} (ha:a.block≠g) (u:Value):Own (w.setCell a u) g n cap xs:=h.of_block (Below.heap_setCell w a u g om)
theorem rd (h:Own w g n cap xs):Rd w ↑g xs:=fun k hk=>⟨g,0,rfl,h.lt,by rw [Nat.zero_add];exact h.cell (og h.len)⟩
end Own
def JX (M:Array Value) (n:Nat) (xs:List Int):Prop:=xs.length=n/\n<=maxLen/\M.size=n/\M.toList=xs.map (Value.int .i64)
theorem JX.zero (n:Nat) (hn:n<=maxLen):JX (madeCells #[Z0] n) n (List.replicate n 0):=
 ⟨sI,hn,size_madeCells _ _,by rw [toList_madeCells_one];simp⟩
theorem JX.own (h:JX M n xs) (w:World):Own (w.alloc (.cells M 3)) w n n xs:=
 ⟨h.1,M,heap_alloc_new w _,nI,h.2.1,h.2.2.1,by rw [h.2.2.2,Yk (by simp [h.1])]⟩
theorem JX.own' (h:JX M n xs) (w:World) (hg:g=w.heap.size):Own (w.alloc (.cells M 3)) g n n xs:=by
 subst hg;exact h.own w
def OwnA (w:World) (B:Nat) (ad:Option Addr) (n cap:Nat) (xs:List Int):Prop:=
 (ad=none/\n=0/\cap=0/\xs=[])\/ ∃g,ad=some ⟨g,0,none⟩/\B<=g/\Own w g n cap xs
def zO:Option Addr->Option Nat
 | some a=>some a.block
 | none=>none
namespace OwnA
variable {w w' : World} {B n cap : Nat} {ad : Option Addr} {xs : List Int}
theorem mk (h:Own w g n cap xs) (f:B<=g):OwnA w B ↑g n cap xs:= .inr ⟨g,rfl,f,h⟩
theorem none (w:World) (B:Nat):OwnA w B none 0 0 []:= .inl ⟨rfl,rfl,rfl,rfl⟩
theorem len (h:OwnA w B ad n cap xs):xs.length=n:=by
 rcases h with ⟨_,rfl,_,rfl⟩ | ⟨g,_,_,h⟩
 rfl;exact h.len
theorem rd (h:OwnA w B ad n cap xs):Rd w ad xs:=by
 rcases h with ⟨_,_,_,rfl⟩ | ⟨g,rfl,_,h⟩
 exact Rd.nil _ _;exact h.rd
theorem below {B':Nat} (h:OwnA w B ad n cap xs) (hb:Below B' w w') (hg:w.heap.size<=B'):OwnA w' B ad n cap xs:=by
 rcases h with h | ⟨g,h1,h2,h⟩
 exact .inl h;exact .inr ⟨g,h1,h2,h.below hb (og h.lt)⟩
theorem grown {row:Option Nat} (h:OwnA w B ad n cap xs) (hb:w.grownBy w' row) (hg: ∀k,row=some k->k<B):OwnA w' B ad n cap xs:=by
 rcases h with h | ⟨g,h1,h2,h⟩
 exact .inl h;exact .inr ⟨g,h1,h2,h.grown hb (fun e=>by have:=hg g e.symm;omega)⟩
theorem grown2 (h:OwnA w B ad n cap xs) (hb:w.grownBy w' row) (hg: ∀k,row=some k->w.heap.size<=k\/zO ad≠some k):OwnA w' B ad n cap xs:=by
 rcases h with h | ⟨g,h1,h2,h⟩
 exact .inl h;refine .inr ⟨g,h1,h2,h.grown hb (fun e=>?_)⟩;have hl:=h.lt;rcases hg g e.symm with h3 | h3
 omega;subst h1;simp [zO] at h3
theorem drewN (h:OwnA w B ad n cap xs) (m:Nat):OwnA (w.drewN m) B ad n cap xs:=by
 rcases h with h | ⟨g,h1,h2,h⟩
 exact .inl h;exact .inr ⟨g,h1,h2,h.drewN m⟩
theorem drew (h:OwnA w B ad n cap xs):OwnA w.drew B ad n cap xs:=h.drewN 1
theorem zA (h:OwnA w B ad n cap xs) (hb:Below w w w'):OwnA w' B ad n cap xs:=h.below hb nI
theorem alloc (h:OwnA w B ad n cap xs) (o:Obj):OwnA (w.alloc o) B ad n cap xs:=h.below (Joins.below_alloc1 w o) nI
theorem zI (h:OwnA w B ad n cap xs) (hb:w.grownBy w' (zO o)) (f: ∀b,zO o=some b->zO ad≠some b):OwnA w' B ad n cap xs:=
 h.grown2 hb (fun k hk=> .inr (f k hk))
theorem bd (h:OwnA w B ad n cap xs): ∀b,zO ad=some b->B<=b/\b<w.heap.size:=by
 intro b hb;rcases h with ⟨rfl,_⟩ | ⟨g,rfl,h2,h⟩
 simp [zO] at hb;simp only [zO,Option.some.injEq] at hb;subst hb;exact ⟨h2,h.lt⟩
theorem mono (h:OwnA w B ad n cap xs) (f:B'<=B):OwnA w B' ad n cap xs:=by
 rcases h with h | ⟨g,h1,h2,h⟩
 exact .inl h;exact .inr ⟨g,h1,om,h⟩
end OwnA
theorem oN {w:World} {B:Nat}:OwnA w B .none 0 0 []:=OwnA.none w B
theorem zM (h:Below w w w1) (o:Obj):Below w w (w1.alloc o):=h.alloc h.size o
theorem zL (h:Below w w w1) (hb:Below w1 w1 w2):Below w w w2:=h.trans (hb.mono h.size)
theorem zBZ (hb:Below B W w1):(∀b o,b<B->w1.cell? ⟨b,o,none⟩=W.cell? ⟨b,o,none⟩)/\(∀b o,b<B->w1.frozen? ⟨b,o,none⟩=W.frozen? ⟨b,o,none⟩):=
 ⟨fun b o h=>hb.cell (p:=⟨b,o,none⟩) h,fun b o h=>hb.frozen (p:=⟨b,o,none⟩) h⟩
def Blk (w:World) (g T:Nat) (cs:Array Value):Prop:=w.heap[g]? =some (.cells cs T (0,0))
namespace Blk
variable {w w' : World} {g T : Nat} {cs : Array Value}
theorem lt (h:Blk w g T cs):g<w.heap.size:=(Array.getElem?_eq_some_iff.1 h).1
theorem cell (h:Blk w g T cs) (i:Nat):w.cell? (g,i)=cs[i]?:=Joins.cell_of_block h i
theorem frozen (h:Blk w g T cs) (i:Nat):w.frozen? (g,i)=false:=Joins.unfrozen_of_block h i
theorem of_block (h:Blk w g T cs) (hb:w'.heap[g]? =w.heap[g]?):Blk w' g T cs:=hb.trans h
theorem below (h:Blk w g T cs) (hb:Below B w w') (hg:g<B):Blk w' g T cs:=h.of_block (hb.block g hg)
theorem zA (h:Blk w g T cs) (hb:Below w w w'):Blk w' g T cs:=h.below hb h.lt
theorem alloc (h:Blk w g T cs) (o:Obj):Blk (w.alloc o) g T cs:=h.of_block (Below.heap_alloc w o g h.lt)
theorem drewN (h:Blk w g T cs) (m:Nat):Blk (w.drewN m) g T cs:=h.of_block rfl
theorem grown (h:Blk w g T cs) (hb:w.grownBy w' row) (hg:some g≠row):Blk w' g T cs:=h.of_block (hb.block g h.lt hg)
theorem drew (h:Blk w g T cs):Blk w.drew g T cs:=h.of_block rfl
theorem zI (h:Blk w g T cs) (hb:w.grownBy w' (zO o)) (f: ∀b,zO o=some b->b≠g):Blk w' g T cs:=
 h.grown hb (fun e=>f g e.symm rfl)
theorem other (h:Blk w g T cs) {a:Addr} (ha:a.block≠g) (u:Value):Blk (w.setCell a u) g T cs:=h.of_block (Below.heap_setCell w a u g om)
theorem set (h:Blk w g T cs) (i:Nat) (u:Value):Blk (w.setCell (g,i) u) g T (cs.setIfInBounds i u):=Joins.block_setCell h u
theorem new (w:World) (T:Nat) (cs:Array Value):Blk (w.alloc (.cells cs T)) w T cs:=heap_alloc_new w _
theorem zD (T:Nat) (cs:Array Value) (h:g=w.heap.size):Blk (w.alloc (.cells cs T)) g T cs:=by subst h;exact new w T cs
theorem c3 {a b:Value} (h:Blk w g T #[a,b,c]):g<w.heap.size/\JA w g a b c:=
 ⟨h.lt,by rw [h.cell];rfl,by rw [h.cell];rfl,by rw [h.cell];rfl⟩
theorem f3 (h:Blk w g T cs):w.frozen? g=false/\w.frozen? (g,1)=false/\w.frozen? (g,2)=false:=⟨h.frozen 0,h.frozen 1,h.frozen 2⟩
end Blk
theorem SV (hg:w.grownBy w' row) (f:B<=w.heap.size) (hr: ∀k,row=some k->B<=k):Below B w w':=(Below.refl B w).grown hg f hr
theorem zY {c:World} (h:a.grownBy b row) (k:b.grownBy c row):a.grownBy c row:=
 ⟨k.os.trans h.os,k.tape.trans h.tape,k.output.trans h.output,Yx h.size k.size,fun i hi hr=>(k.block i (Yb hi h.size) hr).trans (h.block i hi hr)⟩
theorem yU (w:World) (row:Option Nat):w.grownBy w row:=World.grownBy.refl w row
theorem jH (h:a.grownBy b row) (n:Nat):a.grownBy (b.drewN n) row:=⟨h.os,h.tape,h.output,h.size,h.block⟩
theorem yX (h:a.grownBy b (some g)) (u:Value):a.grownBy (b.setCell (g,j) u) (some g):=
 zY h ⟨rfl,rfl,rfl,by simp [World.setCell],fun k _ hk=>Below.heap_setCell b _ u k (fun e=>hk (by simp [e]))⟩
theorem CY {k:Nat} (h1:k<xs.length) (h2:k<ys.length) (h:xs.take k=ys.take k) (he:xs.getD k 0=ys.getD k 0):xs.take (k+1)=ys.take (k+1):=by
 rw [Ym h1,Ym h2,h];simp only [List.getD,Ya h1,Ya h2,Yz] at he;rw [he]
theorem GJ (w:World) (q:Nat): ∃k,w.drewN q=w.drewN k:=⟨q,rfl⟩
theorem GK (w:World) (q m:Nat): ∃k,(w.drewN q).drewN m=w.drewN k:=⟨q+m,sI⟩
def vC (s:Int) (n:Nat):List Int:=(List.range n).map (fun (i:Nat)=>s+(i:Int))
theorem Xv (s:Int) (n:Nat):(vC s n).length=n:=by simp [vC]
theorem II (s:Int) (n i:Nat) (h:i<n):(vC s n).getD i 0=s+(i:Int):=by
 simp [vC,List.getD,h]
def zy (ys xs:List Int) (k:Nat):List Int:=ys.take k++xs.drop k
theorem xB (ys xs:List Int):zy ys xs 0=xs:=by simp [zy]
theorem YL (ys xs:List Int) (h:xs.length=ys.length):zy ys xs ys.length=ys:=by rw [zy,Yk om,List.drop_of_length_le om,List.append_nil]
theorem SN (xs:List Int) (k:Nat):zy xs xs k=xs:=by simp [zy]
theorem jC (ys xs:List Int) (k:Nat) (h1:ys.length=k) (h2:xs.length=k):zy ys xs k=ys:=by rw [zy,Yk om,List.drop_of_length_le om,List.append_nil]
theorem yx (ys xs:List Int) (k:Nat) (v:Int) (hk:k<ys.length) (f:k<xs.length) (hv:ys.getD k 0=v):(zy ys xs k).set k v=zy ys xs (k+1):=by
 subst hv;apply List.ext_getElem?;intro i;simp only [zy,List.getElem?_set,Yn,Yj,List.length_drop];by_cases h:k=i
 subst h;rw [if_pos rfl,if_pos om,List.getElem?_append_left sO,List.getElem?_take,if_pos om];simp [List.getD,hk];rw [if_neg h];by_cases hi:i<k
 rw [List.getElem?_append_left sO,List.getElem?_append_left sO,List.getElem?_take,List.getElem?_take,if_pos hi,if_pos om];rw [List.getElem?_append_right sO,List.getElem?_append_right sO,List.getElem?_drop,List.getElem?_drop];simp only [Yj];congr 1;omega
end
section
variable {H W m : Int} {n : Nat} {xs : List Int}
open Tq Go.Proofs.Tryz
def yV (W H:Int):Bool:=decide (1<=W/\W<=64/\1<=H/\H<=64/\W*H<=1024)
def xM (xs:List Int) (m:Int):Bool:=xs.all (fun v=>decide (0<=v/\v<=m))
def zT (W H:Int) (xs:List Int) (m:Int):Bool:=yV W H && (decide ((xs.length:Int)=W*H) && xM xs m)
theorem BQ (W H:Int) (h1:1<=W) (h2:W<=64) (h3:1<=H) (h4:H<=64):1<=W*H/\W*H<=4096:=by
 constructor;have:=Yr h1 h3 om om;omega;have:=Yr h2 h4 om om;omega
theorem NC (h1:1<=W) (h2:W<=64) (h3:1<=H) (h4:H<=64):yV W H=decide (W*H<=1024):=by unfold yV;simp [h1,h2,h3,h4]
theorem Hw (c: ¬(1<=W/\W<=64/\1<=H/\H<=64)):yV W H=false:=by
 unfold yV;rw [decide_eq_false_iff_not];exact fun h=>c ⟨h.1,h.2.1,h.2.2.1,h.2.2.2.1⟩
theorem yP (h:yV W H=true):1<=W/\W<=64/\1<=H/\H<=64/\W*H<=1024/\1<=W*H:=by
 unfold yV at h;have h:=of_decide_eq_true h;exact ⟨h.1,h.2.1,h.2.2.1,h.2.2.2.1,h.2.2.2.2,(BQ W H h.1 h.2.1 h.2.2.1 h.2.2.2.1).1⟩
theorem EC (xs:List Int) (k:Nat) (m:Int) (hk:k<xs.length):xM (xs.take (k+1)) m=(xM (xs.take k) m && decide (0<=xs[k]?.getD 0/\xs[k]?.getD 0<=m)):=by
 unfold xM;rw [Ym hk,List.all_append];simp [Ya hk]
theorem NW (xs:List Int) (k:Nat) (m:Int) (hk:k<xs.length) (h: ¬(0<=xs[k]?.getD 0/\xs[k]?.getD 0<=m)):xM xs m=false:=by
 unfold xM;rw [List.all_eq_false];refine ⟨xs[k],List.getElem_mem hk,?_⟩;simpa [Ya hk] using h
theorem jY (h:xM xs m=true) (k:Nat) (hk:k<xs.length):0<=xs[k]?.getD 0/\xs[k]?.getD 0<=m:=by
 unfold xM at h;have:=List.all_eq_true.1 h xs[k] (List.getElem_mem hk);simpa [Ya hk] using this
theorem Mi (h:yV W H=false):zT W H xs m=false:=by unfold zT;simp [h]
theorem Mj (hn:xs.length=n) (h: ¬(n:Int)=W*H):zT W H xs m=false:=by unfold zT;rw [hn];simp [h]
theorem KU (hn:xs.length=n) (h1:yV W H=true) (h:(n:Int)=W*H):zT W H xs m=xM xs m:=by unfold zT;rw [hn];simp [h,h1]
theorem yu (hn:xs.length=n) (h:zT W H xs m=true):yV W H=true/\(n:Int)=W*H/\xM xs m=true:=by
 unfold zT at h;simp only [Bool.and_eq_true,decide_eq_true_eq] at h;exact ⟨h.1,by rw [<-hn];exact h.2.1,h.2.2⟩
def gen (n:Nat) (f:Nat->Int):List Int:=(List.range n).map f
theorem zk (n:Nat) (f:Nat->Int):(gen n f).length=n:=by simp [gen]
theorem yY (n:Nat) (f:Nat->Int) (k:Nat) (h:k<n):(gen n f).getD k 0=f k:=by simp [gen,List.getD,h]
theorem jP (n:Nat) (f:Nat->Int) (ys:List Int) (hl:ys.length=n) (h: ∀k,k<n->ys.getD k 0=f k):ys=gen n f:=by
 apply List.ext_getElem?;intro i;by_cases hi:i<n
 have:=h i hi;simp only [List.getD,Ya (show i<ys.length by omega),Yz] at this;rw [Ya (show i<ys.length by omega),this];simp [gen,hi];rw [Yv om,Yv (by simp [gen];omega)]
def xE:List Int->Int
 | []=>0
 | x::xs=>x+xE xs
theorem Kj (a b:List Int):xE (a++b)=xE a+xE b:=by
 induction a with
 | nil=>simp [xE]
 | cons x a f=>simp [xE,f];omega
theorem BL (xs:List Int) (k:Nat) (h:k<xs.length):xE (xs.take (k+1))=xE (xs.take k)+xs[k]?.getD 0:=by
 rw [Ym h,Kj];simp [xE,h]
theorem Xn (h:xM xs 255=true) (k:Nat):0<=xE (xs.take k)/\xE (xs.take k)<=255*k:=by
 induction k with
 | zero=>simp [xE]
 | succ k f=>
  by_cases hk:k<xs.length
  have:=jY h k hk;rw [BL xs k hk];omega;rw [Yk om] at f⊢;omega
def zZ (v:Int) (xs:List Int):Nat:=(xs.filter (fun x=>x==v)).length
theorem GY (v:Int) (xs:List Int) (k:Nat) (h:k<xs.length) (e:xs[k]?.getD 0=v):zZ v (xs.take (k+1))=zZ v (xs.take k)+1:=by
 simp only [Ya h,Yz] at e;unfold zZ;rw [Ym h,List.filter_append,Yn,e];simp
theorem MP (v:Int) (xs:List Int) (k:Nat) (h:k<xs.length) (e: ¬xs[k]?.getD 0=v):zZ v (xs.take (k+1))=zZ v (xs.take k):=by
 simp only [Ya h,Yz] at e;unfold zZ;rw [Ym h,List.filter_append,Yn];simp [e]
theorem Uk (v:Int) (xs:List Int) (k:Nat):zZ v (xs.take k)<=k:=by
 unfold zZ;have:=List.length_filter_le (fun x=>x==v) (xs.take k);simp at this⊢;omega
structure Pic where
 W:Int
 H:Int
 ink:List Int
def xF:Pic:=⟨0,0,[]⟩
def kS (W H ink:Int):Pic × Bool:=if yV W H=true/\0<=ink/\ink<=255 then (⟨W,H,List.replicate (W*H).toNat ink⟩,true) else (xF,false)
def kX (W H:Int):Pic × Bool:=if yV W H=true then (⟨W,H,gen (W*H).toNat (fun i=>if 1<W then (i:Int) % W*255/(W - 1) else 0)⟩,true) else (xF,false)
def Xu (W H:Int) (xs:List Int):Int:=if zT W H xs 255=true then xE xs else 0
def VG (W H:Int) (xs:List Int) (v:Int):Int:=if zT W H xs 255=true then (zZ v xs:Int) else 0
def KN (W H:Int) (xs:List Int):Pic:=if zT W H xs 255=true then ⟨W,H,gen (W*H).toNat (fun i=>xs.getD ((i:Int)/W*W+W - 1 - (i:Int) % W).toNat 0)⟩ else xF
def jc (W H:Int) (xs:List Int) (W' H':Int) (ys:List Int):Bool:=zT W H xs 255 && (zT W' H' ys 255 && decide (W=W'/\H=H'))
def uq (w:World) (R:Pic) (e:Ending) (w':World):Prop:=
 ∃a n c,e= .returned (.agg #[R.W,R.H, .slice a n c])/\OwnA w' w a n c R.ink/\n<=1048576/\Go.RowKit.Below w w w'
def KE (w:World) (R:Pic × Bool) (e:Ending) (w':World):Prop:=
 ∃a n c,e= .returned (.tuple #[.agg #[R.1.W,R.1.H, .slice a n c], .bool R.2])/\OwnA w' w a n c R.1.ink/\n<=1048576/\Go.RowKit.Below w w w'
end
section
open Go.RowKit Tq Go.Proofs.Tryz
variable {a : Addr} {j k : Nat}
structure PV where
 W:Int
 H:Int
 a:Option Addr
 n:Nat
 c:Nat
 ink:List Int
instance:Coe PV (Array Value):=⟨fun q=>#[.int .i64 q.W, .int .i64 q.H, .slice q.a q.n q.c]⟩
def PV.pic (p:PV):Pic:=⟨p.W,p.H,p.ink⟩
def PV.val (p:PV):Value:= .agg ↑p
def PV.cells (p:PV):List Value:=[↑p.W,↑p.H, .slice p.a p.n p.c]
def noV:PV:=⟨0,0,none,0,0,[]⟩
def pv (L:List PV) (k:Nat):PV:=L.getD k noV
def yt (L:List PV):List Value:=L.flatMap PV.cells
theorem Ap (L:List PV):(yt L).length=L.length*3:=by
 induction L with
 | nil=>rfl
 | cons p r f=>unfold yt at f⊢;simp only [List.flatMap_cons,Yn,f];simp [PV.cells];omega
theorem VK: ∀(L:List PV) (k:Nat),k<L.length->(yt L)[k*3]? =some ↑(pv L k).W/\(yt L)[k*3+1]? =some ↑(pv L k).H/\(yt L)[k*3+2]? =some (.slice (pv L k).a (pv L k).n (pv L k).c)
 | [],k,h=>by simp at h
 | p::r,0,h=>by simp [yt,PV.cells,pv]
 | p::r,k+1,h=>by
  have s:=VK r k (by simpa using h);have f:(k+1)*3=k*3+1+1+1:=om;have l:yt (p::r)=↑p.W::↑p.H:: .slice p.a p.n p.c::yt r:=by simp [yt,PV.cells]
  rw [l,f];simpa [pv] using s
theorem wE {L:List PV} {p:PV} (h:k<L.length):pv (L++ [p]) k=pv L k:=by
 unfold pv;simp [List.getD,List.getElem?_append_left h]
theorem Xa {L:List PV} {p:PV}:pv (L++ [p]) L.length=p:=by
 unfold pv;simp [List.getD]
theorem xZ {L:List PV} {p:PV} (h:k<L.length):pv (L.set k p) k=p:=by
 unfold pv;simp [List.getD,List.getElem?_set,h]
theorem jE {L:List PV} {p:PV} (h:k≠j):pv (L.set k p) j=pv L j:=by
 unfold pv;simp [List.getD,List.getElem?_set,h]
def RdV (w:World) (ad:Option Addr) (L:List PV):Prop:=
 ∀k,k<L.length-> ∃b off,ad=some ⟨b,off,none⟩/\b<w.heap.size/\w.cell? ⟨b,off+k*3,none⟩=some (.int .i64 (pv L k).W)/\w.cell? ⟨b,off+k*3+1,none⟩=some (.int .i64 (pv L k).H)/\w.cell? ⟨b,off+k*3+2,none⟩=some (.slice (pv L k).a (pv L k).n (pv L k).c)/\(pv L k).ink.length=(pv L k).n/\Rd w (pv L k).a (pv L k).ink
namespace RdV
variable {w w' : World} {ad : Option Addr} {L : List PV}
theorem nil (w:World) (ad:Option Addr):RdV w ad []:=fun _ hk=>by simp at hk
theorem below (h:RdV w ad L) (hb:Below w w w'):RdV w' ad L:=fun k hk=>by
 obtain ⟨b,off,h1,h2,h3,h4,f,l,s⟩:=h k hk;exact ⟨b,off,h1,Yb h2 hb.size,(hb.cell (p:=↑(b,off+k*3)) h2).trans h3,(hb.cell (p:=↑(b,off+k*3+1)) h2).trans h4,(hb.cell (p:=↑(b,off+k*3+2)) h2).trans f,l,s.below hb⟩
theorem alloc (h:RdV w ad L) (o:Obj):RdV (w.alloc o) ad L:=h.below (Joins.below_alloc1 w o)
theorem drew (h:RdV w ad L):RdV w.drew ad L:=h.below bR.drew
theorem cellsAt (h:RdV w ad L) (hk:k<L.length): ∃b off,ad=some ⟨b,off,none⟩/\b<w.heap.size/\w.cell? ⟨b,off+k*3,none⟩=some ↑(pv L k).W/\w.cell? ⟨b,off+k*3+1,none⟩=some ↑(pv L k).H/\w.cell? ⟨b,off+k*3+2,none⟩=some (.slice (pv L k).a (pv L k).n (pv L k).c):=by
 obtain ⟨b,off,h1,h2,h3,h4,f,_⟩:=h k hk;exact ⟨b,off,h1,h2,h3,h4,f⟩
theorem len (h:RdV w ad L) (hk:k<L.length):(pv L k).ink.length=(pv L k).n:=by
 obtain ⟨b,off,_,_,_,_,_,f,_⟩:=h k hk;exact f
theorem rd (h:RdV w ad L) (hk:k<L.length):Rd w (pv L k).a (pv L k).ink:=by
 obtain ⟨b,off,_,_,_,_,_,_,f⟩:=h k hk;exact f
end RdV
def RowV (w:World) (g cap:Nat) (L:List PV):Prop:=
 ∃cur,w.heap[g]? =some (.cells cur 31 (0,0))/\L.length<=cap/\cap<=maxLen/\cur.size=cap*3/\cur.toList.take (L.length*3)=yt L
namespace RowV
variable {w w' : World} {g cap : Nat} {L : List PV}
theorem lt (h:RowV w g cap L):g<w.heap.size:=by
 obtain ⟨f,hg,_⟩:=h;exact (Array.getElem?_eq_some_iff.1 hg).1
theorem cellAt (h:RowV w g cap L) (l:j<L.length*3):w.cell? (g,j)=(yt L)[j]?:=by
 obtain ⟨f,hg,_,_,_,s⟩:=h;rw [cell_of_row w g j f 31 (0,0) hg,<-s,List.getElem?_take,if_pos l];simp
theorem frozen (h:RowV w g cap L) (j:Nat):w.frozen? (g,j)=false:=by
 obtain ⟨f,hg,_⟩:=h;exact frozen_of_row w g j f 31 hg
theorem of_block (h:RowV w g cap L) (hb:w'.heap[g]? =w.heap[g]?):RowV w' g cap L:=by
 obtain ⟨f,hg,r⟩:=h;exact ⟨f,hb.trans hg,r⟩
theorem below (h:RowV w g cap L) (hb:Below w w w'):RowV w' g cap L:=h.of_block (hb.block g h.lt)
theorem other (h:RowV w g cap L) (ha:a.block≠g) (u:Value):RowV (w.setCell a u) g cap L:=h.of_block (Below.heap_setCell w a u g om)
theorem setAt (h:RowV w g cap L) {p:PV} (hk:k<L.length) (v:Value) (hf:(yt L).set j v=yt (L.set k p)):RowV (w.setCell (g,j) v) g cap (L.set k p):=by
 obtain ⟨f,hg,h1,h2,h3,l⟩:=h;refine ⟨f.setIfInBounds j v,heap_setCell_same w g j f _ _ hg,by simpa using h1,h2,by simpa using h3,?_⟩;rw [List.length_set,Array.toList_setIfInBounds,<-hf,<-l,List.take_set]
end RowV
theorem Aq: ∀(L:List PV) (k:Nat) (x:Int),k<L.length->(yt L).set (k*3) ↑x=yt (L.set k {pv L k with W:=x})
 | [],k,x,h=>by simp at h
 | p::r,0,x,h=>by simp [yt,PV.cells,pv]
 | p::r,k+1,x,h=>by
  have s:=Aq r k x (by simpa using h);have l:(k+1)*3=k*3+1+1+1:=om;have f: ∀(q:PV) (r:List PV),yt (q::r)=↑q.W::↑q.H:: .slice q.a q.n q.c::yt r:=fun q r=>by simp [yt,PV.cells]
  rw [l,f];simp only [List.set_cons_succ,s];rw [f];simp [pv]
theorem Ar: ∀(L:List PV) (k:Nat) (x:Int),k<L.length->(yt L).set (k*3+1) ↑x=yt (L.set k {pv L k with H:=x})
 | [],k,x,h=>by simp at h
 | p::r,0,x,h=>by simp [yt,PV.cells,pv]
 | p::r,k+1,x,h=>by
  have s:=Ar r k x (by simpa using h);have l:(k+1)*3+1=k*3+1+1+1+1:=om;have f: ∀(q:PV) (r:List PV),yt (q::r)=↑q.W::↑q.H:: .slice q.a q.n q.c::yt r:=fun q r=>by simp [yt,PV.cells]
  rw [l,f];simp only [List.set_cons_succ];rw [s,f];simp [pv]
structure OwnV (w:World) (B:Nat) (ad:Option Addr) (n cap:Nat) (L:List PV):Prop where
 len:L.length=n
 row:(ad=none/\n=0/\cap=0)\/ ∃g,ad=some ⟨g,0,none⟩/\B<=g/\RowV w g cap L
 ink: ∀k,k<n->OwnA w B (pv L k).a (pv L k).n (pv L k).c (pv L k).ink
 off: ∀k b,k<n->zO (pv L k).a=some b->zO ad≠some b
 apart: ∀j k b,j<k->k<n->zO (pv L j).a=some b->zO (pv L k).a≠some b
namespace OwnV
variable {w w' : World} {B n cap : Nat} {ad : Option Addr} {L : List PV}
theorem nil (w:World) (B:Nat):OwnV w B none 0 0 []:=⟨rfl, .inl ⟨rfl,rfl,rfl⟩,fun k hk=>om,fun k b hk=>om,fun j k b h1 hk=>om⟩
theorem rd (h:OwnV w B ad n cap L):RdV w ad L:=fun k hk=>by
 have f:k<n:=by rw [<-h.len];exact hk
 rcases h.row with ⟨_,z,_⟩ | ⟨g,hg,_,hr⟩
 omega;obtain ⟨l,s,u⟩:=VK L k hk;refine ⟨g,0,hg,hr.lt,?_,?_,?_,(h.ink k f).len,(h.ink k f).rd⟩;rw [Nat.zero_add,hr.cellAt om,l];rw [Nat.zero_add,hr.cellAt om,s];rw [Nat.zero_add,hr.cellAt om,u]
theorem below (h:OwnV w B ad n cap L) (hb:Below w w w'):OwnV w' B ad n cap L:=
 ⟨h.len,by
  rcases h.row with f | ⟨g,hg,l,hr⟩
  exact .inl f
  exact .inr ⟨g,hg,l,hr.below hb⟩,fun k hk=>(h.ink k hk).zA hb,h.off,h.apart⟩
theorem alloc (h:OwnV w B ad n cap L) (o:Obj):OwnV (w.alloc o) B ad n cap L:=h.below (Joins.below_alloc1 w o)
theorem drew (h:OwnV w B ad n cap L):OwnV w.drew B ad n cap L:=h.below bR.drew
theorem mono {B':Nat} (h:OwnV w B ad n cap L) (l:B'<=B):OwnV w B' ad n cap L:=
 ⟨h.len,by
  rcases h.row with f | ⟨g,hg,h1,hr⟩
  exact .inl f
  exact .inr ⟨g,hg,om,hr⟩,fun k hk=>(h.ink k hk).mono l,h.off,h.apart⟩
def blocks (ad:Option Addr) (L:List PV) (i:Nat):Prop:=zO ad=some i\/ ∃k,k<L.length/\zO (pv L k).a=some i
theorem bd (h:OwnV w B ad n cap L): ∀i,blocks ad L i->B<=i/\i<w.heap.size:=by
 rintro i (hi | ⟨k,hk,hi⟩);rcases h.row with ⟨f,_⟩ | ⟨g,hg,h1,hr⟩
 rw [f] at hi;cases hi;rw [hg] at hi;simp only [zO,Option.some.injEq] at hi;subst hi;exact ⟨h1,hr.lt⟩;exact (h.ink k (by rw [<-h.len];exact hk)).bd i hi
end OwnV
end
section
variable {H W b c e i q v x y : Int} {inv t : Nat → Nat} {k m n : Nat} {xs ys : List Int}
open Tq Go.Proofs.Tryz
theorem KJ {r m:Int} (f:0<=r) (h1:r<m):(q*m+r)/m=q/\(q*m+r) % m=r:=by
 constructor;rw [Int.add_comm,Int.add_mul_ediv_right _ _ om,Int.ediv_eq_zero_of_lt f h1];omega;rw [Int.add_comm,Int.add_mul_emod_self_right,Int.emod_eq_of_lt f h1]
theorem Qq (l:1<=W) (f:0<=i) (h1:i<W*H): ∃x y,0<=x/\x<W/\0<=y/\y<H/\i=y*W+x/\i % W=x/\i/W=y:=by
 refine ⟨i % W,i/W,Yg _ om,Ye _ om,Yw f om,?_,?_,rfl,rfl⟩;exact Int.ediv_lt_of_lt_mul om (by rw [Ys];exact h1);have:=Int.mul_ediv_add_emod i W;rw [Ys] at this;omega
theorem wF (s:0<=x) (h1:x<W) (h2:0<=y) (h3:y<H):0<=y*W/\y*W+x<W*H:=by
 have l:0<=y*W:=Int.mul_nonneg h2 om;have f:(y+1)*W<=H*W:=Yo om om;rw [Int.add_mul,Int.one_mul,Ys H W] at f;omega
def Zr (W i:Int):Int:=i/W*W+W - 1 - i % W
theorem Pb (z:1<=W) (u:0<=i) (h1:i<W*H):0<=Zr W i/\Zr W i<W*H/\Zr W (Zr W i)=i/\0<=i/W*W/\i/W*W+W<=W*H:=by
 obtain ⟨x,y,I,J,E,F,e,l,s⟩:=Qq z u h1;unfold Zr;rw [l,s];have f:y*W+W - 1 - x=y*W+(W - 1 - x):=om;obtain ⟨A,C⟩:=KJ (q:=y) (r:=W - 1 - x) (m:=W) om om;obtain ⟨D,G⟩:=wF (x:=W - 1) (y:=y) (W:=W) (H:=H) om om E F;rw [f,A,C];refine ⟨om,om,om,D,om⟩
theorem vS (ys:List Int) (a b:Nat) (v:Int) (ha:a<ys.length):(ys.set a v).getD b 0=if a=b then v else ys.getD b 0:=by
 simp only [List.getD,List.getElem?_set];by_cases h:a=b
 subst h;simp [ha];simp [h]
theorem nT (f: ∀i,i<k->t i≠t k) (hr: ∀i,i<k->ys.getD (t i) 0=xs.getD i 0) (l:t k<ys.length) (hv:v=xs.getD k 0):
 ∀i,i<k+1->(ys.set (t k) v).getD (t i) 0=xs.getD i 0:=by
 intro i hi;rw [vS _ _ _ _ l];by_cases h:i=k
 subst h;rw [if_pos rfl,hv];rw [if_neg (fun e=>f i om e.symm)];exact hr i om
theorem nS (inv:Nat->Nat) (hl:ys.length=n) (f: ∀j,j<n->inv j<n/\t (inv j)=j) (hr: ∀i,i<n->ys.getD (t i) 0=xs.getD i 0):
 ys=gen n (fun j=>xs.getD (inv j) 0):=by
 refine jP n _ ys hl (fun j l=>?_);obtain ⟨h1,h2⟩:=f j l;rw [<-hr _ h1,h2]
theorem tZ (f:1<=W) (hn:(n:Int)=W*H):
 ∀i,i<n->(Zr W (i:Nat)).toNat<n/\(Zr W ((Zr W (i:Nat)).toNat:Nat)).toNat=i:=by
 intro i hi;obtain ⟨a,b,c,_⟩:=Pb (H:=H) (i:=i) f om om;refine ⟨om,?_⟩;rw [Int.toNat_of_nonneg a,c];omega
theorem zDC (h: ∀i,i<n->t i<n/\inv (t i)=i) (hk:k<n): ∀i,i<k->t i≠t k:=by
 intro i hi e;have h1:=(h i om).2;have h2:=(h k hk).2;rw [e,h2] at h1;omega
theorem LC (xs:List Int) (f:Int->Int) (k:Nat) (h:k<xs.length):(xs.map f).getD k 0=f (xs[k]?.getD 0):=by
 simp [List.getD,h]
structure Prt where
 dx:Int
 dy:Int
 wt:Int
def zDu:Prt:=⟨0,0,0⟩
def Prt.nums (p:Prt):List Int:=[p.dx,p.dy,p.wt]
def flat (ks:List Prt):List Int:=ks.flatMap Prt.nums
def prt (ks:List Prt) (k:Nat):Prt:=ks.getD k zDu
theorem sG (ks:List Prt):(flat ks).length=3*ks.length:=by
 induction ks with
 | nil=>rfl
 | cons p ks f=>simp only [flat,List.flatMap_cons,Yn,List.length_cons] at f⊢;rw [f];simp [Prt.nums];omega
theorem iD (p:Prt) (ks:List Prt):flat (p::ks)=p.dx::p.dy::p.wt::flat ks:=rfl
theorem zAQ (p:Prt) (ks:List Prt) (k:Nat):prt (p::ks) (k+1)=prt ks k:=by simp [prt]
theorem zBv (ks:List Prt) (k:Nat) (h:k<ks.length):(flat ks).getD (3*k) 0=(prt ks k).dx/\(flat ks).getD (3*k+1) 0=(prt ks k).dy/\(flat ks).getD (3*k+2) 0=(prt ks k).wt:=by
 induction ks generalizing k with
 | nil=>simp at h
 | cons p ks f=>
  cases k with
  | zero=>exact ⟨rfl,rfl,rfl⟩
  | succ k=>
   have:=f k (by simpa using h);rw [iD,zAQ,show 3*(k+1)=3*k+1+1+1 by omega];simpa [List.getD] using this
theorem zAx (ks:List Prt) (k:Nat) (h:k<ks.length):ks.take (k+1)=ks.take k++ [prt ks k]:=by
 rw [Ym h];simp [prt,h]
def uz (p:Prt):Bool:=decide (-4<=p.dx/\p.dx<=4/\0<=p.dy/\p.dy<=4/\(p.dy=0->1<=p.dx)/\1<=p.wt/\p.wt<=100)
def vO (L:List Prt) (x y:Int):Bool:=L.any (fun q=>decide (q.dx=x/\q.dy=y))
def jL (ks:List Prt) (k:Nat):Bool:=(List.range k).all (fun i=>uz (prt ks i) && !vO (ks.take i) (prt ks i).dx (prt ks i).dy)
def kP (ks:List Prt):Bool:=decide (1<=ks.length/\ks.length<=12) && jL ks ks.length
theorem He (x y:Int):vO [] x y=false:=rfl
theorem UO (ks:List Prt) (k:Nat) (x y:Int) (h:k<ks.length):vO (ks.take (k+1)) x y=(vO (ks.take k) x y || decide ((prt ks k).dx=x/\(prt ks k).dy=y)):=by
 unfold vO;rw [zAx ks k h,List.any_append];simp
theorem Mr {ks:List Prt} (h:vO (ks.take k) x y=true) (hk:k<=m):vO (ks.take m) x y=true:=by
 unfold vO at*;rw [List.any_eq_true] at*;obtain ⟨q,f,h2⟩:=h;refine ⟨q,?_,h2⟩;have e:ks.take k=(ks.take m).take k:=by rw [List.take_take];congr 1;omega
 rw [e] at f;exact List.mem_of_mem_take f
theorem Kk (ks:List Prt) (k:Nat):jL ks (k+1)=(jL ks k && (uz (prt ks k) && !vO (ks.take k) (prt ks k).dx (prt ks k).dy)):=by
 unfold jL;rw [List.range_succ,List.all_append];simp
theorem MW {ks:List Prt} (h:jL ks m=true) (hk:k<=m):jL ks k=true:=by
 unfold jL at*;rw [Yp] at*;intro i hi;exact h i (by simp at hi⊢;omega)
theorem ig {ks:List Prt} (hk:k<m) (h:(uz (prt ks k) && !vO (ks.take k) (prt ks k).dx (prt ks k).dy)=false):jL ks m=false:=by
 by_cases c:jL ks m=true
 have:=MW c (show k+1<=m by omega);rw [Kk,h] at this;simp at this;simpa using c
theorem QX {ks:List Prt} (hn:ks.length=n) (h: ¬(1<=n/\n<=12)):kP ks=false:=by unfold kP;rw [hn,decide_eq_false h];rfl
theorem Jp {ks:List Prt} (hn:ks.length=n) (hk:k<n) (h:(uz (prt ks k) && !vO (ks.take k) (prt ks k).dx (prt ks k).dy)=false):kP ks=false:=by
 unfold kP;rw [hn,ig hk h];simp
theorem Gh {ks:List Prt} (hn:ks.length=n) (h1:1<=n) (h2:n<=12) (h:jL ks n=true):kP ks=true:=by
 unfold kP;rw [hn,h,decide_eq_true ⟨h1,h2⟩];rfl
theorem XZ {ks:List Prt} (hn:ks.length=n) (h:kP ks=true):1<=n/\n<=12/\jL ks n=true:=by
 unfold kP at h;rw [hn] at h;simp only [Bool.and_eq_true,decide_eq_true_eq] at h;exact ⟨h.1.1,h.1.2,h.2⟩
theorem wC {p:Prt} (h:uz p=true):-4<=p.dx/\p.dx<=4/\0<=p.dy/\p.dy<=4/\(p.dy=0->1<=p.dx)/\1<=p.wt/\p.wt<=100:=of_decide_eq_true h
theorem qz {ks:List Prt} (h:jL ks n=true) (hk:k<n):uz (prt ks k)=true/\vO (ks.take k) (prt ks k).dx (prt ks k).dy=false:=by
 have:=MW h (show k+1<=n by omega);rw [Kk] at this;simp only [Bool.and_eq_true,Bool.not_eq_true'] at this;exact this.2
def yL (ks:List Prt):Nat->Int
 | 0=>0
 | k+1=>yL ks k+(prt ks k).wt
def VB (ks:List Prt):Int:=if kP ks=true then yL ks ks.length else 0
theorem IK {ks:List Prt} (h: ¬kP ks=true):VB ks=0:=by unfold VB;rw [if_neg h]
theorem Kw {ks:List Prt} (hn:ks.length=n) (h:kP ks=true):VB ks=yL ks n:=by unfold VB;rw [if_pos h,hn]
theorem Xf {ks:List Prt} (h:jL ks n=true) (k:Nat) (hk:k<=n):(k:Int)<=yL ks k/\yL ks k<=100*k:=by
 induction k with
 | zero=>simp [yL]
 | succ k f=>
  have h1:=f om;have h2:=wC (qz h (show k<n by omega)).1;simp only [yL];omega
def kZ (ks:List Prt) (W e:Int) (k:Nat):Int:=e*(prt ks k).wt/W
def kG (ks:List Prt) (W e:Int):Nat->Int
 | 0=>0
 | k+1=>kG ks W e k+kZ ks W e k
def yR (ks:List Prt) (W e:Int):List Int:=(gen ks.length (kZ ks W e)).set 0 (kZ ks W e 0+(e - kG ks W e ks.length))
theorem UQ (ks:List Prt) (W e:Int):(yR ks W e).length=ks.length:=by simp [yR,zk]
theorem Ht (ks:List Prt) (W e:Int) (k:Nat) (hk:k<ks.length):(yR ks W e).getD k 0=kZ ks W e k+(if k=0 then e - kG ks W e ks.length else 0):=by
 unfold yR;rw [vS _ _ _ _ (by rw [zk];omega)];by_cases h:k=0
 subst h;simp;rw [if_neg om,if_neg h,yY _ _ _ hk];omega
theorem nX {ks:List Prt} (h:jL ks n=true) (k:Nat) (hk:k<n) (hn:1<=n):
 kZ ks (yL ks n) e k*yL ks n<=e*(prt ks k).wt/\e*(prt ks k).wt<kZ ks (yL ks n) e k*yL ks n+yL ks n:=by
 have h1:=(Xf h n nI).1;unfold kZ;have a:=Int.emod_add_mul_ediv (e*(prt ks k).wt) (yL ks n);have b:=Yg (e*(prt ks k).wt) (show yL ks n≠0 by omega);have c:=Ye (e*(prt ks k).wt) (show 0<yL ks n by omega);rw [Ys (e*(prt ks k).wt/yL ks n)];omega
theorem zCM (h1:1<=b) (h2:b<=100) (hc:0<=c) (f:-c<=e) (l:e<=c):-(c*100)<=e*b/\e*b<=c*100:=by
 have u:=YA h2 hc;have z:=Yo l (show 0<=b by omega);have s:=Yo f (show 0<=b by omega);rw [Int.neg_mul] at s;omega
theorem XA {ks:List Prt} (h:jL ks n=true) (k:Nat) (hk:k<n) (f:-1000000<=e) (l:e<=1000000):
 -100000000<=e*(prt ks k).wt/\e*(prt ks k).wt<=100000000/\-100000000<=kZ ks (yL ks n) e k/\kZ ks (yL ks n) e k<=100000000:=by
 have h1:=(Xf h n nI).1;have h2:=wC (qz h hk).1;obtain ⟨s,u⟩:=zCM (e:=e) (c:=1000000) h2.2.2.2.2.2.1 h2.2.2.2.2.2.2 om f l;refine ⟨om,om,?_,?_⟩;unfold kZ
 exact Int.le_ediv_of_mul_le om (by
  have:=YA (show (1:Int)<=yL ks n by omega) (show (0:Int)<=100000000 by omega)
  rw [Int.neg_mul];omega)
 unfold kZ
 exact Int.ediv_le_of_le_mul om (by
  have:=YA (show (1:Int)<=yL ks n by omega) (show (0:Int)<=100000000 by omega)
  omega)
theorem Jt {ks:List Prt} (h:jL ks n=true) (f:-1000000<=e) (l:e<=1000000) (k:Nat) (hk:k<=n):-(100000000*(k:Int))<=kG ks (yL ks n) e k/\kG ks (yL ks n) e k<=100000000*k:=by
 induction k with
 | zero=>simp [kG]
 | succ k s=>
  have h1:=s om;have h2:=XA h k om f l;simp only [kG];omega
theorem nW {ks:List Prt} (h:jL ks n=true) (k:Nat) (hk:k<=n):kG ks (yL ks n) e k*yL ks n<=e*yL ks k/\e*yL ks k<=kG ks (yL ks n) e k*yL ks n+(k:Int)*(yL ks n - 1):=by
 induction k with
 | zero=>simp [kG,yL]
 | succ k l=>
  obtain ⟨a,b⟩:=l om;obtain ⟨c,d⟩:=nX (e:=e) h k om om;simp only [kG,yL];rw [Int.add_mul,Int.mul_add]
  have f:((k+1:Nat):Int)*(yL ks n - 1)=(k:Int)*(yL ks n - 1)+(yL ks n - 1):=by
   rw [Int.natCast_add,Int.add_mul];simp
  rw [f];omega
theorem dG {ks:List Prt} (h:jL ks n=true) (hn:1<=n):kG ks (yL ks n) e n<=e/\e<=kG ks (yL ks n) e n+n - 1:=by
 obtain ⟨a,b⟩:=nW (e:=e) h n nI;have h1:=(Xf h n nI).1;have f:0<yL ks n:=om;refine ⟨Int.le_of_mul_le_mul_right a f,?_⟩
 have c:e*yL ks n<(kG ks (yL ks n) e n+n)*yL ks n:=by
  rw [Int.add_mul];rw [Int.mul_sub] at b;omega
 have:=Int.lt_of_mul_lt_mul_right c om;omega
end
end Go.Proofs.YtlenfgdjdianiaaGreatDoor
