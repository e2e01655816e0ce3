/- Facts on which this claim rests, 2. -/
import Derived.Test.YtlenfgdjdianiaaGreatDoorRows
import Derived.Test.YtlenfgdjdianiaaGreatDoorG1
set_option linter.all false
set_option maxHeartbeats 6400000
namespace Go.Proofs.YtlenfgdjdianiaaGreatDoor
open Go.RowKit Tq Go.Proofs.Tryz
variable {B B' T cap cap' g k n off : Nat} {P : Program} {Q : Exit → Act → World → Prop} {S2 : Nat → Prop} {a b c e f h : Prop} {ad ad' : Option Addr} {cs : Array Value} {o : Oper} {ops : Array Oper} {row : Option Nat} {v : Value} {w : World} {xs ys : List Int}
def RowT (w:World) (T sz g n cap:Nat) (xs:List Int):Prop:=
 xs.length=n*sz/\ ∃cur,w.heap[g]? =some (.cells cur T (0,0))/\n<=cap/\cap<=maxLen/\cur.size=cap*sz/\cur.toList.take (n*sz)=xs.map (Value.int .i64)
namespace RowT
variable {w w' : World} {T sz g n cap : Nat} {xs : List Int}
theorem len (h:RowT w T sz g n cap xs):xs.length=n*sz:=h.1
theorem lt (h:RowT w T sz g n cap xs):g<w.heap.size:=by
 obtain ⟨_,i,hg,_⟩:=h;exact (Array.getElem?_eq_some_iff.1 hg).1
theorem cell (h:RowT w T sz g n cap xs) {j:Nat} (l:j<n*sz):w.cell? (g,j)=some ↑(xs.getD j 0):=by
 obtain ⟨hl,i,hg,_,_,_,m⟩:=h;rw [cell_of_row w g j i T (0,0) hg];have h2:(i.toList.take (n*sz))[j]? =(xs.map (Value.int .i64))[j]?:=by rw [m]
 rw [List.getElem?_take,if_pos l] at h2;simp only [Array.getElem?_toList] at h2;rw [h2];simp [List.getD,Ya (show j<xs.length by omega)]
theorem frozen (h:RowT w T sz g n cap xs) (j:Nat):w.frozen? (g,j)=false:=by
 obtain ⟨_,i,hg,_⟩:=h;exact frozen_of_row w g j i T hg
theorem set (h:RowT w T sz g n cap xs) (j:Nat) (v:Int):RowT (w.setCell (g,j) ↑v) T sz g n cap (xs.set j v):=by
 obtain ⟨hl,i,hg,h1,h2,h3,l⟩:=h;refine ⟨by simpa using hl,i.setIfInBounds j ↑v,heap_setCell_same w g j i _ _ hg,h1,h2,by simpa using h3,?_⟩;rw [Array.toList_setIfInBounds,List.map_set,<-l,List.take_set]
theorem of_block (h:RowT w T sz g n cap xs) (hb:w'.heap[g]? =w.heap[g]?):RowT w' T sz g n cap xs:=by
 obtain ⟨hl,i,hg,r⟩:=h;exact ⟨hl,i,hb.trans hg,r⟩
theorem below (h:RowT w T sz g n cap xs) (hb:Below B w w') (hg:g<B):RowT w' T sz g n cap xs:=h.of_block (hb.block g hg)
theorem grown (h:RowT w T sz g n cap xs) (hb:w.grownBy w' row) (hg:some g≠row):RowT w' T sz g n cap xs:=h.of_block (hb.block g h.lt hg)
theorem alloc (h:RowT w T sz g n cap xs) (o:Obj):RowT (w.alloc o) T sz g n cap xs:=h.of_block (Below.heap_alloc w o g h.lt)
theorem drewN (h:RowT w T sz g n cap xs) (m:Nat):RowT (w.drewN m) T sz g n cap xs:=h.of_block rfl
theorem other (h:RowT w T sz g n cap xs) {a:Addr} (ha:a.block≠g) (u:Value):RowT (w.setCell a u) T sz g n cap xs:=h.of_block (Below.heap_setCell w a u g om)
theorem rd (h:RowT w T sz g n cap xs):Rd w ↑g xs:=fun k hk=>⟨g,0,rfl,h.lt,by rw [Nat.zero_add];exact h.cell (og h.len)⟩
end RowT
def RowA (w:World) (T sz B:Nat) (ad:Option Addr) (n cap:Nat) (xs:List Int):Prop:=
 (ad=none/\n=0/\cap=0/\xs=[])\/ ∃g,ad=some ⟨g,0,none⟩/\B<=g/\RowT w T sz g n cap xs
namespace RowA
variable {w w' : World} {T sz B n cap : Nat} {ad : Option Addr} {xs : List Int}
theorem mk (h:RowT w T sz g n cap xs) (i:B<=g):RowA w T sz B ↑g n cap xs:= .inr ⟨g,rfl,i,h⟩
theorem none (w:World) (T sz B:Nat):RowA w T sz B none 0 0 []:= .inl ⟨rfl,rfl,rfl,rfl⟩
theorem len (h:RowA w T sz B ad n cap xs):xs.length=n*sz:=by
 rcases h with ⟨_,rfl,_,rfl⟩ | ⟨g,_,_,h⟩
 simp;exact h.len
theorem rd (h:RowA w T sz B ad n cap xs):Rd w ad xs:=by
 rcases h with ⟨_,_,_,rfl⟩ | ⟨g,rfl,_,h⟩
 exact Rd.nil _ _;exact h.rd
theorem below {B':Nat} (h:RowA w T sz B ad n cap xs) (hb:Below B' w w') (hg:w.heap.size<=B'):RowA w' T sz B ad n cap xs:=by
 rcases h with h | ⟨g,h1,h2,h⟩
 exact .inl h;exact .inr ⟨g,h1,h2,h.below hb (og h.lt)⟩
theorem zA (h:RowA w T sz B ad n cap xs) (hb:Below w w w'):RowA w' T sz B ad n cap xs:=h.below hb nI
theorem grown {row:Option Nat} (h:RowA w T sz B ad n cap xs) (hb:w.grownBy w' row) (hg: ∀k,row=some k->k<B):RowA w' T sz B ad n cap xs:=by
 rcases h with h | ⟨g,h1,h2,h⟩
 exact .inl h;exact .inr ⟨g,h1,h2,h.grown hb (fun e=>by have:=hg g e.symm;omega)⟩
theorem grown2 (h:RowA w T sz B ad n cap xs) (hb:w.grownBy w' row) (hg: ∀k,row=some k->w.heap.size<=k\/zO ad≠some k):RowA w' T sz B ad n cap xs:=by
 rcases h with h | ⟨g,h1,h2,h⟩
 exact .inl h;refine .inr ⟨g,h1,h2,h.grown hb (fun e=>?_)⟩;have hl:=h.lt;rcases hg g e.symm with h3 | h3
 omega;subst h1;simp [zO] at h3
theorem zI {o:Option Addr} (h:RowA w T sz B ad n cap xs) (hb:w.grownBy w' (zO o)) (i: ∀b,zO o=some b->zO ad≠some b):RowA w' T sz B ad n cap xs:=
 h.grown2 hb (fun k hk=> .inr (i k hk))
theorem drewN (h:RowA w T sz B ad n cap xs) (m:Nat):RowA (w.drewN m) T sz B ad n cap xs:=by
 rcases h with h | ⟨g,h1,h2,h⟩
 exact .inl h;exact .inr ⟨g,h1,h2,h.drewN m⟩
theorem drew (h:RowA w T sz B ad n cap xs):RowA w.drew T sz B ad n cap xs:=h.drewN 1
theorem alloc (h:RowA w T sz B ad n cap xs) (o:Obj):RowA (w.alloc o) T sz B ad n cap xs:=h.below (Joins.below_alloc1 w o) nI
theorem other (h:RowA w T sz B ad n cap xs) {a:Addr} (ha:a.block<B) (u:Value):RowA (w.setCell a u) T sz B ad n cap xs:=by
 rcases h with h | ⟨g,h1,h2,h⟩
 exact .inl h;exact .inr ⟨g,h1,h2,h.other om u⟩
theorem bd (h:RowA w T sz B ad n cap xs): ∀b,zO ad=some b->B<=b/\b<w.heap.size:=by
 intro b hb;rcases h with ⟨rfl,_⟩ | ⟨g,rfl,h2,h⟩
 simp [zO] at hb;simp only [zO,Option.some.injEq] at hb;subst hb;exact ⟨h2,h.lt⟩
theorem mono (h:RowA w T sz B ad n cap xs) (i:B'<=B):RowA w T sz B' ad n cap xs:=by
 rcases h with h | ⟨g,h1,h2,h⟩
 exact .inl h;exact .inr ⟨g,h1,om,h⟩
theorem toRow (h:RowA w T sz B ad n cap xs):w.ownsRow B T sz (.slice ad n cap) n (xs.map (Value.int .i64)):=by
 rcases h with ⟨rfl,rfl,rfl,rfl⟩ | ⟨g,rfl,j,hl,i,hg,h1,h2,h3,h4⟩
 exact ⟨sI, .inl ⟨rfl,rfl⟩⟩;exact ⟨by simp [hl], .inr ⟨g,cap,i,rfl,j,hg,h1,h2,om,h4⟩⟩
theorem ofRow (h:w.ownsRow B T sz v n (xs.map (Value.int .i64))): ∃ad cap,v= .slice ad n cap/\RowA w T sz B ad n cap xs:=by
 obtain ⟨hl,h⟩:=h;simp at hl;rcases h with ⟨rfl,rfl⟩ | ⟨g,cap,i,rfl,j,hg,h1,h2,h3,h4⟩
 obtain rfl:xs=[]:=List.eq_nil_of_length_eq_zero (by simpa using hl);exact ⟨Option.none,0,rfl,RowA.none _ _ _ _⟩;exact ⟨_,cap,rfl, .inr ⟨g,rfl,j,hl,i,hg,h1,h2,om,h4⟩⟩
end RowA
theorem jO (ad:Option Addr) (n cap:Nat):(Value.slice ad n cap).ownBlock=zO ad:=by cases ad <;>rfl
def UF (sz:Nat):Value:= .agg (List.replicate sz (Value.int .i64 0)).toArray
theorem zDt (sz n:Nat) (l:1<=sz):(madeCells (List.replicate sz (Value.int .i64 0)).toArray n).toList=(List.replicate n 0).map (Value.int .i64):=by
 apply List.ext_getElem?;intro j;by_cases i:j<n
 have h2:j % sz<sz:=Nat.mod_lt _ om;simp [madeCells,i,h2];simp [madeCells,i]
theorem zBE (w:World) {rest:List Oper} {a:Act}
 (hg:o.guard=none) (t e sz j:Nat) (G:P.underlying t=some (.slice e)) (q:(P.info? e).map (fun i=>(i.zero,i.size,i.bytes))=some (some (UF sz),sz,j)) (u:1<=sz) (F:j<=4096)
 (l c:Operand) (s:o.op=Op.makeSlice t l c) (D A:IntKind) (L C:Int) (n:Nat) (hl:a.eval l= .int D L) (hc:a.eval c= .int A C) (hL:L=(n:Int)) (E:C=(n:Int)) (hn:n<=1048576)
 (hK: ∀w',RowT w' e sz w n n (List.replicate (n*sz) 0)->Below w w w'->wpList P ops Q rest (a.put o.dst (.slice ↑w n n)) w'):
 wpList P ops Q (o::rest) a w:=by
 obtain ⟨i,hi,x,y,z⟩:=info_parts q;refine wpList_plain hg fun K m=>?_;subst hL;subst E;have H:(j:Int)*(n:Int)<=4096*1048576:=Yr om om om om;have hr:=run_make (P:=P) w t e i (UF sz) G hi x D A n n om (Int.le_refl _) (by rw [z];omega) om;simp only [Yu,y] at hr
 have hm:RowT (w.alloc (.cells (madeCells (UF sz).cells (n*sz)) e)) e sz w n n (List.replicate (n*sz) 0):=by
  refine ⟨sI,_,heap_alloc_new w _,nI,by unfold maxLen;omega,size_madeCells _ _,?_⟩;rw [Yk (by simp [size_madeCells])];exact zDt sz (n*sz) u
 unfold Oper.wp;simp [execOp,s,hl,hc,hr,Result.andThen];exact m _ _ (hK _ hm nJ)
theorem wm {ks:List Prt} (h:Rd w ad (flat ks)) (hk:k<ks.length):
 ∃b off,ad=some ⟨b,off,none⟩/\b<w.heap.size/\w.cell? ⟨b,off+k*3,none⟩=some ↑(prt ks k).dx/\w.cell? ⟨b,off+k*3+1,none⟩=some ↑(prt ks k).dy/\w.cell? ⟨b,off+k*3+2,none⟩=some ↑(prt ks k).wt:=by
 have hl:=sG ks;obtain ⟨b,off,h1,h2,h3⟩:=h.at om;obtain ⟨i,j,l⟩:=zBv ks k hk;refine ⟨b,off,h1,h2,?_,?_,?_⟩;rw [<-i,Nat.mul_comm k 3];exact h3 _ om;rw [<-j,Nat.mul_comm k 3,Nat.add_assoc];exact h3 _ om;rw [<-l,Nat.mul_comm k 3,Nat.add_assoc];exact h3 _ om
theorem sV:(prog.info? 176).map (fun i=>(i.zero,i.size,i.bytes))=some (some (UF 2),2,16):=zK
def RowVA (w:World) (B:Nat) (ad:Option Addr) (n cap:Nat) (L:List PV):Prop:=
 L.length=n/\((ad=none/\n=0/\cap=0)\/ ∃g,ad=some ⟨g,0,none⟩/\B<=g/\RowV w g cap L)
namespace RowVA
variable {w w' : World} {B n cap : Nat} {ad : Option Addr} {L : List PV}
theorem nil (w:World) (B:Nat):RowVA w B none 0 0 []:=⟨rfl, .inl ⟨rfl,rfl,rfl⟩⟩
theorem mk (h:RowV w g cap L) (i:B<=g) (hl:L.length=n):RowVA w B ↑g n cap L:=⟨hl, .inr ⟨g,rfl,i,h⟩⟩
theorem below (h:RowVA w B ad n cap L) (hb:Below w w w'):RowVA w' B ad n cap L:=
 ⟨h.1,by
  rcases h.2 with i | ⟨g,h1,h2,hr⟩
  exact .inl i
  exact .inr ⟨g,h1,h2,hr.below hb⟩⟩
theorem alloc (h:RowVA w B ad n cap L) (o:Obj):RowVA (w.alloc o) B ad n cap L:=h.below (Joins.below_alloc1 w o)
theorem bd (h:RowVA w B ad n cap L): ∀b,zO ad=some b->B<=b/\b<w.heap.size:=by
 intro b hb;rcases h.2 with ⟨i,_⟩ | ⟨g,h1,h2,hr⟩
 rw [i] at hb;cases hb;rw [h1] at hb;simp only [zO,Option.some.injEq] at hb;subst hb;exact ⟨h2,hr.lt⟩
theorem toRow (h:RowVA w B ad n cap L):w.ownsRow B 31 3 (.slice ad n cap) n (yt L):=by
 obtain ⟨hl,h⟩:=h;refine ⟨by rw [Ap,hl],?_⟩;rcases h with ⟨rfl,rfl,rfl⟩ | ⟨g,rfl,j,i,hg,h1,h2,h3,h4⟩
 exact .inl ⟨rfl,rfl⟩;exact .inr ⟨g,cap,i,rfl,j,hg,om,h2,om,by rw [<-hl];exact h4⟩
theorem ofRow (hl:L.length=n) (h:w.ownsRow B 31 3 v n (yt L)): ∃ad cap,v= .slice ad n cap/\RowVA w B ad n cap L:=by
 obtain ⟨_,h⟩:=h;rcases h with ⟨rfl,rfl⟩ | ⟨g,cap,i,rfl,j,hg,h1,h2,h3,h4⟩
 exact ⟨Option.none,0,rfl,hl, .inl ⟨rfl,rfl,rfl⟩⟩;exact ⟨_,cap,rfl,hl, .inr ⟨g,rfl,j,i,hg,om,h2,om,by rw [hl];exact h4⟩⟩
end RowVA
theorem aX (n:Nat):(madeCells ↑Zp (n*3)).toList=yt (List.replicate n noV):=by
 apply List.ext_getElem?;intro j;by_cases s:j<n*3
 have hk:j/3<(List.replicate n noV).length:=sO;obtain ⟨l,m,q⟩:=VK (List.replicate n noV) (j/3) hk
 have hp:pv (List.replicate n noV) (j/3)=noV:=by
  unfold pv;simp [List.getD,List.getElem?_replicate,show j/3<n by omega]
 rw [hp] at l m q;have h3:j % 3=0\/j % 3=1\/j % 3=2:=om;rcases h3 with h3 | h3 | h3
 have i:j/3*3=j:=om;rw [i] at l;rw [l];simp [madeCells,s,h3,noV];have i:j/3*3+1=j:=om;rw [i] at m;rw [m];simp [madeCells,s,h3,noV];have i:j/3*3+2=j:=om;rw [i] at q;rw [q];simp [madeCells,s,h3,noV];rw [Yv (by simp [madeCells];omega),Yv (by rw [Ap];simp;omega)]
theorem zBF (w:World) {rest:List Oper} {a:Act}
 (hg:o.guard=none) (t:Nat) (D:P.underlying t=some (.slice 31)) (m:(P.info? 31).map (fun i=>(i.zero,i.size,i.bytes))=some (some (.agg ↑Zp),3,40))
 (l c:Operand) (q:o.op=Op.makeSlice t l c) (z y:IntKind) (L C:Int) (n:Nat) (hl:a.eval l= .int z L) (hc:a.eval c= .int y C) (hL:L=(n:Int)) (A:C=(n:Int)) (hn:n<=1048576)
 (hK: ∀w',RowV w' w n (List.replicate n noV)->Below w w w'->w'.heap.size=w.heap.size+1->wpList P ops Q rest (a.put o.dst (.slice ↑w n n)) w'):
 wpList P ops Q (o::rest) a w:=by
 obtain ⟨i,hi,s,u,x⟩:=info_parts m;refine wpList_plain hg fun K j=>?_;subst hL;subst A;have hr:=run_make (P:=P) w t 31 i (.agg ↑Zp) D hi s z y n n om (Int.le_refl _) (by rw [x];omega) om;simp only [Yu,u] at hr
 have hm:RowV (w.alloc (.cells (madeCells ↑Zp (n*3)) 31)) w n (List.replicate n noV):=by
  refine ⟨_,heap_alloc_new w _,sI,by unfold maxLen;omega,size_madeCells _ _,?_⟩;rw [Yk (by simp [size_madeCells])];exact aX n
 unfold Oper.wp;simp only [Value.cells] at hr;simp [execOp,q,hl,hc,hr,Result.andThen];exact j _ _ (hK _ hm nJ sI)
def uZ (s:Int):List PV->List PV
 | []=> []
 | p::r=> {p with W:=s,H:=s+1,ink:=vC (s+2) p.n}::uZ (s+2+p.n) r
def kH:List PV->Nat
 | []=>0
 | p::r=>2+p.n+kH r
theorem uF (s:Int) (L:List PV):(uZ s L).length=L.length:=by
 induction L generalizing s with
 | nil=>rfl
 | cons p r i=>simp [uZ,i]
theorem Bo (L M:List PV):kH (L++M)=kH L+kH M:=by
 induction L with
 | nil=>simp [kH]
 | cons p r i=>simp only [List.cons_append,kH,i];omega
theorem dI (L:List PV) (k:Nat) (h:k<L.length):kH (L.take (k+1))=kH (L.take k)+2+(pv L k).n:=by
 rw [Ym h,Bo];simp [kH,pv,List.getD,Ya h];omega
theorem Eo (s:Int) (L:List PV) (k:Nat) (h:k<L.length):pv (uZ s L) k={pv L k with W:=s+kH (L.take k),H:=s+kH (L.take k)+1,ink:=vC (s+kH (L.take k)+2) (pv L k).n}:=by
 induction L generalizing s k with
 | nil=>simp at h
 | cons p r m=>
  cases k with
  | zero=>simp [uZ,pv,kH]
  | succ k=>
   have:=m (s+2+p.n) k (by simpa using h);have i:pv (uZ s (p::r)) (k+1)=pv (uZ (s+2+p.n) r) k:=by simp [uZ,pv]
   have j:pv (p::r) (k+1)=pv r k:=by simp [pv]
   rw [i,j,this]
   have l:s+2+p.n+(kH (r.take k):Int)=s+(kH ((p::r).take (k+1)):Int):=by
    simp only [List.take_succ_cons,kH];push_cast;omega
   rw [l]
structure KeepT (S:Nat->Prop) (w w':World):Prop where
 os:w'.os=w.os
 tape:w'.tape=w.tape
 output:w'.output=w.output
 size:w.heap.size<=w'.heap.size
 block: ∀i,i<w.heap.size-> ¬S i->w'.heap[i]? =w.heap[i]?
namespace KeepT
variable {S : Nat → Prop} {w w' w2 : World}
theorem refl (S:Nat->Prop) (w:World):KeepT S w w:=⟨rfl,rfl,rfl,nI,fun _ _ _=>rfl⟩
theorem trans (h:KeepT S w w') (k:KeepT S w' w2):KeepT S w w2:=
 ⟨k.os.trans h.os,k.tape.trans h.tape,k.output.trans h.output,Yx h.size k.size,fun i hi j=>(k.block i (Yb hi h.size) j).trans (h.block i hi j)⟩
theorem zF (h:Below w w w'):KeepT S w w':=⟨h.os,h.tape,h.output,h.size,fun i hi _=>h.block i hi⟩
theorem ofGrown (h:w.grownBy w' row) (j: ∀b,row=some b->S b):KeepT S w w':=
 ⟨h.os,h.tape,h.output,h.size,fun i hi hn=>h.block i hi (fun e=>hn (j i e.symm))⟩
theorem below (h:KeepT S w w') (j: ∀i,S i->B<=i) (m:B<=w.heap.size):Below B w w':=
 ⟨h.os,h.tape,h.output,h.size,fun i hi=>h.block i om (fun l=>by have:=j i l;omega)⟩
theorem set (h:KeepT S w w') {a:Addr} (ha:S a.block) (u:Value):KeepT S w (w'.setCell a u):=
 ⟨h.os,h.tape,h.output,by simpa [World.setCell] using h.size,fun i hi j=>(Below.heap_setCell w' a u i (fun e=>j (by rw [e];exact ha))).trans (h.block i hi j)⟩
theorem call (h:KeepT S w w') (hb:Below w' w' w2):KeepT S w w2:=h.trans (zF hb)
theorem mono (h:KeepT S w w') (j: ∀i,S i->S2 i):KeepT S2 w w':=⟨h.os,h.tape,h.output,h.size,fun i hi h2=>h.block i hi (fun h3=>h2 (j i h3))⟩
theorem blk (h:KeepT S w w') (hb:Blk w g T cs) (i: ¬S g):Blk w' g T cs:=hb.of_block (h.block g hb.lt i)
theorem ownA (h:KeepT S w w') (hb:OwnA w B ad n cap xs) (i: ∀b,zO ad=some b-> ¬S b):OwnA w' B ad n cap xs:=by
 rcases hb with hb | ⟨g,h1,h2,hb⟩
 exact .inl hb;subst h1;exact .inr ⟨g,rfl,h2,hb.of_block (h.block g hb.lt (i g rfl))⟩
theorem rd (h:KeepT S w w') (hr:Rd w ad xs) (i: ∀b,zO ad=some b-> ¬S b):Rd w' ad xs:=fun k hk=>by
 obtain ⟨b,off,h1,h2,h3⟩:=hr k hk;subst h1;exact ⟨b,off,rfl,Yb h2 h.size,(World.cell?_of_block (by exact h.block b h2 (i b rfl))).trans h3⟩
theorem rowV {L:List PV} (h:KeepT S w w') (hr:RowV w g cap L) (i: ¬S g):RowV w' g cap L:=hr.of_block (h.block g hr.lt i)
theorem ownV {L:List PV} (h:KeepT S w w') (j:OwnV w B ad n cap L) (l: ∀i,OwnV.blocks ad L i-> ¬S i):OwnV w' B ad n cap L:=
 ⟨j.len,by
  rcases j.row with m | ⟨g,h1,h2,hr⟩
  exact .inl m;exact .inr ⟨g,h1,h2,h.rowV hr (l g (.inl (by rw [h1];rfl)))⟩,
  fun k hk=>h.ownA (j.ink k hk) (fun b hb=>l b (.inr ⟨k,by rw [j.len];exact hk,hb⟩)),j.off,j.apart⟩
end KeepT
theorem Da {L M:List PV} (hl:L.length=M.length) (h: ∀k,k<L.length->(pv L k).W=(pv M k).W/\(pv L k).H=(pv M k).H/\(pv L k).a=(pv M k).a/\(pv L k).n=(pv M k).n/\(pv L k).c=(pv M k).c):yt L=yt M:=by
 induction L generalizing M with
 | nil=>
  cases M with
  | nil=>rfl
  | cons q s=>simp at hl
 | cons p r x=>
  cases M with
  | nil=>simp at hl
  | cons q s=>
   have i:=h 0 sI
   have hr:=x (M:=s) (by simpa using hl) (fun k hk=>by
    have:=h (k+1) (by simpa using hk)
    simpa [pv] using this)
   simp only [pv,List.getD_cons_zero] at i;obtain ⟨j,l,m,t,u⟩:=i;have e:p.cells=q.cells:=by unfold PV.cells;rw [j,l,m,t,u]
   unfold yt at hr⊢;simp only [List.flatMap_cons];rw [e,hr]
theorem OwnA.zG (h:OwnA w B ad n cap xs) {a:Addr} (ha:zO ad≠some a.block) (u:Value):OwnA (w.setCell a u) B ad n cap xs:=by
 rcases h with h | ⟨g,h1,h2,h⟩
 exact .inl h;subst h1;exact .inr ⟨g,rfl,h2,h.other (fun e=>ha (by rw [e];rfl)) u⟩
namespace OwnV
variable {w w' : World} {B n cap g k : Nat} {L : List PV}
theorem setNum (h:OwnV w B ↑g n cap L) (hk:k<n) (j:Nat) (v:Value) (p:PV) (ha:p.a=(pv L k).a) (hn:p.n=(pv L k).n) (hc:p.c=(pv L k).c) (hi:p.ink=(pv L k).ink) (hf:(yt L).set j v=yt (L.set k p)):OwnV (w.setCell (g,j) v) B ↑g n cap (L.set k p):=by
 have m:k<L.length:=by rw [h.len];exact hk
 have same: ∀i,(pv (L.set k p) i).a=(pv L i).a/\(pv (L.set k p) i).n=(pv L i).n/\(pv (L.set k p) i).c=(pv L i).c/\(pv (L.set k p) i).ink=(pv L i).ink:=fun i=>by
  by_cases e:k=i
  subst e;rw [xZ m];exact ⟨ha,hn,hc,hi⟩;rw [jE e];exact ⟨rfl,rfl,rfl,rfl⟩
 refine ⟨by rw [List.length_set];exact h.len,?_,fun i l=>?_,fun i b l hb=>?_,fun i j b q z hb=>?_⟩;rcases h.row with ⟨y,_⟩ | ⟨g2,h1,h2,hr⟩
 cases y;cases h1;exact .inr ⟨g,rfl,h2,hr.setAt m v hf⟩;obtain ⟨s,t,u,x⟩:=same i;rw [s,t,u,x];exact (h.ink i l).zG (fun e=>h.off i g l e rfl) v;rw [(same i).1] at hb;exact h.off i b l hb;rw [(same i).1] at hb;rw [(same j).1];exact h.apart i j b q z hb
theorem setW (h:OwnV w B ↑g n cap L) (hk:k<n) (x:Int):OwnV (w.setCell (g,k*3) ↑x) B ↑g n cap (L.set k {pv L k with W:=x}):=
 h.setNum hk _ _ _ rfl rfl rfl rfl (Aq L k x (by rw [h.len];exact hk))
theorem setH (h:OwnV w B ↑g n cap L) (hk:k<n) (x:Int):OwnV (w.setCell (g,k*3+1) ↑x) B ↑g n cap (L.set k {pv L k with H:=x}):=
 h.setNum hk _ _ _ rfl rfl rfl rfl (Ar L k x (by rw [h.len];exact hk))
theorem setInk (h:OwnV w B ad n cap L) (hk:k<n) (F:OwnA w' B (pv L k).a (pv L k).n (pv L k).c ys) (hg:w.grownBy w' (zO (pv L k).a)):OwnV w' B ad n cap (L.set k {pv L k with ink:=ys}):=by
 have m:k<L.length:=by rw [h.len];exact hk
 have same: ∀i,(pv (L.set k {pv L k with ink:=ys}) i).a=(pv L i).a/\(pv (L.set k {pv L k with ink:=ys}) i).n=(pv L i).n/\(pv (L.set k {pv L k with ink:=ys}) i).c=(pv L i).c:=fun i=>by
  by_cases e:k=i
  subst e;rw [xZ m];exact ⟨rfl,rfl,rfl⟩;rw [jE e];exact ⟨rfl,rfl,rfl⟩
 have u:yt (L.set k {pv L k with ink:=ys})=yt L:=by
  refine Da sI (fun i hi=>?_);by_cases e:k=i
  subst e;rw [xZ m];exact ⟨rfl,rfl,rfl,rfl,rfl⟩;rw [jE e];exact ⟨rfl,rfl,rfl,rfl,rfl⟩
 refine ⟨by rw [List.length_set];exact h.len,?_,fun i l=>?_,fun i b l hb=>?_,fun i j b x E hb=>?_⟩;rcases h.row with D | ⟨g2,h1,h2,hr⟩
 exact .inl D;refine .inr ⟨g2,h1,h2,?_⟩;have y:RowV w' g2 cap L:=hr.of_block (hg.block g2 hr.lt (fun e=>h.off k g2 hk e.symm (by rw [h1];rfl)));obtain ⟨t,G,H,I,J,M⟩:=y;exact ⟨t,G,by rw [List.length_set];exact H,I,J,by rw [List.length_set,u];exact M⟩;obtain ⟨z,A,C⟩:=same i;rw [z,A,C];by_cases e:k=i
 subst e;rw [xZ m];exact F;rw [jE e];refine (h.ink i l).zI hg (fun b hb=>?_);intro s;rcases Nat.lt_or_gt_of_ne e with q | q
 exact h.apart k i b q l hb s;exact h.apart i k b q hk s hb;rw [(same i).1] at hb;exact h.off i b l hb;rw [(same i).1] at hb;rw [(same j).1];exact h.apart i j b x E hb
theorem snoc {p:PV} (h:OwnV w B ad n cap L) (hr:RowVA w' B ad' (n+1) cap' (L++ [p])) (hg:w.grownBy w' (zO ad)) (u: ∀b,zO ad'=some b->zO ad=some b\/w.heap.size<=b)
 (hp:OwnA w' B p.a p.n p.c p.ink) (h1: ∀b,zO p.a=some b->b<w.heap.size/\ ¬blocks ad L b):OwnV w' B ad' (n+1) cap' (L++ [p]):=by
 have l: ∀i,i<n->pv (L++ [p]) i=pv L i:=fun i hi=>wE (by rw [h.len];exact hi);have m:pv (L++ [p]) n=p:=by rw [<-h.len];exact Xa
 refine ⟨hr.1,hr.2,fun i hi=>?_,fun i b hi hb=>?_,fun i j b s x hb=>?_⟩;by_cases e:i<n
 rw [l i e];exact (h.ink i e).zI hg (fun b hb t=>h.off i b e t hb);obtain rfl:i=n:=om;rw [m];exact hp;intro e;by_cases q:i<n
 rw [l i q] at hb;rcases u b e with z | z
 exact h.off i b q hb z;have:=(h.ink i q).bd b hb;omega;obtain rfl:i=n:=om;rw [m] at hb;obtain ⟨b1,b2⟩:=h1 b hb;rcases u b e with z | z
 exact b2 (.inl z);omega;by_cases q:j<n
 rw [l i om] at hb;rw [l j q];exact h.apart i j b s q hb;obtain rfl:j=n:=om;rw [l i s] at hb;rw [m];intro e;exact (h1 b e).2 (.inr ⟨i,by rw [h.len];exact s,hb⟩)
end OwnV
def zS (L:List PV):List Pic:=L.map PV.pic
theorem kU (L:List PV):(zS L).length=L.length:=by simp [zS]
theorem ZV (L:List PV) (k:Nat) (h:k<L.length):(zS L).getD k xF=(pv L k).pic:=by
 simp [zS,pv,List.getD,Ya h]
theorem Qe {L M:List PV} (hl:L.length=M.length) (h: ∀k,k<L.length->(pv L k).W=(pv M k).W/\(pv L k).H=(pv M k).H/\(pv L k).ink=(pv M k).ink):zS L=zS M:=by
 apply List.ext_getElem?;intro k;by_cases hk:k<L.length
 have e:=h k hk;unfold pv at e;simp only [List.getD,Ya hk,Ya (show k<M.length by omega),Yz] at e;simp only [zS,List.getElem?_map,Ya hk,Ya (show k<M.length by omega),Option.map_some];obtain ⟨i,j,l⟩:=e;unfold PV.pic;rw [i,j,l];rw [Yv (by simp [zS];omega),Yv (by simp [zS];omega)]
def BelowL (w v:World):Prop:=Hd (Below w w v)
namespace BelowL
variable {w v v' : World}
theorem Z (h:BelowL w v):Below w w v:=Hd.Z h
theorem mk (h:Below w w v):BelowL w v:=Jh h
theorem start (w:World):BelowL w w.drew:=mk bR.drew
theorem alloc (h:BelowL w v) (o:Obj):BelowL w (v.alloc o):=mk (zM h.Z o)
theorem call (h:BelowL w v) (i:Below v v v'):BelowL w v':=mk (zL h.Z i)
theorem le (h:BelowL w v):w.heap.size<=v.heap.size:=h.Z.size
theorem set (h:BelowL w v) {a:Addr} (ha:w.heap.size<=a.block) (u:Value):BelowL w (v.setCell a u):=mk (h.Z.setCell ha u)
end BelowL
theorem lS {w:World}:BelowL w w.drew:=BelowL.start w
theorem bE (h:a/\b):b:=h.2
theorem Zw (h:a/\b/\c):c:=h.2.2
theorem Xo {d:Prop} (h:a/\b/\c/\d):d:=h.2.2.2
theorem Kl {d:Prop} (h:a/\b/\c/\d/\e):e:=h.2.2.2.2
theorem Nu {d:Prop} (h:a/\b/\c/\d/\e/\f):f:=h.2.2.2.2.2
theorem Nv {d g:Prop} (x:a/\b/\c/\d/\e/\f/\g/\h):h:=x.2.2.2.2.2.2.2
theorem qG {d g:Prop} (h:a/\b/\c/\d/\e/\f/\g):g:=h.2.2.2.2.2.2
instance picDec:DecidableEq Pic:=fun a b=>
 if h:a.W=b.W/\a.H=b.H/\a.ink=b.ink then
  isTrue (by obtain ⟨h1,h2,h3⟩:=h;cases a;cases b;simp_all)
 else isFalse (fun e=>h (by rw [e];exact ⟨rfl,rfl,rfl⟩))
theorem MG: ∀(L:List PV) (k:Nat) (a:Option Addr) (n c:Nat),k<L.length->(yt L).set (k*3+2) (.slice a n c)=yt (L.set k {pv L k with a:=a,n:=n,c:=c})
 | [],k,a,n,c,h=>by simp at h
 | p::r,0,a,n,c,h=>by simp [yt,PV.cells,pv]
 | p::r,k+1,a,n,c,h=>by
  have l:=MG r k a n c (by simpa using h);have j:(k+1)*3+2=k*3+2+1+1+1:=om;have i: ∀(q:PV) (r:List PV),yt (q::r)=↑q.W::↑q.H:: .slice q.a q.n q.c::yt r:=fun q r=>by simp [yt,PV.cells]
  rw [j,i];simp only [List.set_cons_succ];rw [l,i];simp [pv]
theorem XH (L:List PV) (k:Nat) (p q:PV):(L.set k p).set k q=L.set k q:=by
 apply List.ext_getElem?;intro i;simp only [List.getElem?_set,List.length_set];by_cases e:k=i
 subst e;simp;simp [e]
theorem RowV.setPic {L:List PV} (h:RowV w g cap L) (hk:k<L.length) (p:PV):
 RowV (((w.setCell (g,k*3) ↑p.W).setCell (g,k*3+1) ↑p.H).setCell (g,k*3+2) (.slice p.a p.n p.c)) g cap (L.set k p):=by
 have h1:=h.setAt hk _ (Aq L k p.W hk);have j:k<(L.set k {pv L k with W:=p.W}).length:=by simpa using hk
 have h2:=h1.setAt j _ (Ar _ k p.H j);rw [XH,xZ hk] at h2;have l:k<(L.set k {{pv L k with W:=p.W} with H:=p.H}).length:=by simpa using hk
 have h3:=h2.setAt l _ (MG _ k p.a p.n p.c l);rw [XH,xZ hk] at h3
 have e:yt (L.set k {{{pv L k with W:=p.W} with H:=p.H} with a:=p.a,n:=p.n,c:=p.c})=yt (L.set k p):=Da sI (fun i hi=>by
  by_cases q:k=i
  subst q;rw [xZ hk,xZ hk];exact ⟨rfl,rfl,rfl,rfl,rfl⟩
  rw [jE q,jE q];exact ⟨rfl,rfl,rfl,rfl,rfl⟩)
 obtain ⟨m,s,t,u,x,y⟩:=h3;exact ⟨m,s,by simpa using t,u,x,by rw [<-e];simpa using y⟩
namespace OwnV
variable {w w' : World} {B n cap g k : Nat} {L : List PV}
theorem setPic (h:OwnV w B ↑g n cap L) (hk:k<n) (p:PV) (y:OwnA w B p.a p.n p.c p.ink) (hp: ∀b,zO p.a=some b->b≠g/\ ¬blocks ↑g L b):
 OwnV (((w.setCell (g,k*3) ↑p.W).setCell (g,k*3+1) ↑p.H).setCell (g,k*3+2) (.slice p.a p.n p.c)) B ↑g n cap (L.set k p):=by
 have l:k<L.length:=by rw [h.len];exact hk
 have m: ∀i b,i<n->zO (pv L i).a=some b->b≠g:=fun i b hi hb e=>h.off i b hi hb (by rw [e];rfl);refine ⟨by rw [List.length_set];exact h.len,?_,fun i hi=>?_,fun i b hi hb=>?_,fun i j b s u hb=>?_⟩;rcases h.row with ⟨x,_⟩ | ⟨g2,h1,h2,hr⟩
 cases x;cases h1;exact .inr ⟨g,rfl,h2,hr.setPic l p⟩;by_cases e:k=i
 subst e;rw [xZ l];exact ((y.zG (fun e=>(hp g e).1 rfl) _).zG (fun e=>(hp g e).1 rfl) _).zG (fun e=>(hp g e).1 rfl) _;rw [jE e];exact (((h.ink i hi).zG (fun q=>m i g hi q rfl) _).zG (fun q=>m i g hi q rfl) _).zG (fun q=>m i g hi q rfl) _;by_cases e:k=i
 subst e;rw [xZ l] at hb;intro q;simp only [zO,Option.some.injEq] at q;exact (hp b hb).1 q.symm;rw [jE e] at hb;exact h.off i b hi hb;by_cases e:k=i
 subst e;rw [xZ l] at hb;rw [jE om];intro q;exact (hp b hb).2 (.inr ⟨j,by rw [h.len];exact u,q⟩);rw [jE e] at hb;by_cases t:k=j
 subst t;rw [xZ l];intro q;exact (hp b q).2 (.inr ⟨i,by rw [h.len];omega,hb⟩);rw [jE t];exact h.apart i j b s u hb
theorem lt (h:OwnV w B ↑g n cap L):B<=g/\g<w.heap.size:=by
 rcases h.row with ⟨i,_⟩ | ⟨g2,h1,h2,hr⟩
 cases i;cases h1;exact ⟨h2,hr.lt⟩
theorem rowOf (h:OwnV w B ↑g n cap L):RowV w g cap L:=by
 rcases h.row with ⟨i,_⟩ | ⟨g2,h1,h2,hr⟩
 cases i;cases h1;exact hr
end OwnV
theorem bQ (h:RowV w g n (List.replicate n noV)) (i:B<=g):OwnV w B ↑g n n (List.replicate n noV):=by
 have hp: ∀k,k<n->pv (List.replicate n noV) k=noV:=fun k hk=>by
  unfold pv;simp [List.getD,List.getElem?_replicate,hk]
 refine ⟨sI, .inr ⟨g,rfl,i,h⟩,fun k hk=>?_,fun k b hk hb=>?_,fun j k b l hk hb=>?_⟩;rw [hp k hk];exact oN;rw [hp k hk] at hb;cases hb;rw [hp j om] at hb;cases hb
theorem RdV.cells {b:Nat} {L:List PV} (h:RdV w (some ↑(b,off)) L) (hk:k<L.length):b<w.heap.size/\Jc w (b,off+k*3) (pv L k).W/\Jc w (b,off+k*3+1) (pv L k).H/\Jc w (b,off+k*3+2) (.slice (pv L k).a (pv L k).n (pv L k).c):=by
 obtain ⟨l,i,h1,h2,h3,h4,j⟩:=h.cellsAt hk;have e:=Yd h1;simp only [Addr.mk.injEq] at e;obtain ⟨rfl,rfl,_⟩:=e;exact ⟨h2,h3,h4,j⟩
theorem RdV.addr {L:List PV} (h:RdV w ad L) (h1:1<=L.length): ∃b off,ad=some ⟨b,off,none⟩/\b<w.heap.size:=by
 obtain ⟨b,off,h1,h2,_⟩:=h.cellsAt (k:=0) om;exact ⟨b,off,h1,h2⟩
def jS:List PV->Nat
 | []=>0
 | p::r=>p.n+jS r
theorem Dl (L M:List PV):jS (L++M)=jS L+jS M:=by
 induction L with
 | nil=>simp [jS]
 | cons p r i=>simp only [List.cons_append,jS,i];omega
theorem JM (L:List PV) (k:Nat) (h:k<L.length):jS (L.take (k+1))=jS (L.take k)+(pv L k).n:=by
 rw [Ym h,Dl];simp [jS,pv,List.getD,Ya h]
theorem Wh (L:List PV) (k:Nat):jS (L.take k)<=jS L:=by
 have e:jS L=jS (L.take k)+jS (L.drop k):=by rw [<-Dl,List.take_append_drop]
 omega
theorem zCA (L:List PV) (k:Nat) (h:k<L.length):(pv L k).n<=jS L:=by
 have h1:=JM L k h;have h2:=Wh L (k+1);omega
theorem ND (L:List PV):kH L=2*L.length+jS L:=by
 induction L with
 | nil=>rfl
 | cons p r i=>simp only [kH,jS,List.length_cons,i];omega
theorem Va (L:List PV) (k:Nat):kH (L.take k)<=kH L:=by
 have e:kH L=kH (L.take k)+kH (L.drop k):=by rw [<-Bo,List.take_append_drop]
 omega
def Fg (L Q:List PV):Prop:=Q.length=L.length/\ ∀k,k<L.length->(pv Q k).W=(pv L k).W/\(pv Q k).H=(pv L k).H/\(pv Q k).ink=(pv L k).ink/\(pv Q k).n=(pv L k).n/\(pv Q k).c=(pv L k).n
theorem Fg.pics {L Q:List PV} (h:Fg L Q):zS Q=zS L:=Qe h.1 (fun k hk=>by obtain ⟨a,b,c,_⟩:=h.2 k (by rw [<-h.1];exact hk);exact ⟨a,b,c⟩)
theorem Fg.ink {L Q:List PV} (h:Fg L Q):jS Q=jS L:=by
 have key: ∀k,k<=L.length->jS (Q.take k)=jS (L.take k):=by
  intro k
  induction k with
  | zero=>intro _;simp [jS]
  | succ k i=>
   intro hk;rw [JM Q k (by rw [h.1];omega),JM L k om,i om,(h.2 k om).2.2.2.1]
 have:=key L.length nI;rwa [List.take_length,Yk (by rw [h.1];omega)] at this
theorem Qf (L:List PV) (k:Nat) (h:k<L.length):(zS L)[k]? =some (pv L k).pic:=by
 simp [zS,pv,List.getD,Ya h]
theorem mR {L M:List PV} (hl:L.length=M.length):zS L=zS M↔ ∀k,k<L.length->(pv L k).W=(pv M k).W/\(pv L k).H=(pv M k).H/\(pv L k).ink=(pv M k).ink:=by
 constructor;intro h k hk;have e:(zS L)[k]? =(zS M)[k]?:=by rw [h]
 rw [Qf L k hk,Qf M k om] at e;have i:=Yd e;unfold PV.pic at i;simp only [Pic.mk.injEq] at i;exact i;exact Qe hl
def jV (s:Int) (L:List PV) (k:Nat):List PV:=(uZ s L).take k++L.drop k
theorem Pd (s:Int) (L:List PV) (k:Nat):(jV s L k).length=L.length:=by
 unfold jV;simp [uF];omega
theorem lq (s:Int) (L:List PV):jV s L 0=L:=by simp [jV]
theorem tq (s:Int) (L:List PV) (h:L.length=n):jV s L n=uZ s L:=by
 unfold jV;rw [Yk (by rw [uF];omega),List.drop_of_length_le om,List.append_nil]
theorem Wo (s:Int) (L:List PV) (h:k<L.length):pv (jV s L k) k=pv L k:=by
 unfold jV pv;simp only [List.getD];rw [List.getElem?_append_right (by simp [uF];omega)];simp only [Yj,uF,Nat.min_eq_left (Nat.le_of_lt h),Nat.sub_self,List.getElem?_drop,Yy]
theorem lZ (s:Int) (L:List PV) (h:k<L.length):(jV s L k).set k (pv (uZ s L) k)=jV s L (k+1):=by
 unfold jV;have hk:((uZ s L).take k).length=k:=by rw [Yj,uF];omega
 rw [List.set_append_right _ _ om,hk,Nat.sub_self,List.drop_eq_getElem_cons h,List.set_cons_zero,Ym (by rw [uF];exact h),List.append_assoc]
 have e:pv (uZ s L) k=(uZ s L)[k]'(by rw [uF];exact h):=by
  unfold pv;rw [List.getD,Ya (show k<(uZ s L).length by rw [uF];exact h)];rfl
 rw [e];rfl
end Go.Proofs.YtlenfgdjdianiaaGreatDoor
