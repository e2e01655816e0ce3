/- Facts on which this claim rests, 38. -/
import Derived.Test.YtlenfgdjdianiaaGreatDoorF37
set_option linter.all false
set_option maxHeartbeats 6400000
namespace Go.Proofs.YtlenfgdjdianiaaGreatDoor
open Go.RowKit Tq Go.Proofs.Tryz
variable {B B2 cap n : Nat} {ad : Option Addr} {l : List UInt8} {s : ByteArray} {v : Value} {w w' : World} {xs : List Int}
theorem zPk (w:World):Sem.run prog (convert 72 9 (.slice none 0 0)) w= .ok (.string ⟨#[]⟩) w:=zK
theorem zQl (h:qL w B v l) (c:l=[]->v= .slice none 0 0):Sem.run prog (convert 72 9 v) w= .ok (.string ⟨l.toArray⟩) w:=by
 by_cases hl:l=[]
 rw [c hl,hl];exact zPk w;refine zDj (B:=B) (m:=l.length) ?_ (by cases l with | nil=>exact absurd rfl hl | cons a b=>simp) rfl;rw [List.take_length];exact h
theorem qL.keep (h:qL w B v l) (hk: ∀b,B<=b->b<w.heap.size->w'.heap[b]? =w.heap[b]?):qL w' B v l:=by
 obtain ⟨hl,h⟩:=h;refine ⟨hl,?_⟩;rcases h with h | ⟨g,c,a,h1,e,hg,h2⟩
 exact .inl h;exact .inr ⟨g,c,a,h1,e,(hk g e (Array.getElem?_eq_some_iff.1 hg).1).trans hg,h2⟩
theorem zLb (h:xy w B v n xs): ∀b,v.ownBlock=some b-> ∃a,w.heap[b]? =some (.cells a 5 (0,0)):=by
 obtain ⟨hl,h⟩:=h;intro b hb;rcases h with ⟨rfl,rfl⟩ | ⟨g,cap,a,rfl,c,hg,r⟩
 simp [Value.ownBlock] at hb;simp only [Value.ownBlock,Option.some.injEq] at hb;subst hb;exact ⟨a,hg⟩
theorem qw (h:OwnA w B ad n cap xs): ∀b,zL ad=some b-> ∃a,w.heap[b]? =some (.cells a 3 (0,0)):=by
 intro b hb;rcases h with ⟨rfl,_⟩ | ⟨g,rfl,_,_,a,hg,_⟩
 cases hb;cases hb;exact ⟨a,hg⟩
theorem yG.apartU {D:Dsk} (h:yG w B D) (j:xy w B2 v n xs): ∀b,v.ownBlock=some b->D.blocks b->False:=by
 intro b hb hd;obtain ⟨c0,i⟩:=zLb j b hb
 have q: ∀a T,w.heap[b]? =some (.cells a T (0,0))->T=5:=by
  intro a T e;rw [i] at e;injection e with e
  injection e with e1 e2
  exact e2.symm
 rcases hd with hd | hd | hd | ⟨k,hk,hd⟩
 obtain ⟨c,e⟩:=qw h.p b hd;exact absurd (q _ _ e) dC;obtain ⟨c,e⟩:=qw h.m b hd;exact absurd (q _ _ e) dC;rcases h.s.row with ⟨f,_⟩ | ⟨g,f,_,a,e,_⟩
 rw [f] at hd;cases hd;rw [f] at hd;cases hd;exact absurd (q _ _ e) dC;obtain ⟨c,e⟩:=qw (h.s.ink k (by rw [<-h.s.len];exact hk)) b hd;exact absurd (q _ _ e) dC
theorem zGn (s l:ByteArray) (h:l ∈ yw s):l.size<=s.size:=by
 unfold yw at h;split at h;exact vK s _ l (List.mem_of_mem_take h);split at h;rcases List.mem_append.1 h with h | h
 exact vK s _ l h;rw [List.mem_singleton.1 h,ByteArray.size_extract];omega;exact vK s _ l h
set_option maxRecDepth 100000 in
theorem zCC (s:ByteArray) (w:World) (hz:s.size<=1048576) (hL:jt w):
 Calls prog 13 #[.string s] w (zR (.tuple #[.string ⟨(je s).1.toArray⟩,(je s).2]) w):=by
 have g3:=Jh hL;clear hL;go_in;go_wp2_with fail;refine (zEy s w hz).mono ?_;rintro e w1 ⟨ad,n,c,rfl,hr,hb⟩;have V:=Jh hr;have R:=Jh hb;have HN:=Jh hr.len;clear hr hb;by_cases b1:40<n
 . have E:je s=([],-1):=by unfold je;rw [if_pos (by rw [HN.Z];exact b1)]
   go_wp2_with fail;go_ret2;rw [E];exact ⟨rfl,R.Z⟩
 have ES:Hd (je s=((yQ (yw s) n).2,(n:Int))):=Jh (by unfold je;rw [HN.Z,if_neg b1]);have i0:n<=40:=om;clear b1;go_wp2_with fail;refine (zEu _).mono ?_;rintro e w2 ⟨E0,rfl,ho,hd,F,hb⟩;have g4:=Jh ho;have g0:=Jh hd;have m:=Jh F;have T:=Jh (zI R.Z hb);have g6:=Jh (V.Z.below hb);have X:=Jh V.Z.block;have b0:=Jh hb.size;clear ho hd F hb V R;unfold Dsk.val;go_wp2_with fail;have KG:=Blk.new w2 35 ↑E0
 go_loopw [7,18] (fun v i wr=> ∃(k:Nat) (E:Dsk),k<=n/\i=↑k/\qL wr (w2.heap.size+1) v (yQ (yw s) k).2/\((yQ (yw s) k).2=[]->v= .slice none 0 0)/\Blk wr w2 35 ↑E/\RdD wr E/\E.dat=(yQ (yw s) k).1/\jX E/\xm wr w ad n c (yw s)/\Below w w wr) (fun _ i _=>n - (intOf i).toNat)
 case atStart=>exact ⟨0,E0,nZ,rfl,zDM _ _,fun _=>rfl,KG,g4.Z.rd.alloc _,g0.Z,m.Z,g6.Z.alloc _,zJ T.Z _⟩
 clear KG;obtain ⟨k,E,hk,rfl,hu,e6,kg,e2,hd,F,e3,hb⟩:=hrel;have HU:=Jh hu;have HV:=Jh e6;have KG:=Jh kg;have d0:=Jh e2;have HD:=Jh hd;have g8:=Jh F;have d1:=Jh e3;have HB:=Jh hb;clear hu e6 kg e2 hd F e3 hb;by_cases b2:k<n
 . obtain ⟨b,off,h5,i3,hc⟩:=d1.Z.rd k (by rw [HN.Z];exact b2)
   subst h5;obtain ⟨ln,q⟩: ∃t,(yw s)[k]'(by rw [HN.Z];exact b2)=t:=⟨_,rfl⟩
   rw [q] at hc;have h6:ln.size<=1048576:=Yx (zGn s ln (by rw [<-q];exact List.getElem_mem _)) hz
   have d8:(yw s).getD k ByteArray.empty=ln:=by
    rw [Yh,Ya (by rw [HN.Z];exact b2),q];rfl
   have g2:=Jh d8;clear q d8;obtain ⟨l0,c0,c1,c2,c3,c4,c5,c6⟩:=KG.Z.c7;have k0:(0:Int)<=(k:Int):=om;have k1:(k:Int)<(n:Int):=om;have c8:Hd (yX E.dat=true):=Jh (by rw [HD.Z];exact XX _ _);go_wp2_with fail;refine (zDn E ln wr d0.Z g8.Z (zHd d0.Z c8.Z) h6 (g3.Z.below HB.Z)).mono ?_;rintro e w5 ⟨j,rfl,b3,d6,e4,A⟩;have i5:w2.heap.size<wr.heap.size:=KG.Z.lt;have b7:=Jh b3;have O:=Jh b3.bd;have d2:=Jh e4;have h0:=Jh (HU.Z.below A);have I:=Jh (xy.own HU.Z);have J:=Jh (KG.Z.zA A);have Q:=Jh (d1.Z.below A);have e8:=Jh (zI HB.Z A);have h3:=Jh A.size;obtain ⟨g,f⟩: ∃t,(kW E.dat ln).2=t:=⟨_,rfl⟩
   have e7:Hd (g.length<=4194304):=Jh (by rw [<-f];exact zAF ln c8.Z)
   have d3:Hd (yQ (yw s) (k+1)=(j.dat,(yQ (yw s) k).2++(if g=[] then [] else g++ [10]))):=Jh (by
    conv=>lhs;unfold yQ
    rw [g2.Z,<-HD.Z,f,d6])
   rw [f];clear b3 d6 e4 A l0 c0 c1 c2 c3 c4 c5 c6 f;obtain ⟨l0,c0,c1,c2,c3,c4,c5,c6⟩:=J.Z.c7;obtain ⟨f0,f1,f2,f3,f4,f5,f6⟩:=J.Z.f7;obtain ⟨w6,G⟩:=zN (((((((w5.setCell w2 ↑j.P.W).setCell (w2,1) ↑j.P.H).setCell (w2,2) (.slice j.P.a j.P.n j.P.c)).setCell (w2,3) ↑j.M.W).setCell (w2,4) ↑j.M.H).setCell (w2,5) (.slice j.M.a j.M.n j.M.c)).setCell (w2,6) (.slice j.a j.n j.c));have L:Hd (KeepT (fun i=>i=w2.heap.size) w5 w6):=Jh (by rw [G];exact vE w5 w2 _ _ _ _ _ _ _);have d5:Hd (Blk w6 w2 35 ↑j):=Jh (by rw [G];exact J.Z.put7 _ _ _ _ _ _ _);have b8:Hd (yG w6 wr j):=Jh (b7.Z.keepZ L.Z (fun b hb e=>by have:=O.Z b e;omega));have d4:Hd (qL w6 (w2.heap.size+1) (u7) (yQ (yw s) k).2):=Jh (h0.Z.keep (fun b h1 h2=>L.Z.block b h2 om));have u:Hd (xm w6 w (some ↑(b,off)) n c (yw s)):=Jh (Q.Z.keep (fun C o=>L.Z.block C (Q.Z.block C o).2 (zB (X.Z C o).2 b0.Z)));have b4:Hd (Below w w w6):=Jh (by rw [G];exact zc e8.Z T.Z.size _ _ _ _ _ _ _);unfold Dsk.val;go_upto_region 10 with fail;rw [<-G];clear G l0 c0 c1 c2 c3 c4 c5 c6 f0 f1 f2 f3 f4 f5 f6 J b7;by_cases f:g=[]
   . have m:Hd (yQ (yw s) (k+1)=(j.dat,(yQ (yw s) k).2)):=Jh (by rw [d3.Z,if_pos f,List.append_nil])
     subst f;go_wp2_with fail;go_roundw
     case rel=>exact ⟨k+1,j,om,by go_num,by rw [m.Z];exact d4.Z,by rw [m.Z];exact HV.Z,d5.Z,b8.Z.rd,by rw [m.Z],d2.Z,u.Z,b4.Z⟩
     exact Jm
   have m:Hd (yQ (yw s) (k+1)=(j.dat,(yQ (yw s) k).2++g++ [10])):=Jh (by rw [d3.Z,if_neg f,List.append_assoc])
   obtain ⟨a0,ar,N⟩: ∃a0 ar,g=a0::ar:=by
    cases g with
    | nil=>exact absurd rfl f
    | cons x y=>exact ⟨x,y,rfl⟩
   have i4:(⟨g.toArray⟩:ByteArray).toList.isEmpty=false:=by rw [Yf,N];rfl
   have h7:(⟨g.toArray⟩:ByteArray).toList≠ []:=by rw [Yf,N];simp
   have q:(yQ (yw s) k).2.length<=40*4194305:=Yx (Ja _ k) (Nat.mul_le_mul_right _ om);have h8:g.isEmpty=false:=by rw [N];rfl
   clear N;have b6:=Jh q;have i2:=e7.Z;have e5:w2.heap.size+1<=w6.heap.size:=by have:=L.Z.size;have:=h3.Z;omega
   have i1:w.heap.size<=w2.heap.size:=T.Z.size;clear q
   go_wp2_with (first
    | (at_builtin;refine zQB _ rfl (.tmp 30) (.tmp 31) rfl (w2.heap.size+1) u7 (yQ (yw s) k).2 rfl d4.Z ⟨g.toArray⟩ rfl (by have:=b6.Z;show _+g.toArray.size<=_;rw [List.size_toArray];omega) e5 ?_;intro v7 w7 e0 d7;have U:=Jh e0;have z:=Jh d7;clear e0 d7)
    | (at_builtin;refine zOk _ rfl (.tmp 33) (.tmp 34) rfl (w2.heap.size+1) v7 ((yQ (yw s) k).2++g) rfl (qL.below U.Z nJ) w7 rfl (by go_simp) (by have:=b6.Z;rw [Yn];omega) (oS z.Z.size) ?_;intro v8 w8 e1 D))
   have i6:=z.Z.size;have b5:Hd (yG w7 wr j):=Jh (b8.Z.keepZ (S:=fun i=>u7.ownBlock=some i) (KeepT.ofGrown z.Z (fun b hb=>hb)) (fun b hb e=>by have:=(O.Z b e).1;have:=(I.Z b hb).2;omega));have Y:=xy.own U.Z;have g1:Hd (yG w8 wr j):=Jh ((b5.Z.alloc (.cells #[.int .u8 10] 5)).keepZ (S:=fun i=>v7.ownBlock=some i) (KeepT.ofGrown D (fun b hb=>hb)) (fun b hb e=>b5.Z.apartU U.Z b hb e));have h4:Hd (Blk w8 w2 35 ↑j):=Jh (((d5.Z.grown z.Z (fun e=>by have:=I.Z _ e.symm;omega)).alloc (.cells #[.int .u8 10] 5)).grown D (fun e=>by have:=Y _ e.symm;omega));have g7:Hd (xm w8 w (some ↑(b,off)) n c (yw s)):=Jh ((((u.Z.keep (fun C o=>z.Z.block C (u.Z.block C o).2 (fun e=>by have:=(X.Z C o).2;have:=b0.Z;have:=I.Z _ e.symm;omega))).alloc (.cells #[.int .u8 10] 5))).keep (fun C o=>D.block C (oS (u.Z.block C o).2) (fun e=>by have:=(X.Z C o).2;have:=b0.Z;have:=Y _ e.symm;omega)));have f8:Hd (Below w w w8):=Jh (((b4.Z.grown z.Z om (fun b hb=>by have:=I.Z b hb;omega)).alloc om (.cells #[.int .u8 10] 5)).grown D sO (fun b hb=>by have:=Y b hb;omega));have g5:=Jh e1;clear e1 D;go_roundw
   case rel=>exact ⟨k+1,j,om,by go_num,by rw [m.Z];exact g5.Z,by rw [m.Z];intro e;simp at e,h4.Z,g1.Z.rd,by rw [m.Z],d2.Z,g7.Z,f8.Z⟩
   exact Jm
 obtain rfl:k=n:=om;have ht:=zQl HU.Z HV.Z;go_wp2_with fail;go_ret2;rw [ES.Z];exact ⟨rfl,HB.Z⟩
def yo (s:ByteArray):Nat->List ByteArray × Nat
 | 0=>([],0)
 | k+1=>if (s.get! k).toNat=32 then ((yo s k).1++ [s.extract (yo s k).2 k],k+1) else yo s k
theorem XJ (s:ByteArray) (k:Nat):yo s (k+1)=if (s.get! k).toNat=32 then ((yo s k).1++ [s.extract (yo s k).2 k],k+1) else yo s k:=rfl
theorem Zr (s:ByteArray): ∀k,(yo s k).2<=k
 | 0=>nI
 | k+1=>by
  unfold yo;split;exact nI;exact Nat.le_succ_of_le (Zr s k)
theorem Xv (s:ByteArray): ∀k,(yo s k).1.length<=k
 | 0=>nI
 | k+1=>by
  have:=Xv s k;unfold yo;split;simp only [Yn,List.length_singleton];omega;omega
theorem XI (s:ByteArray): ∀k l,l ∈ (yo s k).1->l.size<=s.size
 | 0,l,h=>by simp [yo] at h
 | k+1,l,h=>by
  unfold yo at h;split at h;rcases List.mem_append.1 h with h | h
  exact XI s k l h;rw [List.mem_singleton.1 h,ByteArray.size_extract];omega;exact XI s k l h
def yJ (s:ByteArray):List ByteArray:=(yo s s.size).1++ [s.extract (yo s s.size).2 s.size]
theorem zHW (s l:ByteArray) (h:l ∈ yJ s):l.size<=s.size:=by
 rcases List.mem_append.1 h with h | h
 exact XI s _ l h;rw [List.mem_singleton.1 h,ByteArray.size_extract];omega
theorem wW (s:ByteArray):1<=(yJ s).length/\(yJ s).length<=s.size+1:=by
 have:=Xv s s.size;unfold yJ;rw [Yn,List.length_singleton];omega
def xi:List UInt8->List (List UInt8)
 | []=> [[]]
 | c::r=>if c.toNat=32 then []::xi r else match xi r with
  | []=> [[c]]
  | h::t=>(c::h)::t
theorem Uf: ∀l,xi l≠ []
 | []=>by simp [xi]
 | c::r=>by
  unfold xi;split;simp;split <;>simp
theorem qu: ∀ {l:List UInt8},(∀c,c ∈ l->c.toNat≠32)->xi l=[l]
 | [],_=>rfl
 | c::r,h=>by
  unfold xi;rw [if_neg (h c sI),qu (fun d hd=>h d (by simp [hd]))]
theorem zBq: ∀ {a r:List UInt8} {c:UInt8},(∀d,d ∈ a->d.toNat≠32)->c.toNat=32->xi (a++c::r)=a::xi r
 | [],r,c,_,hc=>by show xi (c::r)=_;rw [xi,if_pos hc]
 | d::a,r,c,h,hc=>by
  rw [List.cons_append,xi,if_neg (h d sI),zBq (fun e he=>h e (by simp [he])) hc]
theorem qg (s:ByteArray) (k:Nat) (h:k<s.size):s.data.toList[k]? =some (s.get! k):=by
 rcases s with ⟨a⟩
 have h2:k<a.size:=h;show a.toList[k]? =some (a[k]!);rw [Array.getElem?_toList,Array.getElem?_eq_getElem h2,getElem!_pos a k h2]
theorem YO (s:ByteArray) (a b:Nat):(s.extract a b).data.toList=(s.data.toList.take b).drop a:=by
 rw [Lib.extract_data,List.drop_take]
theorem Qb (s:ByteArray): ∀k,k<=s.size->xi s.data.toList=zk (yo s k).1++xi (s.data.toList.drop (yo s k).2)/\ ∀i,(yo s k).2<=i->i<k->(s.get! i).toNat≠32
 | 0,_=>⟨by simp [yo,zk],fun i _ h=>om⟩
 | k+1,hk=>by
  obtain ⟨b,no⟩:=Qb s k om;have f:=Zr s k;rw [XJ];by_cases hc:(s.get! k).toNat=32
  rw [if_pos hc];refine ⟨?_,fun i h1 h2=>by dsimp only at h1;omega⟩;dsimp only;rw [b]
  have e:s.data.toList.drop (yo s k).2=(s.data.toList.take k).drop (yo s k).2++s.get! k::s.data.toList.drop (k+1):=by
   have hl:s.data.toList.length=s.size:=sI
   have h1:s.data.toList=s.data.toList.take k++s.get! k::s.data.toList.drop (k+1):=by
    have a:k<s.data.toList.length:=om;have hg:=qg s k om;rw [Ya a] at hg;rw [<-Yd hg,List.getElem_cons_drop,List.take_append_drop]
   conv=>lhs;rw [h1]
   rw [List.drop_append_of_le_length (by rw [Yj];omega)]
  have c:zk ((yo s k).1++ [s.extract (yo s k).2 k])=zk (yo s k).1++ [(s.data.toList.take k).drop (yo s k).2]:=by
   rw [<-YO];simp [zk]
  rw [e,zBq _ hc,c,List.append_assoc];rfl;intro d hd;obtain ⟨i,hi,rfl⟩:=List.getElem_of_mem hd;have hl:s.data.toList.length=s.size:=sI;rw [List.length_drop,Yj] at hi;rw [List.getElem_drop,List.getElem_take];have hg:=qg s ((yo s k).2+i) om;rw [Ya om] at hg;rw [Yd hg];exact no _ om om;rw [if_neg hc];refine ⟨b,fun i h1 h2=>?_⟩;by_cases e:i=k
  rw [e];exact hc;exact no i h1 om
theorem wV (s:ByteArray):zk (yJ s)=xi s.data.toList:=by
 obtain ⟨h,no⟩:=Qb s s.size nI;have hl:s.data.toList.length=s.size:=sI;rw [h]
 have a:zk (yJ s)=zk (yo s s.size).1++ [s.data.toList.drop (yo s s.size).2]:=by
  have b:(s.extract (yo s s.size).2 s.size).data.toList=s.data.toList.drop (yo s s.size).2:=by
   rw [YO];congr 1;rw [<-hl,List.take_length]
  rw [<-b];simp [zk,yJ]
 rw [a];congr 1;rw [qu];intro d hd;obtain ⟨i,hi,rfl⟩:=List.getElem_of_mem hd;rw [List.length_drop] at hi;rw [List.getElem_drop];have hg:=qg s ((yo s s.size).2+i) om;rw [Ya om] at hg;rw [Yd hg];exact no _ om om
theorem zBi: ∀ {a b:List ByteArray},zk a=zk b->a=b
 | [],[],_=>rfl
 | [],y::b,h=>by simp [zk] at h
 | x::a,[],h=>by simp [zk] at h
 | x::a,y::b,h=>by
  simp only [zk,List.map_cons,List.cons.injEq] at h;rw [zBi (a:=a) (b:=b) (by simpa [zk] using h.2)];congr 1;exact ByteArray.ext (Array.toList_inj.1 h.1)
theorem Jg: ∀(k:Nat) (s:ByteArray),(zk (Lib.splitB ⟨#[32]⟩ 0 k s)=xi s.data.toList/\(xi s.data.toList).length<=k+1)\/
 (k+1<(xi s.data.toList).length/\ ∃x,zk (Lib.splitB ⟨#[32]⟩ 0 k s)=(xi s.data.toList).take k++ [x]/\ ∃c,c ∈ x/\c.toNat=32)
 | 0,s=>by
  rw [Lib.splitB_zero];by_cases h: ∃c,c ∈ s.data.toList/\c.toNat=32
  obtain ⟨c,hc,g⟩:=h;refine .inr ⟨?_,s.data.toList,by simp [zk],c,hc,g⟩;obtain ⟨a,r,e⟩:=List.append_of_mem hc
  have hp: ∀(a:List UInt8),1<(xi (a++c::r)).length:=by
   intro a
   induction a with
   | nil=>
    show 1<(xi (c::r)).length;rw [xi,if_pos g,List.length_cons];have:=List.length_pos_iff.2 (Uf r);omega
   | cons d a b=>
    rw [List.cons_append,xi];split;rw [List.length_cons];omega;split;rename_i o;rw [o] at b;simp at b;rename_i o;rw [o] at b;simpa using b
  rw [e];have:=hp a;omega;refine .inl ⟨?_,?_⟩;rw [qu (fun c hc e=>h ⟨c,hc,e⟩)];simp [zk];rw [qu (fun c hc e=>h ⟨c,hc,e⟩)];simp
 | k+1,s=>by
  rcases Lib.indexB_cases s ⟨#[32]⟩ with h | ⟨i,h,hi⟩
  have h2:Lib.indexByte s.data.toList 32=-1:=by rw [<-Lib.index_one];exact h
  have no:=Lib.indexByte_none h2
  have f: ∀c,c ∈ s.data.toList->c.toNat≠32:=by
   intro c hc e;obtain ⟨j,t⟩:=List.mem_iff_getElem?.1 hc;refine no j ?_;rw [t];congr 1;exact UInt8.toNat_inj.1 e
  rw [Lib.splitB_miss _ _ _ _ h,qu f];exact .inl ⟨by simp [zk],sI⟩;have h2:Lib.indexByte s.data.toList 32=i:=by rw [<-Lib.index_one];exact h
  obtain ⟨m,no⟩:=Lib.indexByte_some h2;rw [Lib.splitB_hit _ _ _ _ i h];have hl:s.data.toList.length=s.size:=sI;have q:i<s.data.toList.length:=(List.getElem?_eq_some_iff.1 m).1
  have e:s.data.toList=s.data.toList.take i++(32:UInt8)::s.data.toList.drop (i+1):=by
   have hg:=m;rw [Ya q] at hg;rw [<-Yd hg,List.getElem_cons_drop,List.take_append_drop]
  have f: ∀d,d ∈ s.data.toList.take i->d.toNat≠32:=by
   intro d hd e;obtain ⟨j,t,rfl⟩:=List.getElem_of_mem hd;rw [Yj] at t;rw [List.getElem_take] at e;refine no j om ?_;rw [Ya om];congr 1;exact UInt8.toNat_inj.1 e
  have u:(s.extract 0 (i+0)).data.toList=s.data.toList.take i:=by rw [YO];simp
  have y:(s.extract (i+(⟨#[32]⟩:ByteArray).size) s.size).data.toList=s.data.toList.drop (i+1):=by
   rw [YO,<-hl,List.take_length];rfl
  have z:xi s.data.toList=s.data.toList.take i::xi (s.data.toList.drop (i+1)):=by
   conv=>lhs;rw [e]
   exact zBq f rfl
  have b:=Jg k (s.extract (i+(⟨#[32]⟩:ByteArray).size) s.size);rw [y] at b;rw [zk,List.map_cons,u,z];rcases b with ⟨h1,h3⟩ | ⟨h1,x,h3,h4⟩
  refine .inl ⟨?_,by rw [List.length_cons];omega⟩;rw [<-h1];rfl;refine .inr ⟨by rw [List.length_cons];omega,x,?_,h4⟩;rw [List.take_succ_cons,List.cons_append,<-h3];rfl
theorem xm.empty (w:World):xm (w.alloc (.cells #[] 9)) w (some ⟨w.heap.size,0,Option.none⟩) 0 0 []:=
 ⟨sI, .inr ⟨w.heap.size,0,#[],rfl,nI,heap_alloc_new w _,nI,by unfold maxLen;omega,sI,sI⟩⟩
def jB (s:ByteArray) (p:Nat):List ByteArray × Nat:=if p<=s.size then yo s p else (yJ s,s.size+1)
theorem vh {p:Nat} (h:p<=s.size):jB s p=yo s p:=by unfold jB;rw [if_pos h]
theorem UW {p:Nat} (h:p<=s.size):(jB s p).2<=p:=by rw [vh h];exact Zr s p
theorem zJg (s:ByteArray):jB s (s.size+1)=((jB s s.size).1++ [s.extract (jB s s.size).2 s.size],s.size+1):=by
 rw [vh nI];unfold jB;rw [if_neg om];rfl
theorem zJh {p:Nat} (h:p<s.size) (hc:(s[p]'h).toNat=32):jB s (p+1)=((jB s p).1++ [s.extract (jB s p).2 p],p+1):=by
 have e:s.get! p=s[p]'h:=by
  have:=qg s p h;rw [Ya (by simpa using h)] at this;exact (Yd this).symm
 rw [vh h,vh (Nat.le_of_lt h),XJ,if_pos (by rw [e];exact hc)]
theorem zMl {p:Nat} (h:p<s.size) (hc: ¬(s[p]'h).toNat=32):jB s (p+1)=jB s p:=by
 have e:s.get! p=s[p]'h:=by
  have:=qg s p h;rw [Ya (by simpa using h)] at this;exact (Yd this).symm
 rw [vh h,vh (Nat.le_of_lt h),XJ,if_neg (by rw [e];exact hc)]
set_option maxRecDepth 100000 in
theorem zFr (s:ByteArray) (w:World) (hz:s.size<=1048576):
 Calls prog 19 #[.string s] w fun e w'=> ∃ad n c,e= .returned (.slice ad n c)/\xm w' w ad n c (yJ s)/\Below w w w':=by
 have KE:=Jh (xm.empty w);have HB0:=Jh (Joins.below_alloc1 w (.cells #[] 9));go_in;go_wp2_with fail
 go_loopw [3,4,5] (fun l t i wr=> ∃(p n c:Nat) (ad:Option Addr),p<=s.size+1/\i=↑p/\l= .slice ad n c/\t=↑((jB s p).2:Nat)/\xm wr w ad n c (jB s p).1/\Below w w wr) (fun _ _ i _=>s.size+1 - (intOf i).toNat)
 case atStart=>exact ⟨0,0,0,_,nZ,rfl,rfl,by rw [vh nZ];rfl,by rw [vh nZ];exact KE.Z,HB0.Z⟩
 case round=>
  obtain ⟨p,n,c,ad,hp,rfl,rfl,rfl,hrow,hb⟩:=hrel;have HR:=Jh hrow;have HB:=Jh hb;have hll:=hrow.len;have hul:p<=s.size->n<=p:=fun h=>by rw [<-hll,vh h];exact Xv s p
  clear hrow hb hll;by_cases hlt:p<s.size
  . have hul2:=hul om
    have hst:=UW (Nat.le_of_lt hlt);obtain ⟨b,hsb⟩: ∃b,s[p]'hlt=b:=⟨_,rfl⟩
    by_cases hc:b.toNat=32
    . have e32:(((b.toNat:Nat):Int)==32)=true:=by rw [hc];rfl
      have HE:=Jh (zJh hlt (by rw [hsb];exact hc));obtain ⟨st,hstd⟩: ∃st,(jB s p).2=st:=⟨_,rfl⟩
      rw [hstd] at hst HE⊢;clear hstd;go_wp2_with (at_builtin;refine vM _ rfl (.tmp 23) (.tmp 28) rfl w n c ad (jB s p).1 rfl (HR.Z.alloc _) wr.heap.size (s.extract st p) rfl (by go_simp) om (oS HB.Z.size) ?_;intro ad2 cap2 w5 ho5 hg5);have HW5:=Jh ((HB.Z.alloc HB.Z.size _).grown hg5 (oS HB.Z.size) (fun b hb=>(HR.Z.block b hb).1));have HO5:=Jh ho5;clear ho5 hg5;go_roundw
      case rel=>exact ⟨p+1,n+1,cap2,ad2,om,by go_num,rfl,by rw [HE.Z];go_num,by rw [HE.Z];exact HO5.Z,HW5.Z⟩
      case measure=>exact Jm
    . have e32:(((b.toNat:Nat):Int)==32)=false:=sO
      have HE:=Jh (zMl hlt (by rw [hsb];exact hc));go_wp2_with fail;go_roundw
      case rel=>exact ⟨p+1,n,c,ad,om,by go_num,rfl,by rw [HE.Z],by rw [HE.Z];exact HR.Z,HB.Z⟩
      case measure=>exact Jm
  . by_cases heq:p=s.size
    . subst heq
      have hul2:=hul nI;have hst:=UW (Nat.le_refl s.size);have HE:=Jh (zJg s);obtain ⟨st,hstd⟩: ∃st,(jB s s.size).2=st:=⟨_,rfl⟩
      rw [hstd] at hst HE⊢;clear hstd;go_wp2_with (at_builtin;refine vM _ rfl (.tmp 23) (.tmp 28) rfl w n c ad (jB s s.size).1 rfl (HR.Z.alloc _) wr.heap.size (s.extract st s.size) rfl (by go_simp) om (oS HB.Z.size) ?_;intro ad2 cap2 w5 ho5 hg5);have HW5:=Jh ((HB.Z.alloc HB.Z.size _).grown hg5 (oS HB.Z.size) (fun b hb=>(HR.Z.block b hb).1));have HO5:=Jh ho5;clear ho5 hg5;go_roundw
      case rel=>exact ⟨s.size+1,n+1,cap2,ad2,om,by go_num,rfl,by rw [HE.Z];try go_num,by rw [HE.Z];exact HO5.Z,HW5.Z⟩
      case measure=>(simp [intOf];try omega)
    . obtain rfl:p=s.size+1:=om
      have hgt: ¬((s.size:Int)+1<=(s.size:Int)):=om;go_wp2_with fail;go_ret;exact ⟨ad,n,c,rfl,by (have e:(jB s (s.size+1)).1=yJ s:=by (unfold jB;rw [if_neg om]));rw [<-e];exact HR.Z,HB.Z⟩
end Go.Proofs.YtlenfgdjdianiaaGreatDoor
namespace Go.Proofs.YtlenfgdjdianiaaGreatDoor.xScript
open Go.ChangeShapes Go.WideShapes Go.ChangeAt Go.RowKit
variable {s : ByteArray}
open Go.Proofs.YtlenfgdjdianiaaGreatDoor (om sI sO sD zK dC aS nC oh og zB zC zN Jh Jr Jd Jm oS oT nI nZ bR nJ nV)
open Go.Proofs.YtlenfgdjdianiaaGreatDoor.Tq Go.Proofs.Tryz
def yr (s:ByteArray):List ByteArray:=if (zg s s.size).2<s.size then (zg s s.size).1++ [s.extract (zg s s.size).2 s.size] else (zg s s.size).1
theorem zGO (s:ByteArray):yr s=if (zg s s.size).2<s.size then (zg s s.size).1++ [s.extract (zg s s.size).2 s.size] else (zg s s.size).1:=rfl
theorem zRb (s:ByteArray) (h:40<(yr s).length):je s=([],-1):=by
 have:40<(yw s).length:=by
  unfold yw;split;rw [Yj];omega;exact h
 unfold je;rw [if_pos this]
theorem few (s:ByteArray) (h: ¬40<(yr s).length):je s=((yQ (yr s) (yr s).length).2,((yr s).length:Int)):=by
 have:yw s=yr s:=by
  unfold yw
  rw [if_neg (fun g=>h (by
   unfold yr;split;rw [Yn];omega
   exact g))]
  rfl
 unfold je;rw [this,if_neg h]
theorem zMq (s l:ByteArray) (h:l ∈ yr s):l.size<=s.size:=by
 unfold yr at h;split at h;rcases List.mem_append.1 h with h | h
 exact vK s _ l h;rw [List.mem_singleton.1 h,ByteArray.size_extract];omega;exact vK s _ l h
theorem zLJ {p:Nat} (h:p<s.size) (hc:(s[p]'h).toNat=10):zg s (p+1)=((zg s p).1++ [s.extract (zg s p).2 p],p+1):=by
 have e:s.get! p=s[p]'h:=by
  have:=qg s p h;rw [Ya (by simpa using h)] at this;exact (Yd this).symm
 rw [uv,if_pos (by rw [e];exact hc)]
theorem zNb {p:Nat} (h:p<s.size) (hc: ¬(s[p]'h).toNat=10):zg s (p+1)=zg s p:=by
 have e:s.get! p=s[p]'h:=by
  have:=qg s p h;rw [Ya (by simpa using h)] at this;exact (Yd this).symm
 rw [uv,if_neg (by rw [e];exact hc)]
theorem zRa (T A:List UInt8):(⟨T.toArray⟩:ByteArray)++⟨A.toArray⟩++⟨#[10]⟩=⟨(T++A++ [10]).toArray⟩:=by
 apply ByteArray.ext;simp [ByteArray.data_append]
end Go.Proofs.YtlenfgdjdianiaaGreatDoor.xScript
namespace Go.Proofs.YtlenfgdjdianiaaGreatDoor
section
open Go.ChangeShapes Go.WideShapes Go.ChangeAt Go.RowKit xScript Tq Go.Proofs.Tryz
set_option maxRecDepth 100000 in
theorem zFq (s:ByteArray) (w:World) (hz:s.size<=1048576):
 Calls prog 39 #[.string s] w fun e w'=> ∃ad n c,e= .returned (.slice ad n c)/\xm w' w ad n c (yr s)/\Below w w w':=by
 have KE:=Jh (xm.empty w);have HB0:=Jh (Joins.below_alloc1 w (.cells #[] 9));go_in;go_wp2_with fail
 go_loopw [3,4,5] (fun l t i wr=> ∃(p n c:Nat) (ad:Option Addr),p<=s.size/\i=↑p/\l= .slice ad n c/\t=↑((zg s p).2:Nat)/\xm wr w ad n c (zg s p).1/\Below w w wr) (fun _ _ i _=>s.size - (intOf i).toNat)
 case atStart=>exact ⟨0,0,0,_,nZ,rfl,rfl,rfl,KE.Z,HB0.Z⟩
 case round=>
  clear KE;obtain ⟨p,n,c,ad,hp,rfl,rfl,rfl,hrow,hb⟩:=hrel;have HR:=Jh hrow;have HB:=Jh hb;have hll:=hrow.len;have hnp:n<=p:=by rw [<-hll];exact QM s p
  have hst:=Zo s p;clear hrow hb hll;by_cases hlt:p<s.size
  . obtain ⟨b,hsb⟩: ∃b,s[p]'hlt=b:=⟨_,rfl⟩
    by_cases hc:b.toNat=10
    . have e32:(((b.toNat:Nat):Int)==10)=true:=by rw [hc];rfl
      have HE:=Jh (zLJ hlt (by rw [hsb];exact hc));obtain ⟨st,hstd⟩: ∃st,(zg s p).2=st:=⟨_,rfl⟩
      rw [hstd] at hst HE⊢;clear hstd;go_wp2_with (at_builtin;refine vM _ rfl (.tmp 17) (.tmp 22) rfl w n c ad (zg s p).1 rfl (HR.Z.alloc _) wr.heap.size (s.extract st p) rfl (by go_simp) om (oS HB.Z.size) ?_;intro ad2 cap2 w5 ho5 hg5);have HW5:=Jh ((HB.Z.alloc HB.Z.size _).grown hg5 (oS HB.Z.size) (fun b hb=>(HR.Z.block b hb).1));have HO5:=Jh ho5;clear ho5 hg5;go_roundw
      case rel=>exact ⟨p+1,n+1,cap2,ad2,om,by go_num,rfl,by rw [HE.Z];go_num,by rw [HE.Z];exact HO5.Z,HW5.Z⟩
      case measure=>exact Jm
    . have e32:(((b.toNat:Nat):Int)==10)=false:=sO
      have HE:=Jh (zNb hlt (by rw [hsb];exact hc));go_wp2_with fail;go_roundw
      case rel=>exact ⟨p+1,n,c,ad,om,by go_num,rfl,by rw [HE.Z],by rw [HE.Z];exact HR.Z,HB.Z⟩
      case measure=>exact Jm
  . obtain rfl:p=s.size:=om
    have HG:=Jh (zGO s);obtain ⟨st,hstd⟩: ∃st,(zg s s.size).2=st:=⟨_,rfl⟩
    rw [hstd] at hst HG⊢;clear hstd;by_cases hlt2:st<s.size
    . go_wp2_with (at_builtin;refine vM _ rfl (.tmp 30) (.tmp 34) rfl w n c ad (zg s s.size).1 rfl (HR.Z.alloc _) wr.heap.size (s.extract st s.size) rfl (by go_simp) om (oS HB.Z.size) ?_;intro ad2 cap2 w5 ho5 hg5)
      have HW5:=Jh ((HB.Z.alloc HB.Z.size _).grown hg5 (oS HB.Z.size) (fun b hb=>(HR.Z.block b hb).1));go_ret;exact ⟨ad2,n+1,cap2,rfl,by rw [HG.Z,if_pos hlt2];exact ho5,HW5.Z⟩
    . go_wp2_with fail
      go_ret;exact ⟨ad,n,c,rfl,by rw [HG.Z,if_neg hlt2];exact HR.Z,HB.Z⟩
end
section
open Go.RowKit Tq Go.Proofs.Tryz
variable {l : List UInt8} {v : Int}
theorem qB (d:Nat) (h:d<10):(UInt8.ofNat (48+d)).toNat=48+d:=by
 rw [UInt8.toNat_ofNat'];omega
theorem zBK (a:Nat) (c:UInt8) (r:List UInt8):Lib.parseUint10 a (c::r)=if 48<=c.toNat/\c.toNat<=57 then (if 1844674407370955162<=a then .range else if 18446744073709551616<=a*10+(c.toNat - 48) then .range else Lib.parseUint10 (a*10+(c.toNat - 48)) r) else Lib.parseUint10 0 [0]:=rfl
theorem zLc (u:Nat): ∀r:List UInt8,u<18446744073709551616->Lib.parseUint10 0 (Lib.decDigits u++r)=Lib.parseUint10 u r:=by
 induction u using Nat.strongRecOn with
 | _ u a=>
  intro r b;by_cases h:u<10
  rw [Lib.decDigits,dif_pos h];rw [List.cons_append,List.nil_append,zBK,qB u h,if_pos om,if_neg om,if_neg om];congr 1;omega;rw [Lib.decDigits,dif_neg h,List.append_assoc,a (u/10) om _ om,List.cons_append,List.nil_append,zBK,qB (u % 10) om,if_pos om,if_neg om,if_neg om];congr 1;omega
theorem zKT (u:Nat):Lib.decDigits u≠ []:=by
 rw [Lib.decDigits];split <;>simp
theorem XL (u:Nat): ∀c,c ∈ Lib.decDigits u->48<=c.toNat/\c.toNat<=57:=by
 induction u using Nat.strongRecOn with
 | _ u a=>
  intro c hc;by_cases h:u<10
  rw [Lib.decDigits,dif_pos h,List.mem_singleton] at hc;rw [hc,qB u h];omega;rw [Lib.decDigits,dif_neg h,List.mem_append,List.mem_singleton] at hc;rcases hc with hc | rfl
  exact a (u/10) om c hc;rw [qB (u % 10) om];omega
def Xu (l:List UInt8):Nat:=l.foldl (fun a c=>a*10+(c.toNat - 48)) 0
theorem zDk (l:List UInt8) (c:UInt8):Xu (l++ [c])=Xu l*10+(c.toNat - 48):=by
 unfold Xu;rw [List.foldl_append];rfl
theorem zGB (u:Nat):Xu (Lib.decDigits u)=u:=by
 induction u using Nat.strongRecOn with
 | _ u a=>
  by_cases h:u<10
  rw [Lib.decDigits,dif_pos h];show 0*10+((UInt8.ofNat (48+u)).toNat - 48)=u;rw [qB u h];omega;rw [Lib.decDigits,dif_neg h,zDk,a (u/10) om,qB (u % 10) om];omega
theorem zHm: ∀(l:List UInt8) (x:Nat),x<=l.foldl (fun a c=>a*10+(c.toNat - 48)) x
 | [],x=>nI
 | c::r,x=>by
  have:=zHm r (x*10+(c.toNat - 48));rw [List.foldl_cons];omega
theorem zPy (a b:List UInt8):Xu a<=Xu (a++b):=by
 unfold Xu;rw [List.foldl_append];exact zHm b _
theorem zMb (l:List UInt8) (k:Nat):Xu (l.take k)<=Xu l:=by
 have:=zPy (l.take k) (l.drop k);rwa [List.take_append_drop] at this
theorem zJx (h:yK v):Lib.atoiAll (Lib.itoa v)= .ok v:=by
 unfold yK at h
 have hd: ∀u,u<18446744073709551616->Lib.parseMag (Lib.decDigits u)= .ok u:=by
  intro u a;unfold Lib.parseMag;rw [if_neg (zKT u)];have:=zLc u [] a;rw [List.append_nil] at this;rw [this];rfl
 unfold Lib.itoa;by_cases hn:v<0
 rw [if_pos hn];unfold Lib.atoiAll;dsimp only;rw [if_pos (.inr rfl),hd _ om];dsimp only;rw [if_neg (fun e=>e.1 rfl),if_neg om,if_pos (show (45:UInt8).toNat=45 from rfl)];congr 1;omega;rw [if_neg hn];cases he:Lib.decDigits v.toNat with
 | nil=>exact absurd he (zKT _)
 | cons c r=>
  have hc:=XL v.toNat c (by rw [he];simp);unfold Lib.atoiAll;dsimp only;rw [if_neg om,<-he,hd _ om];dsimp only;rw [if_neg om,if_neg om,if_neg om];congr 1;omega
theorem zDK (h:yK v):xo (Lib.itoa v)=some v:=by
 unfold xo;rw [zJx h];simp
theorem Zf (h:xo l=some v):Lib.itoa v=l/\yK v:=by
 unfold xo at h;split at h;rename_i u a;split at h;rename_i he;cases h;exact ⟨he,zHe a⟩;cases h;cases h
def kY (l:List UInt8):Nat:=if l.head?.map (·.toNat)=some 45 then 1 else 0
theorem zNL (l:List UInt8):kY l<=l.length:=by
 unfold kY;cases l with
 | nil=>simp
 | cons a b=>split <;>simp
def vz (l:List UInt8) (i:Nat):Nat:=Xu ((l.take i).drop (kY l))
theorem zAf (l:List UInt8):vz l (kY l)=0:=by
 unfold vz;rw [List.drop_eq_nil_of_le (by rw [Yj];omega)];rfl
theorem zCn (l:List UInt8) (i:Nat) (h1:kY l<=i) (h2:i<l.length):vz l (i+1)=vz l i*10+((l[i]'h2).toNat - 48):=by
 unfold vz;rw [Ym h2,List.drop_append_of_le_length (by rw [Yj];omega),zDk]
theorem JQ (h:xo l=some v):(kY l=1/\v<0/\v=-(vz l l.length:Int)\/kY l=0/\0<=v/\v=(vz l l.length:Int))/\(∀i (hi:i<l.length),kY l<=i->48<=(l[i]'hi).toNat/\(l[i]'hi).toNat<=57/\vz l (i+1)<=vz l l.length):=by
 obtain ⟨he,hb⟩:=Zf h
 have a: ∀i,i<l.length->vz l (i+1)<=vz l l.length:=by
  intro i hi;unfold vz;rw [List.take_length];have:=zMb (l.drop (kY l)) (i+1 - kY l);have b:kY l<=1:=by unfold kY;split <;>omega
  rw [List.take_drop,show kY l+(i+1 - kY l)=i+1 by omega] at this;exact this
 unfold Lib.itoa at he;by_cases hn:v<0
 rw [if_pos hn] at he;have hf:kY l=1:=by rw [<-he];rfl
 refine ⟨.inl ⟨hf,hn,?_⟩,fun i hi h1=>?_⟩;unfold vz;rw [List.take_length,hf,<-he,List.drop_one,List.tail_cons,zGB];omega
 have hm:l[i] ∈ Lib.decDigits v.natAbs:=by
  have:l[i] ∈ l.drop 1:=by
   rw [List.mem_iff_getElem];exact ⟨i - 1,by rw [List.length_drop];omega,by rw [List.getElem_drop];congr 1;omega⟩
  have hd:l.drop 1=Lib.decDigits v.natAbs:=by rw [<-he];rfl
  rw [hd] at this;exact this
 have:=XL _ _ hm;exact ⟨this.1,this.2,a i hi⟩;rw [if_neg hn] at he
 have hf:kY l=0:=by
  unfold kY;rw [if_neg];cases hl:l with
  | nil=>simp
  | cons c r=>
   have:=XL v.toNat c (by rw [he,hl];simp);simp;omega
 refine ⟨.inr ⟨hf,om,?_⟩,fun i hi h1=>?_⟩;unfold vz;rw [List.take_length,hf,List.drop_zero,<-he,zGB];omega;have hm:l[i] ∈ Lib.decDigits v.toNat:=by rw [he];exact List.getElem_mem hi
 have:=XL _ _ hm;exact ⟨this.1,this.2,a i hi⟩
end
end Go.Proofs.YtlenfgdjdianiaaGreatDoor
