/-
  Contracts and plain facts on which the theorem of this claim rests, text 45.
-/
import Derived.Laws.RangeAny
import Derived.Lib.AppendStr
import Derived.Lib.OthersKept
import Derived.Test.YtanccoopbgamdaaGreatDoorDC1
import Derived.Test.YtanccoopbgamdaaGreatDoorDC2
import Derived.Test.YtanccoopbgamdaaGreatDoorDC7
import Derived.Test.YtanccoopbgamdaaGreatDoorDC21
import Derived.Test.YtanccoopbgamdaaGreatDoorDC44
namespace Go.Proofs.YtanccoopbgamdaaGreatDoor
open Go.RowKit
set_option linter.unusedVariables false
set_option linter.unusedSimpArgs false
def RowS (w:World) (B:Nat) (ad:Option Addr) (n cap:Nat) (L:List ByteArray):Prop:=w.ownsRow B 9 1 (.slice ad n cap) n (L.map Value.string)
theorem RowS.none (w:World) (B:Nat):RowS w B none 0 0 []:=⟨by simp, .inl ⟨rfl,rfl⟩⟩
theorem RowS.len {w:World} {B n cap:Nat} {ad:Option Addr} {L:List ByteArray} (h:RowS w B ad n cap L):L.length=n:=by
 have:=h.1
 simpa using this
theorem RowS.block {w:World} {B n cap:Nat} {ad:Option Addr} {L:List ByteArray} (h:RowS w B ad n cap L): ∀b,blockOf ad=some b→B≤b∧b<w.heap.size:=by
 intro b hb
 rcases h.2 with ⟨h1,_⟩ | ⟨g,c,cur,h1,hB,hg,_⟩
 · obtain ⟨rfl,_⟩:ad=Option.none∧_:=by simpa using h1
   cases hb
 · obtain ⟨rfl,_⟩:ad=some ⟨g,0,Option.none⟩∧_:=by simpa using h1
   cases hb
   refine ⟨hB,?_⟩
   rcases Nat.lt_or_ge g w.heap.size with h | h
   · exact h
   · rw [Array.getElem?_eq_none (by omega)] at hg;cases hg
theorem RowS.keep {w w':World} {B n cap:Nat} {ad:Option Addr} {L:List ByteArray} (h:RowS w B ad n cap L) (hk: ∀b,blockOf ad=some b→w'.heap[b]? =w.heap[b]?):RowS w' B ad n cap L:=by
 obtain ⟨hl,h⟩:=h
 refine ⟨hl,?_⟩
 rcases h with h | ⟨g,c,cur,h1,hB,hg,h2⟩
 · exact .inl h
 · obtain ⟨rfl,_⟩:ad=some ⟨g,0,Option.none⟩∧_:=by simpa using h1
   exact .inr ⟨g,c,cur,h1,hB,(hk g rfl).trans hg,h2⟩
theorem RowS.below {w w':World} {B n cap:Nat} {ad:Option Addr} {L:List ByteArray} (h:RowS w B ad n cap L) (hb:Below w.heap.size w w'):RowS w' B ad n cap L:=
 h.keep (fun b hbb=>hb.block b (h.block b hbb).2)
theorem RowS.alloc {w:World} {B n cap:Nat} {ad:Option Addr} {L:List ByteArray} (h:RowS w B ad n cap L) (o:Obj):RowS (w.alloc o) B ad n cap L:=h.below (Joins.below_alloc1 w o)
theorem RowS.rd {w:World} {B n cap:Nat} {ad:Option Addr} {L:List ByteArray} (h:RowS w B ad n cap L):RdS w ad L:=by
 intro k hk
 have hl:=h.len
 have hbk:=h.block
 rcases h.2 with ⟨_,h0⟩ | ⟨g,c,cur,h1,hB,hg,_⟩
 · omega
 · obtain ⟨rfl,rfl⟩:ad=some ⟨g,0,Option.none⟩∧cap=c:=by simpa using h1
   refine ⟨g,0,rfl,(hbk g rfl).2,?_⟩
   have:=World.ownsRow.cellAt (show w.ownsRow B 9 1 (.slice (some ⟨g,0,Option.none⟩) n cap) n (L.map Value.string) from h) k (by omega)
   rw [Nat.zero_add,this,List.getElem?_map,List.getElem?_eq_getElem hk]
   rfl
theorem wp_appendStr (w:World) {ops:Array Oper} {rest:List Oper} {o:Oper} {a:Act} {Q:Exit→Act→World→Prop}
   (hgd:o.guard=none) (s x:Operand) (hop:o.op= .call {callee:= .builtin .append,args:=#[s,x],argTypes:=#[61,61]})
   (B n cap:Nat) (ad:Option Addr) (L:List ByteArray) (hs:a.eval s= .slice ad n cap) (ho:RowS w B ad n cap L) (g:Nat) (v:ByteArray) (hx:a.eval x= .slice (some ⟨g,0,none⟩) 1 1)
   (hc:w.cell? ⟨g,0,none⟩=some (.string v)) (hn:n≤1048576) (hB:B≤w.heap.size)
   (hK: ∀ad' cap' w',RowS w' B ad' (n+1) cap' (L++ [v])→w.grownBy w' (blockOf ad)→wpList Tryz.prog ops Q rest (a.put o.dst (.slice ad' (n+1) cap')) w'):
   wpList Tryz.prog ops Q (o::rest) a w:=by
 obtain ⟨i,hi,hz0,hz1,hz2⟩:=info_parts infoStr
 refine wpList_append_own w hgd s x 61 hop B 9 i (.string ByteArray.empty) 1 16 Tryz.underlying61 hi hz0 hz1 hz2 (by simp [Value.cells]) (by omega) _ n (L.map Value.string) hs ho ⟨g,0,none⟩ 1 1 [Value.string v] hx (by simp) ?_ ?_ (by unfold maxLen;omega) (by omega) hB ?_
 · intro j u hj
   match j,hj with
   | 0,hj=>
     simp at hj
     subst hj
     rw [show (Addr.mk g 0 none).add 0=⟨g,0,none⟩ by rw [Addr.add_lit],hc]
   | j+1,hj=>simp at hj
 · intro u hu
   obtain rfl:=List.mem_singleton.1 hu
   rfl
 · intro v' w' h2 h3 h4
   have hne:v'≠ .slice none 0 0:=by
     rintro rfl
     rcases h2.2 with ⟨_,h0⟩ | ⟨g,c,cur,h1,_⟩
     · omega
     · cases h1
   obtain ⟨ad',cap',rfl⟩: ∃ad' cap',v'= .slice ad' (n+1) cap':=by
     rcases h2.2 with ⟨_,h0⟩ | ⟨g,c,cur,h1,_⟩
     · omega
     · exact ⟨_,_,h1⟩
   rw [blockOf_ownT] at h3
   exact hK ad' cap' w' (by unfold RowS;simpa using h2) h3
theorem decode_cont (s:ByteArray) (pos:Nat): ∀k,1≤k→k<(Utf8.decode s pos).2→pos+k<s.size∧(s.get! (pos+k)).toNat/64=2:=by
 intro k h1 h2
 simp only [Utf8.decode] at h2
 repeat' (split at h2)
 all_goals (try (exfalso;simp at h2;omega))
 all_goals (
   rename_i hc _
   simp only [Bool.and_eq_true,decide_eq_true_eq,beq_iff_eq] at hc
   dsimp only at h2
   have hk:k=1∨k=2∨k=3:=by omega
   rcases hk with e | e | e)
 all_goals (subst e;first | (exfalso;omega;done) | (constructor <;>omega))
theorem letter_10 (s:ByteArray) (pos:Nat) (h:pos<s.size):((Utf8.decode s pos).1=10↔(s[pos]'h).toNat=10)∧1≤(Utf8.decode s pos).2∧((Utf8.decode s pos).1=10→(Utf8.decode s pos).2=1):=by
 by_cases ha:(s[pos]'h).toNat<128
 · rw [decode_ascii s pos h ha]
   exact ⟨Iff.rfl,Nat.le_refl _,fun _=>rfl⟩
 · obtain ⟨a,b⟩:=decode_high s pos h (by omega)
   refine ⟨⟨fun e=>by omega,fun e=>by omega⟩,b,fun e=>by omega⟩
theorem letter_end (s:ByteArray) (pos:Nat) (h:pos<s.size):pos+(Utf8.decode s pos).2≤s.size:=by
 have h1:=(letter_10 s pos h).2.1
 by_cases e:(Utf8.decode s pos).2=1
 · omega
 · have:=(decode_cont s pos ((Utf8.decode s pos).2 - 1) (by omega) (by omega)).1
   omega
def linesTo (s:ByteArray):Nat→List ByteArray × Nat
 | 0=>([],0)
 | k+1=>if (s.get! k).toNat=10 then ((linesTo s k).1++ [s.extract (linesTo s k).2 k],k+1) else linesTo s k
def linesF (s:ByteArray):List ByteArray:=
 if 40<(linesTo s s.size).1.length then (linesTo s s.size).1.take 41 else if (linesTo s s.size).2<s.size then (linesTo s s.size).1++ [s.extract (linesTo s s.size).2 s.size] else (linesTo s s.size).1
theorem linesTo_succ (s:ByteArray) (k:Nat):linesTo s (k+1)=if (s.get! k).toNat=10 then ((linesTo s k).1++ [s.extract (linesTo s k).2 k],k+1) else linesTo s k:=rfl
theorem linesTo_start (s:ByteArray): ∀k,(linesTo s k).2≤k
 | 0=>Nat.le_refl _
 | k+1=>by
   unfold linesTo
   split
   · exact Nat.le_refl _
   · exact Nat.le_succ_of_le (linesTo_start s k)
theorem linesTo_size (s:ByteArray): ∀k l,l ∈ (linesTo s k).1→l.size≤s.size
 | 0,l,h=>by simp [linesTo] at h
 | k +1,l,h=>by
   unfold linesTo at h
   split at h
   · rcases List.mem_append.1 h with h | h
     · exact linesTo_size s k l h
     · rw [List.mem_singleton.1 h,ByteArray.size_extract];omega
   · exact linesTo_size s k l h
theorem linesTo_pre (s:ByteArray) (k:Nat): ∀m,∃T,(linesTo s (k+m)).1=(linesTo s k).1++T
 | 0=>⟨[],by simp⟩
 | m+1=>by
   obtain ⟨T,h⟩:=linesTo_pre s k m
   rw [show k+(m+1)=(k+m)+1 by omega,linesTo_succ]
   split
   · exact ⟨T++ [s.extract (linesTo s (k+m)).2 (k+m)],by dsimp only;rw [h,List.append_assoc]⟩
   · exact ⟨T,h⟩
theorem linesTo_skip (s:ByteArray) (p:Nat): ∀w,(∀k,k<w→(s.get! (p+k)).toNat≠10)→linesTo s (p+w)=linesTo s p
 | 0,_=>rfl
 | w+1,h=>by
   have ih:=linesTo_skip s p w (fun k hk=>h k (by omega))
   rw [show p+(w+1)=(p+w)+1 by omega,linesTo_succ,if_neg (h w (by omega)),ih]
theorem linesTo_end (s:ByteArray) (p:Nat) (h:p<s.size) (hr:(Utf8.decode s p).1=10):(Utf8.decode s p).2=1∧linesTo s (p+1)=((linesTo s p).1++ [s.extract (linesTo s p).2 p],p+1):=by
 obtain ⟨h1,h2,h3⟩:=letter_10 s p h
 refine ⟨h3 hr,?_⟩
 have e:=h1.1 hr
 rw [←get_at s p h,Nat.add_zero] at e
 rw [linesTo_succ,if_pos e]
theorem linesTo_on (s:ByteArray) (p:Nat) (h:p<s.size) (hr:(Utf8.decode s p).1≠10):linesTo s (p+(Utf8.decode s p).2)=linesTo s p:=by
 obtain ⟨h1,h2,h3⟩:=letter_10 s p h
 refine linesTo_skip s p _ (fun k hk=>?_)
 by_cases hk0:k=0
 · subst hk0
   rw [get_at s p h]
   exact fun e=>hr (h1.2 e)
 · have:=(decode_cont s p k (by omega) hk).2
   omega
theorem linesF_many (s:ByteArray) (p:Nat) (hp:p≤s.size) (h:(linesTo s p).1.length=41):linesF s=(linesTo s p).1:=by
 obtain ⟨T,e⟩:=linesTo_pre s p (s.size - p)
 rw [show p+(s.size - p)=s.size by omega] at e
 unfold linesF
 rw [if_pos (by rw [e,List.length_append];omega),e,←h,List.take_left]
theorem RowS.mono {w:World} {B B' n cap:Nat} {ad:Option Addr} {L:List ByteArray} (h:RowS w B ad n cap L) (hB:B'≤B):RowS w B' ad n cap L:=by
 obtain ⟨hl,h⟩:=h
 refine ⟨hl,?_⟩
 rcases h with h | ⟨g,c,cur,h1,h2,h3⟩
 · exact .inl h
 · exact .inr ⟨g,c,cur,h1,Nat.le_trans hB h2,h3⟩
set_option maxRecDepth 100000 in
set_option maxHeartbeats 1600000 in
theorem impl_linesOf (s:ByteArray) (w:World) (hz:s.size≤1048576):
   Calls Tryz.prog 31 #[.string s] w fun e w'=> ∃ad n c,e= .returned (.slice ad n c)∧RowS w' w.heap.size ad n c (linesF s)∧Below w.heap.size w w':=by
 go_enter Tryz.func31,Tryz.ntmps31
 go_wp2_with fail
 go_loopw [3,4] (fun l t wr=> ∃(p n c:Nat) (ad:Option Addr),p≤s.size∧wr.heap[w.heap.size]? =some (.stringIter s p)∧l= .slice ad n c∧t= .int .i64 ((linesTo s p).2:Nat)∧RowS wr (w.heap.size+1) ad n c (linesTo s p).1∧n≤40∧Below w.heap.size w wr) (fun _ _ wr=>s.size - wr.iterPos w.heap.size)
 case atStart=>exact ⟨0,0,0,none,Nat.zero_le _,World.iter_heap w s 0,rfl,rfl,RowS.none _ _,by omega,bAlloc (Below.refl _ _) _⟩
 case round=>
   obtain ⟨p,n,c,ad,hp,hit,rfl,rfl,hrow,hn,hb⟩:=hrel
   have HI:=Lib.hid hit
   have HR:=Lib.hid hrow
   have HB:=Lib.hid hb
   have HPOS:Hid (wr.iterPos w.heap.size=p):=Lib.hid (by unfold World.iterPos;rw [hit])
   clear hit hrow hb
   have hst:=linesTo_start s p
   by_cases hlt:p<s.size
   · have hnx:=fun ty=>Lib.run_next_any_at (P:=Tryz.prog) wr w.heap.size s p ty HI.out hlt
     have hwe:=letter_end s p hlt
     have hwl:=(letter_10 s p hlt).2.1
     obtain ⟨wi,hwi⟩: ∃x,x=wr.iterAt w.heap.size s (p+(Utf8.decode s p).2):=⟨_,rfl⟩
     have HI2:Hid (wi.heap[w.heap.size]? =some (.stringIter s (p+(Utf8.decode s p).2))):=Lib.hid (by rw [hwi];exact Lib.iterAt_heap wr _ s p _ HI.out)
     have HR2:Hid (RowS wi (w.heap.size+1) ad n c (linesTo s p).1):=Lib.hid (by rw [hwi];exact HR.out.keep (fun b hbb=>Lib.iterAt_other wr _ b s _ (by have:=HR.out.block b hbb;omega)))
     have HB2:Hid (Below w.heap.size w wi):=Lib.hid (by rw [hwi];exact Lib.below_iterAt HB.out (Nat.le_refl _) s _)
     have HSZ:Hid (w.heap.size+1≤wi.heap.size):=Lib.hid (by
       have:=(Array.getElem?_eq_some_iff.1 HI2.out).1
       omega)
     rw [←hwi] at hnx
     by_cases hr:(Utf8.decode s p).1=10
     · obtain ⟨he1,he2⟩:=linesTo_end s p hlt hr
       have HE:=Lib.hid he2
       rw [he1] at HI2 hwe hwi
       rw [hr] at hnx
       obtain ⟨st,hstd⟩: ∃st,(linesTo s p).2=st:=⟨_,rfl⟩
       rw [hstd] at hst HE⊢
       clear he1 he2 hr hwl hwi
       by_cases h40:n=40
       · subst h40
         go_wp2_with (at_builtin;refine wp_appendStr _ rfl (.tmp 15) (.tmp 20) rfl (w.heap.size+1) 40 c ad (linesTo s p).1 rfl (HR2.out.alloc _) wi.heap.size (s.extract st p) rfl (by go_simp) (by omega) (by have:=HSZ.out;simp;omega) ?_;intro ad2 cap2 w5 ho5 hg5)
         have hlen:=HR2.out.len
         have e1:linesF s=(linesTo s p).1++ [s.extract st p]:=by rw [linesF_many s (p+1) hwe (by rw [HE.out];simp [hlen]),HE.out]
         go_ret
         exact ⟨ad2,41,cap2,rfl,by rw [e1];exact ho5.mono (by omega),((HB2.out.alloc HB2.out.size _).grown hg5 (by have:=HB2.out.size;simp;omega) (fun b hb=>by have:=HR2.out.block b hb;omega))⟩
       · have h41:n<40:=by omega
         go_wp2_with (at_builtin;refine wp_appendStr _ rfl (.tmp 15) (.tmp 20) rfl (w.heap.size+1) n c ad (linesTo s p).1 rfl (HR2.out.alloc _) wi.heap.size (s.extract st p) rfl (by go_simp) (by omega) (by have:=HSZ.out;simp;omega) ?_;intro ad2 cap2 w5 ho5 hg5)
         have hit5:w5.heap[w.heap.size]? =some (.stringIter s (p+1)):=by
           have hs:=HSZ.out
           rw [hg5.block w.heap.size (by simp;omega) (fun e=>by have:=HR2.out.block w.heap.size e.symm;omega),Below.heap_alloc wi _ w.heap.size (by omega)]
           exact HI2.out
         refine ⟨⟨p+1,n+1,cap2,ad2,hwe,hit5,rfl,by rw [HE.out];go_num,by rw [HE.out];exact ho5,by omega,((HB2.out.alloc HB2.out.size _).grown hg5 (by have:=HB2.out.size;simp;omega) (fun b hb=>by have:=HR2.out.block b hb;omega))⟩,?_⟩
         have e1:w5.iterPos w.heap.size=p+1:=by unfold World.iterPos;rw [hit5]
         rw [HPOS.out,e1]
         omega
     · have hr2: ¬((Utf8.decode s p).1:Int)=10:=by omega
       clear hwi
       go_wp2_with fail
       go_roundw
       case rel=>exact ⟨p+(Utf8.decode s p).2,n,c,ad,by omega,HI2.out,rfl,by rw [linesTo_on s p hlt hr],by rw [linesTo_on s p hlt hr];exact HR2.out,hn,HB2.out⟩
       case measure=>
         have e1:wi.iterPos w.heap.size=p+(Utf8.decode s p).2:=by unfold World.iterPos;rw [HI2.out]
         rw [HPOS.out,e1]
         omega
   · have hnx:=fun ty=>Lib.run_next_end_at (P:=Tryz.prog) wr w.heap.size s p ty HI.out hlt
     obtain rfl:p=s.size:=by omega
     have hll:=HR.out.len
     have hrs:=HB.out.size
     have hwr:w.heap.size<wr.heap.size:=(Array.getElem?_eq_some_iff.1 HI.out).1
     by_cases hls:(linesTo s s.size).2<s.size
     · have E:linesF s=(linesTo s s.size).1++ [s.extract (linesTo s s.size).2 s.size]:=by
         unfold linesF
         rw [if_neg (by omega),if_pos hls]
       have HE:=Lib.hid E
       have HLL:=Lib.hid hll
       clear E hll
       obtain ⟨st,hstd⟩: ∃st,(linesTo s s.size).2=st:=⟨_,rfl⟩
       rw [hstd] at hst HE hls⊢
       clear hstd
       go_wp2_with (at_builtin;refine wp_appendStr _ rfl (.tmp 32) (.tmp 36) rfl (w.heap.size+1) n c ad (linesTo s s.size).1 rfl (HR.out.alloc _) wr.heap.size (s.extract st s.size) rfl (by go_simp) (by omega) (by simp;omega) ?_;intro ad2 cap2 w5 ho5 hg5)
       go_ret
       exact ⟨ad2,n+1,cap2,rfl,by rw [HE.out];exact ho5.mono (by omega),((HB.out.alloc HB.out.size _).grown hg5 (by have:=HB.out.size;simp;omega) (fun b hb=>by have:=HR.out.block b hb;omega))⟩
     · have E:linesF s=(linesTo s s.size).1:=by
         unfold linesF
         rw [if_neg (by omega),if_neg hls]
       have HE:=Lib.hid E
       clear E hll
       go_wp2_with fail
       go_ret
       exact ⟨ad,n,c,rfl,by rw [HE.out];exact HR.out.mono (by omega),HB.out⟩
def RowU (w:World) (B:Nat) (v:Value) (l:List UInt8):Prop:=OwnsU w B v l.length (intsOf l)
theorem RowU.below {w w':World} {B:Nat} {v:Value} {l:List UInt8} (h:RowU w B v l) (hb:Below w.heap.size w w'):RowU w' B v l:=ownsU_below h hb
theorem cells_ints (l:List UInt8):(intsOf l).map (Value.int .u8)=l.map (fun b=>Value.int .u8 b.toNat):=by
 unfold intsOf;rw [List.map_map];rfl
theorem wp_appU (w:World) {ops:Array Oper} {rest:List Oper} {o:Oper} {a:Act} {Q:Exit→Act→World→Prop}
   (hgd:o.guard=none) (sl x:Operand) (hop:o.op= .call {callee:= .builtin .append,args:=#[sl,x],argTypes:=#[22,9]})
   (B:Nat) (v:Value) (l:List UInt8) (hs:a.eval sl=v) (ho:RowU w B v l) (s:ByteArray) (hx:a.eval x= .string s) (h63:l.length+s.size≤1073741824) (hB:B≤w.heap.size)
   (hK: ∀v' w',RowU w' B v' (l++s.data.toList)→w.grownBy w' v.ownBlock→wpList Tryz.prog ops Q rest (a.put o.dst v') w'):
   wpList Tryz.prog ops Q (o::rest) a w:=by
 obtain ⟨i,hi,hz0,hz1,hz2⟩:=info_parts infoU8
 refine Lib.wpList_append_own_string w hgd sl x 22 9 hop B 5 i Tryz.underlying22 Tryz.underlying9 hi hz0 hz1 hz2 v l.length ((intsOf l).map (Value.int .u8)) hs ho s hx (by unfold maxLen;omega) (by omega) hB ?_
 intro v' w' h2 h3 _
 refine hK v' w' ?_ h3
 unfold RowU OwnsU
 rw [cells_ints,List.map_append,←cells_ints l,List.length_append]
 exact h2
theorem wp_appU1 (w:World) {ops:Array Oper} {rest:List Oper} {o:Oper} {a:Act} {Q:Exit→Act→World→Prop}
   (hgd:o.guard=none) (sl x:Operand) (hop:o.op= .call {callee:= .builtin .append,args:=#[sl,x],argTypes:=#[22,22]})
   (B:Nat) (v:Value) (l:List UInt8) (hs:a.eval sl=v) (ho:RowU w B v l) (g:Nat) (hx:a.eval x= .slice (some ⟨g,0,none⟩) 1 1) (hc:w.cell? ⟨g,0,none⟩=some (.int .u8 10)) (h63:l.length≤1073741824) (hB:B≤w.heap.size)
   (hK: ∀v' w',RowU w' B v' (l++ [10])→w.grownBy w' v.ownBlock→wpList Tryz.prog ops Q rest (a.put o.dst v') w'):
   wpList Tryz.prog ops Q (o::rest) a w:=by
 obtain ⟨i,hi,hz0,hz1,hz2⟩:=info_parts infoU8
 refine wpList_append_own w hgd sl x 22 hop B 5 i (.int .u8 0) 1 1 Tryz.underlying22 hi hz0 hz1 hz2 (by simp [Value.cells]) (by omega) v l.length ((intsOf l).map (Value.int .u8)) hs ho ⟨g,0,none⟩ 1 1 [Value.int .u8 10] hx (by simp) ?_ ?_ (by unfold maxLen;omega) (by omega) hB ?_
 · intro j u hj
   match j,hj with
   | 0,hj=>
     simp at hj
     subst hj
     rw [show (Addr.mk g 0 none).add 0=⟨g,0,none⟩ by rw [Addr.add_lit],hc]
   | j+1,hj=>simp at hj
 · intro u hu
   obtain rfl:=List.mem_singleton.1 hu
   rfl
 · intro v' w' h2 h3 _
   refine hK v' w' ?_ h3
   unfold RowU OwnsU
   rw [cells_ints,List.map_append,←cells_ints l,List.length_append]
   exact h2
noncomputable def scriptTo (L:List ByteArray):Nat→Dat × List UInt8
 | 0=>(newDat,[])
 | k+1=>((runF (scriptTo L k).1 (L.getD k ByteArray.empty)).1,(scriptTo L k).2++(if (runF (scriptTo L k).1 (L.getD k ByteArray.empty)).2=[] then [] else (runF (scriptTo L k).1 (L.getD k ByteArray.empty)).2++ [10]))
noncomputable def scriptF (s:ByteArray):List UInt8 × Int:=if 40<(linesF s).length then ([],-1) else ((scriptTo (linesF s) (linesF s).length).2,((linesF s).length:Int))
theorem new_ok:deskOk newDat=true:=by decide
theorem script_ok (L:List ByteArray): ∀k,deskOk (scriptTo L k).1=true
 | 0=>new_ok
 | k+1=>runF_kept _ (script_ok L k)
theorem script_len (L:List ByteArray): ∀k,(scriptTo L k).2.length≤k*4194305
 | 0=>Nat.zero_le _
 | k+1=>by
   have ih:=script_len L k
   have h:=runF_len (L.getD k ByteArray.empty) (script_ok L k)
   have e:(k+1)*4194305=k*4194305+4194305:=Nat.succ_mul _ _
   rw [e]
   generalize k*4194305=m at ih
   unfold scriptTo
   dsimp only
   rw [List.length_append]
   split
   · rw [List.length_nil];omega
   · rw [List.length_append,List.length_singleton];omega
theorem no_text (w:World):Sem.run Tryz.prog (convert 22 9 (.slice none 0 0)) w= .ok (.string ⟨#[]⟩) w:=by kernel_rfl
theorem text_u {w:World} {B:Nat} {v:Value} {l:List UInt8} (h:RowU w B v l) (h0:l=[]→v= .slice none 0 0):Sem.run Tryz.prog (convert 22 9 v) w= .ok (.string ⟨l.toArray⟩) w:=by
 by_cases hl:l=[]
 · rw [h0 hl,hl];exact no_text w
 · refine text_back (B:=B) (m:=l.length) ?_ (by cases l with | nil=>exact absurd rfl hl | cons a b=>simp) rfl
   rw [List.take_length];exact h
theorem RowU.keep {w w':World} {B:Nat} {v:Value} {l:List UInt8} (h:RowU w B v l) (hk: ∀b,B≤b→b<w.heap.size→w'.heap[b]? =w.heap[b]?):RowU w' B v l:=by
 obtain ⟨hl,h⟩:=h
 refine ⟨hl,?_⟩
 rcases h with h | ⟨g,c,cur,h1,hB,hg,h2⟩
 · exact .inl h
 · exact .inr ⟨g,c,cur,h1,hB,(hk g hB (Array.getElem?_eq_some_iff.1 hg).1).trans hg,h2⟩
theorem ownU_type {w:World} {B n:Nat} {v:Value} {xs:List Int} (h:OwnsU w B v n xs): ∀b,v.ownBlock=some b→ ∃cur,w.heap[b]? =some (.cells cur 5 (0,0)):=by
 obtain ⟨hl,h⟩:=h
 intro b hb
 rcases h with ⟨rfl,rfl⟩ | ⟨g,cap,cur,rfl,hB,hg,r⟩
 · simp [Value.ownBlock] at hb
 · simp only [Value.ownBlock,Option.some.injEq] at hb
   subst hb
   exact ⟨cur,hg⟩
theorem ownA_type {w:World} {B n cap:Nat} {ad:Option Addr} {xs:List Int} (h:OwnA w B ad n cap xs): ∀b,blockOf ad=some b→ ∃cur,w.heap[b]? =some (.cells cur 3 (0,0)):=by
 intro b hb
 rcases h with ⟨rfl,_⟩ | ⟨g,rfl,_,_,cur,hg,_⟩
 · cases hb
 · cases hb;exact ⟨cur,hg⟩
theorem OwnD.apartU {w:World} {B B2 n:Nat} {D:Dsk} {v:Value} {xs:List Int} (h:OwnD w B D) (hu:OwnsU w B2 v n xs): ∀b,v.ownBlock=some b→D.blocks b→False:=by
 intro b hb hd
 obtain ⟨c0,h0⟩:=ownU_type hu b hb
 have q: ∀cur T,w.heap[b]? =some (.cells cur T (0,0))→T=5:=by
   intro cur T e
   rw [h0] at e
   injection e with e
   injection e with e1 e2
   exact e2.symm
 rcases hd with hd | hd | hd | ⟨k,hk,hd⟩
 · obtain ⟨c,e⟩:=ownA_type h.p b hd
   exact absurd (q _ _ e) (by decide)
 · obtain ⟨c,e⟩:=ownA_type h.m b hd
   exact absurd (q _ _ e) (by decide)
 · rcases h.s.row with ⟨e0,_⟩ | ⟨g,e0,_,cur,e,_⟩
   · rw [e0] at hd;cases hd
   · rw [e0] at hd
     cases hd
     exact absurd (q _ _ e) (by decide)
 · obtain ⟨c,e⟩:=ownA_type (h.s.ink k (by rw [←h.s.len];exact hk)) b hd
   exact absurd (q _ _ e) (by decide)
theorem linesF_size (s l:ByteArray) (h:l ∈ linesF s):l.size≤s.size:=by
 unfold linesF at h
 split at h
 · exact linesTo_size s _ l (List.mem_of_mem_take h)
 · split at h
   · rcases List.mem_append.1 h with h | h
     · exact linesTo_size s _ l h
     · rw [List.mem_singleton.1 h,ByteArray.size_extract];omega
   · exact linesTo_size s _ l h
set_option maxRecDepth 100000 in
set_option maxHeartbeats 3200000 in
theorem impl_RunScript (s:ByteArray) (w:World) (hz:s.size≤1048576) (hL:LaidW w):
   Calls Tryz.prog 12 #[.string s] w fun e w'=>e= .returned (.tuple #[.string ⟨(scriptF s).1.toArray⟩, .int .i64 (scriptF s).2])∧Below w.heap.size w w':=by
 have HLW:=Lib.hid hL
 clear hL
 go_enter Tryz.func12,Tryz.ntmps12
 go_wp2_with fail
 refine (impl_linesOf s w hz).mono ?_
 rintro e w1 ⟨ad,n,c,rfl,hr,hb⟩
 have HR1:=Lib.hid hr
 have HB1:=Lib.hid hb
 have HN:=Lib.hid hr.len
 clear hr hb
 by_cases h40:40<n
 · have E:scriptF s=([],-1):=by unfold scriptF;rw [if_pos (by rw [HN.out];exact h40)]
   go_wp2_with fail
   go_ret2
   rw [E]
   exact ⟨rfl,HB1.out⟩
 have ES:Hid (scriptF s=((scriptTo (linesF s) n).2,(n:Int))):=Lib.hid (by unfold scriptF;rw [HN.out,if_neg h40])
 have hn40:n≤40:=by omega
 clear h40
 go_wp2_with fail
 refine (impl_NewDesk _).mono ?_
 rintro e w2 ⟨E0,rfl,ho,hd,hsm,hb⟩
 have HO2:=Lib.hid ho
 have HD2:=Lib.hid hd
 have HS2:=Lib.hid hsm
 have HB2:=Lib.hid (bTrans HB1.out hb)
 have HR2:=Lib.hid (HR1.out.below hb)
 have HRB:=Lib.hid HR1.out.block
 have HZ2:=Lib.hid hb.size
 clear ho hd hsm hb HR1 HB1
 unfold Dsk.val
 go_wp2_with fail
 have KG:=Blk.new w2 43 #[.int .i64 E0.P.W, .int .i64 E0.P.H, .slice E0.P.a E0.P.n E0.P.c, .int .i64 E0.M.W, .int .i64 E0.M.H, .slice E0.M.a E0.M.n E0.M.c, .slice E0.a E0.n E0.c]
 go_loopw [7,18] (fun v i wr=> ∃(k:Nat) (E:Dsk),k≤n∧i= .int .i64 k∧RowU wr (w2.heap.size+1) v (scriptTo (linesF s) k).2∧((scriptTo (linesF s) k).2=[]→v= .slice none 0 0)∧Blk wr w2.heap.size 43 #[.int .i64 E.P.W, .int .i64 E.P.H, .slice E.P.a E.P.n E.P.c, .int .i64 E.M.W, .int .i64 E.M.H, .slice E.M.a E.M.n E.M.c, .slice E.a E.n E.c]∧RdD wr E∧E.dat=(scriptTo (linesF s) k).1∧SmallD E∧RowS wr w.heap.size ad n c (linesF s)∧Below w.heap.size w wr) (fun _ i _=>n - (intOf i).toNat)
 case atStart=>exact ⟨0,E0,Nat.zero_le _,rfl,ownsU_nil _ _,fun _=>rfl,KG,HO2.out.rd.alloc _,HD2.out,HS2.out,HR2.out.alloc _,bAlloc HB2.out _⟩
 case round=>
   clear KG
   obtain ⟨k,E,hk,rfl,hu,hv0,kg,hrd,hd,hsm,hrs,hb⟩:=hrel
   have HU:=Lib.hid hu
   have HV:=Lib.hid hv0
   have KG:=Lib.hid kg
   have HRD:=Lib.hid hrd
   have HD:=Lib.hid hd
   have HSM:=Lib.hid hsm
   have HRS:=Lib.hid hrs
   have HB:=Lib.hid hb
   clear hu hv0 kg hrd hd hsm hrs hb
   by_cases hlt:k<n
   · obtain ⟨b,off,hae,hbl,hc⟩:=HRS.out.rd k (by rw [HN.out];exact hlt)
     subst hae
     obtain ⟨ln,hln⟩: ∃t,(linesF s)[k]'(by rw [HN.out];exact hlt)=t:=⟨_,rfl⟩
     rw [hln] at hc
     have hlz:ln.size≤1048576:=Nat.le_trans (linesF_size s ln (by rw [←hln];exact List.getElem_mem _)) hz
     have hlg:(linesF s).getD k ByteArray.empty=ln:=by
       rw [List.getD_eq_getElem?_getD,List.getElem?_eq_getElem (by rw [HN.out];exact hlt),hln];rfl
     have HLG:=Lib.hid hlg
     clear hln hlg
     obtain ⟨l0,c0,c1,c2,c3,c4,c5,c6⟩:=KG.out.c7
     have k0:(0:Int)≤(k:Int):=by omega
     have k1:(k:Int)<(n:Int):=by omega
     have HOK:Hid (deskOk E.dat=true):=Lib.hid (by rw [HD.out];exact script_ok _ _)
     go_wp2_with fail
     refine (impl_RunLineA E ln wr HRD.out HSM.out (addr_of HRD.out HOK.out) hlz (HLW.out.below HB.out)).mono ?_
     rintro e w5 ⟨E5,rfl,ho5,hd5,hs5,hb5⟩
     have hgb:w2.heap.size<wr.heap.size:=KG.out.lt
     have HO5:=Lib.hid ho5
     have HO5B:=Lib.hid ho5.bd
     have HS5:=Lib.hid hs5
     have HU5:=Lib.hid (HU.out.below hb5)
     have HUB:=Lib.hid (OwnsU.own HU.out)
     have KG5:=Lib.hid (KG.out.below' hb5)
     have HRS5:=Lib.hid (HRS.out.below hb5)
     have HB5:=Lib.hid (bTrans HB.out hb5)
     have HZ5:=Lib.hid hb5.size
     obtain ⟨ans,hans⟩: ∃t,(runF E.dat ln).2=t:=⟨_,rfl⟩
     have HAL:Hid (ans.length≤4194304):=Lib.hid (by rw [←hans];exact runF_len ln HOK.out)
     have HSC:Hid (scriptTo (linesF s) (k+1)=(E5.dat,(scriptTo (linesF s) k).2++(if ans=[] then [] else ans++ [10]))):=Lib.hid (by
       conv=>lhs;unfold scriptTo
       rw [HLG.out,←HD.out,hans,hd5])
     rw [hans]
     clear ho5 hd5 hs5 hb5 l0 c0 c1 c2 c3 c4 c5 c6 hans
     obtain ⟨l0,c0,c1,c2,c3,c4,c5,c6⟩:=KG5.out.c7
     obtain ⟨f0,f1,f2,f3,f4,f5,f6⟩:=KG5.out.f7
     obtain ⟨w6,hw6⟩: ∃x,x=((((((w5.setCell ⟨w2.heap.size,0,none⟩ (.int .i64 E5.P.W)).setCell ⟨w2.heap.size,1,none⟩ (.int .i64 E5.P.H)).setCell ⟨w2.heap.size,2,none⟩ (.slice E5.P.a E5.P.n E5.P.c)).setCell ⟨w2.heap.size,3,none⟩ (.int .i64 E5.M.W)).setCell ⟨w2.heap.size,4,none⟩ (.int .i64 E5.M.H)).setCell ⟨w2.heap.size,5,none⟩ (.slice E5.M.a E5.M.n E5.M.c)).setCell ⟨w2.heap.size,6,none⟩ (.slice E5.a E5.n E5.c):=⟨_,rfl⟩
     have KT6:Hid (KeepT (fun i=>i=w2.heap.size) w5 w6):=Lib.hid (by rw [hw6];exact keep_set7 w5 w2.heap.size _ _ _ _ _ _ _)
     have KG6:Hid (Blk w6 w2.heap.size 43 #[.int .i64 E5.P.W, .int .i64 E5.P.H, .slice E5.P.a E5.P.n E5.P.c, .int .i64 E5.M.W, .int .i64 E5.M.H, .slice E5.M.a E5.M.n E5.M.c, .slice E5.a E5.n E5.c]):=Lib.hid (by rw [hw6];exact KG5.out.put7 _ _ _ _ _ _ _)
     have HO6:Hid (OwnD w6 wr.heap.size E5):=Lib.hid (HO5.out.keepZ KT6.out (fun b hb e=>by have:=HO5B.out b e;omega))
     have HU6:Hid (RowU w6 (w2.heap.size+1) (u7) (scriptTo (linesF s) k).2):=Lib.hid (HU5.out.keep (fun b h1 h2=>KT6.out.block b h2 (by omega)))
     have HRS6:Hid (RowS w6 w.heap.size (some ⟨b,off,none⟩) n c (linesF s)):=Lib.hid (HRS5.out.keep (fun b' hb'=>KT6.out.block b' (HRS5.out.block b' hb').2 (by have:=(HRB.out b' hb').2;have:=HZ2.out;omega)))
     have HB6:Hid (Below w.heap.size w w6):=Lib.hid (by rw [hw6];exact below_set7 HB5.out HB2.out.size _ _ _ _ _ _ _)
     unfold Dsk.val
     go_upto_region 10 with fail
     rw [←hw6]
     clear hw6 l0 c0 c1 c2 c3 c4 c5 c6 f0 f1 f2 f3 f4 f5 f6 KG5 HO5
     by_cases hans:ans=[]
     · have HS2:Hid (scriptTo (linesF s) (k+1)=(E5.dat,(scriptTo (linesF s) k).2)):=Lib.hid (by rw [HSC.out,if_pos hans,List.append_nil])
       subst hans
       go_wp2_with fail
       go_roundw
       case rel=>exact ⟨k+1,E5,by omega,by go_num,by rw [HS2.out];exact HU6.out,by rw [HS2.out];exact HV.out,KG6.out,HO6.out.rd,by rw [HS2.out],HS5.out,HRS6.out,HB6.out⟩
       case measure=>simp [intOf];omega
     · have HS2:Hid (scriptTo (linesF s) (k+1)=(E5.dat,(scriptTo (linesF s) k).2++ans++ [10])):=Lib.hid (by rw [HSC.out,if_neg hans,List.append_assoc])
       obtain ⟨a0,ar,har⟩: ∃a0 ar,ans=a0::ar:=by
         cases ans with
         | nil=>exact absurd rfl hans
         | cons x y=>exact ⟨x,y,rfl⟩
       have hem:(⟨ans.toArray⟩:ByteArray).toList.isEmpty=false:=by rw [ByteArray.toList_eq,har];rfl
       have hem2:(⟨ans.toArray⟩:ByteArray).toList≠ []:=by rw [ByteArray.toList_eq,har];simp
       have hln:(scriptTo (linesF s) k).2.length≤40*4194305:=Nat.le_trans (script_len _ k) (Nat.mul_le_mul_right _ (by omega))
       have hem3:ans.isEmpty=false:=by rw [har];rfl
       clear har
       have HLN:=Lib.hid hln
       have HAN:=HAL.out
       have hsz6:w2.heap.size+1≤w6.heap.size:=by have:=KT6.out.size;have:=HZ5.out;omega
       have hszw:w.heap.size≤w2.heap.size:=HB2.out.size
       clear hln
       go_wp2_with (first
         | (at_builtin;refine wp_appU _ rfl (.tmp 30) (.tmp 31) rfl (w2.heap.size+1) u7 (scriptTo (linesF s) k).2 rfl HU6.out ⟨ans.toArray⟩ rfl (by have:=HLN.out;show _+ans.toArray.size≤_;rw [List.size_toArray];omega) hsz6 ?_;intro v7 w7 ho7 hg7;have HO7:=Lib.hid ho7;have HG7:=Lib.hid hg7;clear ho7 hg7)
         | (at_builtin;refine wp_appU1 _ rfl (.tmp 33) (.tmp 34) rfl (w2.heap.size+1) v7 ((scriptTo (linesF s) k).2++ans) rfl (RowU.below HO7.out (Joins.below_alloc1 _ _)) w7.heap.size rfl (by go_simp) (by have:=HLN.out;rw [List.length_append];omega) (by have:=HG7.out.size;simp;omega) ?_;intro v8 w8 ho8 hg8))
       have hz7:=HG7.out.size
       have HD7:Hid (OwnD w7 wr.heap.size E5):=Lib.hid (HO6.out.keepZ (S:=fun i=>u7.ownBlock=some i) (KeepT.ofGrown HG7.out (fun b hb=>hb)) (fun b hb e=>by have:=(HO5B.out b e).1;have:=(HUB.out b hb).2;omega))
       have HV7:=OwnsU.own HO7.out
       have HD8:Hid (OwnD w8 wr.heap.size E5):=Lib.hid ((HD7.out.alloc (.cells #[.int .u8 10] 5)).keepZ (S:=fun i=>v7.ownBlock=some i) (KeepT.ofGrown hg8 (fun b hb=>hb)) (fun b hb e=>HD7.out.apartU HO7.out b hb e))
       have KG8:Hid (Blk w8 w2.heap.size 43 #[.int .i64 E5.P.W, .int .i64 E5.P.H, .slice E5.P.a E5.P.n E5.P.c, .int .i64 E5.M.W, .int .i64 E5.M.H, .slice E5.M.a E5.M.n E5.M.c, .slice E5.a E5.n E5.c]):=Lib.hid (((KG6.out.grown HG7.out (fun e=>by have:=HUB.out _ e.symm;omega)).alloc (.cells #[.int .u8 10] 5)).grown hg8 (fun e=>by have:=HV7 _ e.symm;omega))
       have HR8:Hid (RowS w8 w.heap.size (some ⟨b,off,none⟩) n c (linesF s)):=Lib.hid ((((HRS6.out.keep (fun b' hb'=>HG7.out.block b' (HRS6.out.block b' hb').2 (fun e=>by have:=(HRB.out b' hb').2;have:=HZ2.out;have:=HUB.out _ e.symm;omega))).alloc (.cells #[.int .u8 10] 5))).keep (fun b' hb'=>hg8.block b' (by have:=(HRS6.out.block b' hb').2;simp;omega) (fun e=>by have:=(HRB.out b' hb').2;have:=HZ2.out;have:=HV7 _ e.symm;omega)))
       have HB8:Hid (Below w.heap.size w w8):=Lib.hid (((HB6.out.grown HG7.out (by omega) (fun b hb=>by have:=HUB.out b hb;omega)).alloc (by omega) (.cells #[.int .u8 10] 5)).grown hg8 (by simp;omega) (fun b hb=>by have:=HV7 b hb;omega))
       have HO8:=Lib.hid ho8
       clear ho8 hg8
       go_roundw
       case rel=>exact ⟨k+1,E5,by omega,by go_num,by rw [HS2.out];exact HO8.out,by rw [HS2.out];intro e;simp at e,KG8.out,HD8.out.rd,by rw [HS2.out],HS5.out,HR8.out,HB8.out⟩
       case measure=>simp [intOf];omega
   · obtain rfl:k=n:=by omega
     have ht:=text_u HU.out HV.out
     go_wp2_with fail
     go_ret2
     rw [ES.out]
     exact ⟨rfl,HB.out⟩
end Go.Proofs.YtanccoopbgamdaaGreatDoor
