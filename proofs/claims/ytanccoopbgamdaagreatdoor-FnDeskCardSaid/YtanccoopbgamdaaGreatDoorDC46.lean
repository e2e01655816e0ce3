/-
  Contracts and plain facts on which the theorem of this claim rests, text 46.
-/
import Derived.Test.YtanccoopbgamdaaGreatDoorDC7
import Derived.Test.YtanccoopbgamdaaGreatDoorDC21
import Derived.Test.YtanccoopbgamdaaGreatDoorDC38
import Derived.Test.YtanccoopbgamdaaGreatDoorDC44
import Derived.Test.YtanccoopbgamdaaGreatDoorDC45
namespace Go.Proofs.YtanccoopbgamdaaGreatDoor
open Go.RowKit
set_option linter.unusedVariables false
set_option linter.unusedSimpArgs false
theorem RowU.empty (w:World):RowU (w.alloc (.cells #[] 5)) w.heap.size (.slice (some ⟨w.heap.size,0,Option.none⟩) 0 0) []:=
 ⟨rfl, .inr ⟨w.heap.size,0,#[],rfl,Nat.le_refl _,heap_alloc_new w _,Nat.le_refl _,by unfold maxLen;omega,by simp,by simp [intsOf]⟩⟩
theorem wp_appUb (w:World) {ops:Array Oper} {rest:List Oper} {o:Oper} {a:Act} {Q:Exit→Act→World→Prop}
   (hgd:o.guard=none) (sl x:Operand) (hop:o.op= .call {callee:= .builtin .append,args:=#[sl,x],argTypes:=#[22,22]})
   (B:Nat) (v:Value) (l:List UInt8) (b:UInt8) (hs:a.eval sl=v) (ho:RowU w B v l) (g:Nat) (hx:a.eval x= .slice (some ⟨g,0,none⟩) 1 1) (hc:w.cell? ⟨g,0,none⟩=some (.int .u8 (b.toNat:Int))) (h63:l.length≤1073741824) (hB:B≤w.heap.size)
   (hK: ∀v' w',RowU w' B v' (l++ [b])→w.grownBy w' v.ownBlock→wpList Tryz.prog ops Q rest (a.put o.dst v') w'):
   wpList Tryz.prog ops Q (o::rest) a w:=by
 obtain ⟨i,hi,hz0,hz1,hz2⟩:=info_parts infoU8
 refine wpList_append_own w hgd sl x 22 hop B 5 i (.int .u8 0) 1 1 Tryz.underlying22 hi hz0 hz1 hz2 (by simp [Value.cells]) (by omega) v l.length ((intsOf l).map (Value.int .u8)) hs ho ⟨g,0,none⟩ 1 1 [Value.int .u8 (b.toNat:Int)] hx (by simp) ?_ ?_ (by unfold maxLen;omega) (by omega) hB ?_
 · intro j u hj
   match j,hj with
   | 0,hj=>
     simp at hj
     subst hj
     rw [show (Addr.mk g 0 none).add 0=⟨g,0,none⟩ by rw [Addr.add_lit],hc]
   | j+1,hj=>simp at hj
 · intro u hu
   obtain rfl:=List.mem_singleton.1 hu
   rfl
 · intro v' w' h2 h3 _
   refine hK v' w' ?_ h3
   unfold RowU OwnsU
   rw [cells_ints,List.map_append,←cells_ints l,List.length_append]
   exact h2
theorem digit_byte (d:Nat) (h:d<10):(UInt8.ofNat (48+d)).toNat=48+d:=by
 rw [UInt8.toNat_ofNat'];omega
theorem parse_step (acc:Nat) (c:UInt8) (r:List UInt8):Lib.parseUint10 acc (c::r)=if 48≤c.toNat∧c.toNat≤57 then (if 1844674407370955162≤acc then .range else if 18446744073709551616≤acc*10+(c.toNat - 48) then .range else Lib.parseUint10 (acc*10+(c.toNat - 48)) r) else Lib.parseUint10 0 [0]:=rfl
theorem parse_dec (u:Nat): ∀r:List UInt8,u<18446744073709551616→Lib.parseUint10 0 (Lib.decDigits u++r)=Lib.parseUint10 u r:=by
 induction u using Nat.strongRecOn with
 | _ u ih=>
   intro r hu
   by_cases h:u<10
   · rw [Lib.decDigits,dif_pos h]
     rw [List.cons_append,List.nil_append,parse_step,digit_byte u h,if_pos (by omega),if_neg (by omega),if_neg (by omega)]
     congr 1;omega
   · rw [Lib.decDigits,dif_neg h,List.append_assoc,ih (u/10) (by omega) _ (by omega),List.cons_append,List.nil_append,parse_step,digit_byte (u % 10) (by omega),if_pos (by omega),if_neg (by omega),if_neg (by omega)]
     congr 1;omega
theorem dec_ne (u:Nat):Lib.decDigits u≠ []:=by
 rw [Lib.decDigits];split <;>simp
theorem dec_digit (u:Nat): ∀c,c ∈ Lib.decDigits u→48≤c.toNat∧c.toNat≤57:=by
 induction u using Nat.strongRecOn with
 | _ u ih=>
   intro c hc
   by_cases h:u<10
   · rw [Lib.decDigits,dif_pos h,List.mem_singleton] at hc
     rw [hc,digit_byte u h];omega
   · rw [Lib.decDigits,dif_neg h,List.mem_append,List.mem_singleton] at hc
     rcases hc with hc | rfl
     · exact ih (u/10) (by omega) c hc
     · rw [digit_byte (u % 10) (by omega)];omega
def valD (l:List UInt8):Nat:=l.foldl (fun a c=>a*10+(c.toNat - 48)) 0
theorem valD_snoc (l:List UInt8) (c:UInt8):valD (l++ [c])=valD l*10+(c.toNat - 48):=by
 unfold valD;rw [List.foldl_append];rfl
theorem valD_dec (u:Nat):valD (Lib.decDigits u)=u:=by
 induction u using Nat.strongRecOn with
 | _ u ih=>
   by_cases h:u<10
   · rw [Lib.decDigits,dif_pos h]
     show 0*10+((UInt8.ofNat (48+u)).toNat - 48)=u
     rw [digit_byte u h];omega
   · rw [Lib.decDigits,dif_neg h,valD_snoc,ih (u/10) (by omega),digit_byte (u % 10) (by omega)];omega
theorem fold_le: ∀(l:List UInt8) (x:Nat),x≤l.foldl (fun a c=>a*10+(c.toNat - 48)) x
 | [],x=>Nat.le_refl _
 | c::r,x=>by
   have:=fold_le r (x*10+(c.toNat - 48))
   rw [List.foldl_cons]
   omega
theorem valD_le (a b:List UInt8):valD a≤valD (a++b):=by
 unfold valD
 rw [List.foldl_append]
 exact fold_le b _
theorem valD_take (l:List UInt8) (k:Nat):valD (l.take k)≤valD l:=by
 have:=valD_le (l.take k) (l.drop k)
 rwa [List.take_append_drop] at this
theorem atoi_itoa {v:Int} (h:InI64 v):Lib.atoiAll (Lib.itoa v)= .ok v:=by
 unfold InI64 at h
 have hd: ∀u,u<18446744073709551616→Lib.parseMag (Lib.decDigits u)= .ok u:=by
   intro u hu
   unfold Lib.parseMag
   rw [if_neg (dec_ne u)]
   have:=parse_dec u [] hu
   rw [List.append_nil] at this
   rw [this];rfl
 unfold Lib.itoa
 by_cases hn:v<0
 · rw [if_pos hn]
   unfold Lib.atoiAll
   dsimp only
   rw [if_pos (.inr rfl),hd _ (by omega)]
   dsimp only
   rw [if_neg (fun e=>e.1 rfl),if_neg (by omega),if_pos (show (45:UInt8).toNat=45 from rfl)]
   congr 1;omega
 · rw [if_neg hn]
   cases he:Lib.decDigits v.toNat with
   | nil=>exact absurd he (dec_ne _)
   | cons c r=>
     have hc:=dec_digit v.toNat c (by rw [he];simp)
     unfold Lib.atoiAll
     dsimp only
     rw [if_neg (by omega),←he,hd _ (by omega)]
     dsimp only
     rw [if_neg (by omega),if_neg (by omega),if_neg (by omega)]
     congr 1;omega
theorem numW_itoa {v:Int} (h:InI64 v):numW (Lib.itoa v)=some v:=by
 unfold numW
 rw [atoi_itoa h]
 simp
theorem numW_some {l:List UInt8} {v:Int} (h:numW l=some v):Lib.itoa v=l∧InI64 v:=by
 unfold numW at h
 split at h
 · rename_i u hu
   split at h
   · rename_i he
     cases h
     exact ⟨he,atoi_bd hu⟩
   · cases h
 · cases h
def fromD (l:List UInt8):Nat:=if l.head?.map (·.toNat)=some 45 then 1 else 0
def digG (l:List UInt8) (i:Nat):Nat:=valD ((l.take i).drop (fromD l))
theorem numW_parts {l:List UInt8} {v:Int} (h:numW l=some v):(fromD l=1∧v<0∧v=-(digG l l.length:Int)∨fromD l=0∧0≤v∧v=(digG l l.length:Int))∧(∀i (hi:i<l.length),fromD l≤i→48≤(l[i]'hi).toNat∧(l[i]'hi).toNat≤57∧digG l (i+1)≤digG l l.length):=by
 obtain ⟨he,hb⟩:=numW_some h
 have hle: ∀i,i<l.length→digG l (i+1)≤digG l l.length:=by
   intro i hi
   unfold digG
   rw [List.take_length]
   have:=valD_take (l.drop (fromD l)) (i+1 - fromD l)
   have hf1:fromD l≤1:=by unfold fromD;split <;>omega
   rw [List.take_drop,show fromD l+(i+1 - fromD l)=i+1 by omega] at this
   exact this
 unfold Lib.itoa at he
 by_cases hn:v<0
 · rw [if_pos hn] at he
   have hf:fromD l=1:=by rw [←he];rfl
   refine ⟨.inl ⟨hf,hn,?_⟩,fun i hi h1=>?_⟩
   · unfold digG
     rw [List.take_length,hf,←he,List.drop_one,List.tail_cons,valD_dec];omega
   · have hm:l[i] ∈ Lib.decDigits v.natAbs:=by
       have:l[i] ∈ l.drop 1:=by
         rw [List.mem_iff_getElem]
         exact ⟨i - 1,by rw [List.length_drop];omega,by rw [List.getElem_drop];congr 1;omega⟩
       have hd:l.drop 1=Lib.decDigits v.natAbs:=by rw [←he];rfl
       rw [hd] at this
       exact this
     have:=dec_digit _ _ hm
     exact ⟨this.1,this.2,hle i hi⟩
 · rw [if_neg hn] at he
   have hf:fromD l=0:=by
     unfold fromD
     rw [if_neg]
     cases hl:l with
     | nil=>simp
     | cons c r=>
       have:=dec_digit v.toNat c (by rw [he,hl];simp)
       simp;omega
   refine ⟨.inr ⟨hf,by omega,?_⟩,fun i hi h1=>?_⟩
   · unfold digG
     rw [List.take_length,hf,List.drop_zero,←he,valD_dec];omega
   · have hm:l[i] ∈ Lib.decDigits v.toNat:=by rw [he];exact List.getElem_mem hi
     have:=dec_digit _ _ hm
     exact ⟨this.1,this.2,hle i hi⟩
def wordsTo (s:ByteArray):Nat→List ByteArray × Nat
 | 0=>([],0)
 | k+1=>if (s.get! k).toNat=32 then ((wordsTo s k).1++ [s.extract (wordsTo s k).2 k],k+1) else wordsTo s k
theorem wordsTo_succ (s:ByteArray) (k:Nat):wordsTo s (k+1)=if (s.get! k).toNat=32 then ((wordsTo s k).1++ [s.extract (wordsTo s k).2 k],k+1) else wordsTo s k:=rfl
theorem wordsTo_start (s:ByteArray): ∀k,(wordsTo s k).2≤k
 | 0=>Nat.le_refl _
 | k+1=>by
   unfold wordsTo
   split
   · exact Nat.le_refl _
   · exact Nat.le_succ_of_le (wordsTo_start s k)
theorem wordsTo_len (s:ByteArray): ∀k,(wordsTo s k).1.length≤k
 | 0=>Nat.le_refl _
 | k+1=>by
   have:=wordsTo_len s k
   unfold wordsTo
   split
   · simp only [List.length_append,List.length_singleton];omega
   · omega
def wordsA (s:ByteArray):List ByteArray:=(wordsTo s s.size).1++ [s.extract (wordsTo s s.size).2 s.size]
theorem wordsA_len (s:ByteArray):1≤(wordsA s).length∧(wordsA s).length≤s.size+1:=by
 have:=wordsTo_len s s.size
 unfold wordsA
 rw [List.length_append,List.length_singleton]
 omega
def cutL:List UInt8→List (List UInt8)
 | []=> [[]]
 | c::r=>if c.toNat=32 then []::cutL r else match cutL r with
   | []=> [[c]]
   | h::t=>(c::h)::t
theorem cutL_ne: ∀l,cutL l≠ []
 | []=>by simp [cutL]
 | c::r=>by
   unfold cutL
   split
   · simp
   · split <;>simp
theorem cutL_none: ∀ {l:List UInt8},(∀c,c ∈ l→c.toNat≠32)→cutL l=[l]
 | [],_=>rfl
 | c::r,h=>by
   unfold cutL
   rw [if_neg (h c (by simp)),cutL_none (fun d hd=>h d (by simp [hd]))]
theorem cutL_at: ∀ {a r:List UInt8} {c:UInt8},(∀d,d ∈ a→d.toNat≠32)→c.toNat=32→cutL (a++c::r)=a::cutL r
 | [],r,c,_,hc=>by show cutL (c::r)=_;rw [cutL,if_pos hc]
 | d::a,r,c,h,hc=>by
   rw [List.cons_append,cutL,if_neg (h d (by simp)),cutL_at (fun e he=>h e (by simp [he])) hc]
theorem get_list (s:ByteArray) (k:Nat) (h:k<s.size):s.data.toList[k]? =some (s.get! k):=by
 rcases s with ⟨bs⟩
 have h2:k<bs.size:=h
 show bs.toList[k]? =some (bs[k]!)
 rw [Array.getElem?_toList,Array.getElem?_eq_getElem h2,getElem!_pos bs k h2]
theorem ext_list (s:ByteArray) (a b:Nat):(s.extract a b).data.toList=(s.data.toList.take b).drop a:=by
 rw [Lib.extract_data,List.drop_take]
theorem wordsTo_cut (s:ByteArray): ∀k,k≤s.size→cutL s.data.toList=wordsL (wordsTo s k).1++cutL (s.data.toList.drop (wordsTo s k).2)∧ ∀i,(wordsTo s k).2≤i→i<k→(s.get! i).toNat≠32
 | 0,_=>⟨by simp [wordsTo,wordsL],fun i _ h=>by omega⟩
 | k + 1,hk=>by
   obtain ⟨ih,no⟩:=wordsTo_cut s k (by omega)
   have hst:=wordsTo_start s k
   rw [wordsTo_succ]
   by_cases hc:(s.get! k).toNat=32
   · rw [if_pos hc]
     refine ⟨?_,fun i h1 h2=>by dsimp only at h1;omega⟩
     dsimp only
     rw [ih]
     have e:s.data.toList.drop (wordsTo s k).2=(s.data.toList.take k).drop (wordsTo s k).2++s.get! k::s.data.toList.drop (k+1):=by
       have hl:s.data.toList.length=s.size:=by simp
       have h1:s.data.toList=s.data.toList.take k++s.get! k::s.data.toList.drop (k+1):=by
         have hk2:k<s.data.toList.length:=by omega
         have hg:=get_list s k (by omega)
         rw [List.getElem?_eq_getElem hk2] at hg
         rw [←Option.some.inj hg,List.getElem_cons_drop,List.take_append_drop]
       conv=>lhs;rw [h1]
       rw [List.drop_append_of_le_length (by rw [List.length_take];omega)]
     have e3:wordsL ((wordsTo s k).1++ [s.extract (wordsTo s k).2 k])=wordsL (wordsTo s k).1++ [(s.data.toList.take k).drop (wordsTo s k).2]:=by
       rw [←ext_list];simp [wordsL]
     rw [e,cutL_at _ hc,e3,List.append_assoc]
     · rfl
     · intro d hd
       obtain ⟨i,hi,rfl⟩:=List.getElem_of_mem hd
       have hl:s.data.toList.length=s.size:=by simp
       rw [List.length_drop,List.length_take] at hi
       rw [List.getElem_drop,List.getElem_take]
       have hg:=get_list s ((wordsTo s k).2+i) (by omega)
       rw [List.getElem?_eq_getElem (by omega)] at hg
       rw [Option.some.inj hg]
       exact no _ (by omega) (by omega)
   · rw [if_neg hc]
     refine ⟨ih,fun i h1 h2=>?_⟩
     by_cases e:i=k
     · rw [e];exact hc
     · exact no i h1 (by omega)
theorem wordsA_cut (s:ByteArray):wordsL (wordsA s)=cutL s.data.toList:=by
 obtain ⟨h,no⟩:=wordsTo_cut s s.size (Nat.le_refl _)
 have hl:s.data.toList.length=s.size:=by simp
 rw [h]
 have e3:wordsL (wordsA s)=wordsL (wordsTo s s.size).1++ [s.data.toList.drop (wordsTo s s.size).2]:=by
   have e4:(s.extract (wordsTo s s.size).2 s.size).data.toList=s.data.toList.drop (wordsTo s s.size).2:=by
     rw [ext_list];congr 1;rw [←hl,List.take_length]
   rw [←e4];simp [wordsL,wordsA]
 rw [e3]
 congr 1
 rw [cutL_none]
 · intro d hd
   obtain ⟨i,hi,rfl⟩:=List.getElem_of_mem hd
   rw [List.length_drop] at hi
   rw [List.getElem_drop]
   have hg:=get_list s ((wordsTo s s.size).2+i) (by omega)
   rw [List.getElem?_eq_getElem (by omega)] at hg
   rw [Option.some.inj hg]
   exact no _ (by omega) (by omega)
theorem splitB_cut: ∀(k:Nat) (s:ByteArray),(wordsL (Lib.splitB ⟨#[32]⟩ 0 k s)=cutL s.data.toList∧(cutL s.data.toList).length≤k+1)∨
   (k+1<(cutL s.data.toList).length∧ ∃x,wordsL (Lib.splitB ⟨#[32]⟩ 0 k s)=(cutL s.data.toList).take k++ [x]∧ ∃c,c ∈ x∧c.toNat=32)
 | 0, s => by
   rw [Lib.splitB_zero]
   by_cases h: ∃c,c ∈ s.data.toList∧c.toNat=32
   · obtain ⟨c,hc,h32⟩:=h
     refine .inr ⟨?_,s.data.toList,by simp [wordsL],c,hc,h32⟩
     obtain ⟨a,r,e⟩:=List.append_of_mem hc
     have hp: ∀(a:List UInt8),1<(cutL (a++c::r)).length:=by
       intro a
       induction a with
       | nil=>
         show 1<(cutL (c::r)).length
         rw [cutL,if_pos h32,List.length_cons]
         have:=List.length_pos_iff.2 (cutL_ne r)
         omega
       | cons d a ih=>
         rw [List.cons_append,cutL]
         split
         · rw [List.length_cons];omega
         · split
           · rename_i h0;rw [h0] at ih;simp at ih
           · rename_i h0;rw [h0] at ih;simpa using ih
     rw [e]
     have:=hp a
     omega
   · refine .inl ⟨?_,?_⟩
     · rw [cutL_none (fun c hc e=>h ⟨c,hc,e⟩)];simp [wordsL]
     · rw [cutL_none (fun c hc e=>h ⟨c,hc,e⟩)];simp
 | k + 1,s=>by
   rcases Lib.indexB_cases s ⟨#[32]⟩ with h | ⟨i,h,hi⟩
   · have h2:Lib.indexByte s.data.toList 32=-1:=by rw [←Lib.index_one];exact h
     have no:=Lib.indexByte_none h2
     have no2: ∀c,c ∈ s.data.toList→c.toNat≠32:=by
       intro c hc e
       obtain ⟨j,hj⟩:=List.mem_iff_getElem?.1 hc
       refine no j ?_
       rw [hj]
       congr 1
       exact UInt8.toNat_inj.1 e
     rw [Lib.splitB_miss _ _ _ _ h,cutL_none no2]
     exact .inl ⟨by simp [wordsL],by simp⟩
   · have h2:Lib.indexByte s.data.toList 32=i:=by rw [←Lib.index_one];exact h
     obtain ⟨hat,no⟩:=Lib.indexByte_some h2
     rw [Lib.splitB_hit _ _ _ _ i h]
     have hl:s.data.toList.length=s.size:=by simp
     have hi2:i<s.data.toList.length:=(List.getElem?_eq_some_iff.1 hat).1
     have e:s.data.toList=s.data.toList.take i++(32:UInt8)::s.data.toList.drop (i+1):=by
       have hg:=hat
       rw [List.getElem?_eq_getElem hi2] at hg
       rw [←Option.some.inj hg,List.getElem_cons_drop,List.take_append_drop]
     have no2: ∀d,d ∈ s.data.toList.take i→d.toNat≠32:=by
       intro d hd e
       obtain ⟨j,hj,rfl⟩:=List.getElem_of_mem hd
       rw [List.length_take] at hj
       rw [List.getElem_take] at e
       refine no j (by omega) ?_
       rw [List.getElem?_eq_getElem (by omega)]
       congr 1
       exact UInt8.toNat_inj.1 e
     have e1:(s.extract 0 (i+0)).data.toList=s.data.toList.take i:=by rw [ext_list];simp
     have e2:(s.extract (i+(⟨#[32]⟩:ByteArray).size) s.size).data.toList=s.data.toList.drop (i+1):=by
       rw [ext_list,←hl,List.take_length];rfl
     have ec:cutL s.data.toList=s.data.toList.take i::cutL (s.data.toList.drop (i+1)):=by
       conv=>lhs;rw [e]
       exact cutL_at no2 rfl
     have ih:=splitB_cut k (s.extract (i+(⟨#[32]⟩:ByteArray).size) s.size)
     rw [e2] at ih
     rw [wordsL,List.map_cons,e1,ec]
     rcases ih with ⟨h1,h3⟩ | ⟨h1,x,h3,h4⟩
     · refine .inl ⟨?_,by rw [List.length_cons];omega⟩
       rw [←h1];rfl
     · refine .inr ⟨by rw [List.length_cons];omega,x,?_,h4⟩
       rw [List.take_succ_cons,List.cons_append,←h3];rfl
end Go.Proofs.YtanccoopbgamdaaGreatDoor
namespace Go.Proofs.YtanccoopbgamdaaGreatDoor
set_option linter.unusedVariables false
set_option linter.unusedSimpArgs false
section
variable {W H : Int} {xs : List Int} {n d : Nat}
structure Ranked (W H:Int) (xs:List Int) (n d:Nat) (rs:List Int) (D U:Nat→List Int):Prop where
 len:rs.length=n
 dlen: ∀k,k≤d→(D k).length=n∧fieldOk W H (D k)=true
 ulen: ∀k,d+k≤n→(U k).length=n∧fieldOk W H (U k)=true
 one: ∀i,i<n→xs.getD i 0=1→0≤rs.getD i 0∧rs.getD i 0<d
 zero: ∀i,i<n→xs.getD i 0=0→(d:Int)≤rs.getD i 0∧rs.getD i 0<n
 down: ∀k i,k≤d→i<n→(D k).getD i 0=if rs.getD i 0<(d:Int) - k then 1 else 0
 up: ∀k i,d+k≤n→i<n→(U k).getD i 0=if rs.getD i 0<(d:Int)+k then 1 else 0
 tight: ∀k,k<d→ ∃a:Nat,tightF W H (D k)=a∧a<n∧rs.getD a 0=(d:Int) - 1 - k∧D (k+1)=(D k).set a 0
 wide: ∀k,d+k<n→ ∃a:Nat,wideF W H (U k)=a∧a<n∧rs.getD a 0=(d:Int)+k∧U (k+1)=(U k).set a 1
end
theorem map_gen6 (xs:List Int) (f:Int→Int) (n:Nat) (h:xs.length=n):xs.map f=gen n (fun i=>f (xs.getD i 0)):=by
 refine gen_ext n _ _ (by simp [h]) (fun k hk=>?_)
 simp [List.getD,List.getElem?_map,List.getElem?_eq_getElem (show k<xs.length by omega)]
namespace Ranked
variable {W H : Int} {xs rs : List Int} {n d : Nat} {D U : Nat → List Int}
theorem range (R:Ranked W H xs n d rs D U) (hx:Dots xs) (hn:xs.length=n) (dn:d≤n) (i:Nat) (hi:i<n):0≤rs.getD i 0∧rs.getD i 0<n:=by
 rcases hx i (by omega) with e | e
 · have:=R.zero i hi e;omega
 · have:=R.one i hi e;omega
theorem lo (R:Ranked W H xs n d rs D U) {i:Nat} (hi:i<n) (h0:0≤rs.getD i 0) (h:rs.getD i 0<d):tightF W H (rs.map (cellsG (rs.getD i 0+1)))=i∧fieldOk W H (rs.map (cellsG (rs.getD i 0+1)))=true:=by
 obtain ⟨k,hk⟩: ∃k:Nat,(k:Int)=(d:Int) - 1 - rs.getD i 0:=⟨((d:Int) - 1 - rs.getD i 0).toNat,by omega⟩
 obtain ⟨a,a1,a2,a3,a4⟩:=R.tight k (by omega)
 have l:=R.dlen k (by omega)
 have e:rs.map (cellsG (rs.getD i 0+1))=D k:=by
   rw [map_gen6 rs _ n R.len]
   symm
   refine gen_ext n _ _ l.1 (fun j hj=>?_)
   rw [R.down k j (by omega) hj]
   unfold cellsG
   by_cases c:rs.getD j 0<(d:Int) - k
   · rw [if_pos c,if_pos (by omega)]
   · rw [if_neg c,if_neg (by omega)]
 rw [e]
 refine ⟨?_,l.2⟩
 have:a=i:=by
   by_cases c:a=i
   · exact c
   · exfalso
     have h1:=R.down (k+1) i (by omega) hi
     rw [a4,getD_set_neQ c,R.down k i (by omega) hi,if_pos (by omega),if_neg (by omega)] at h1
     omega
 rw [a1,this]
theorem hi (R:Ranked W H xs n d rs D U) {i:Nat} (hi:i<n) (h0:(d:Int)≤rs.getD i 0) (h:rs.getD i 0<n):wideF W H (rs.map (cellsG (rs.getD i 0)))=i∧fieldOk W H (rs.map (cellsG (rs.getD i 0)))=true:=by
 obtain ⟨k,hk⟩: ∃k:Nat,(k:Int)=rs.getD i 0 - d:=⟨(rs.getD i 0 - d).toNat,by omega⟩
 obtain ⟨a,a1,a2,a3,a4⟩:=R.wide k (by omega)
 have l:=R.ulen k (by omega)
 have e:rs.map (cellsG (rs.getD i 0))=U k:=by
   rw [map_gen6 rs _ n R.len]
   symm
   refine gen_ext n _ _ l.1 (fun j hj=>?_)
   rw [R.up k j (by omega) hj]
   unfold cellsG
   by_cases c:rs.getD j 0<(d:Int)+k
   · rw [if_pos c,if_pos (by omega)]
   · rw [if_neg c,if_neg (by omega)]
 rw [e]
 refine ⟨?_,l.2⟩
 have:a=i:=by
   by_cases c:a=i
   · exact c
   · exfalso
     have h1:=R.up (k+1) i (by omega) hi
     rw [a4,getD_set_neQ c,R.up k i (by omega) hi,if_neg (by omega),if_pos (by omega)] at h1
     omega
 rw [a1,this]
theorem inj (R:Ranked W H xs n d rs D U) (hx:Dots xs) (hn:xs.length=n) (dn:d≤n) {i j:Nat} (hi:i<n) (hj:j<n) (e:rs.getD i 0=rs.getD j 0):i=j:=by
 have b:=R.range hx hn dn i hi
 by_cases c:rs.getD i 0<d
 · have h1:=(R.lo hi b.1 c).1
   have h2:=(R.lo hj (by omega) (by omega)).1
   rw [←e,h1] at h2
   omega
 · have h1:=(R.hi hi (by omega) b.2).1
   have h2:=(R.hi hj (by omega) (by omega)).1
   rw [←e,h1] at h2
   omega
theorem cells (R:Ranked W H xs n d rs D U) (hx:Dots xs) (hn:xs.length=n):rs.map (cellsG d)=xs:=by
 rw [map_gen6 rs _ n R.len]
 symm
 refine gen_ext n _ _ hn (fun j hj=>?_)
 unfold cellsG
 rcases hx j (by omega) with e | e
 · rw [if_neg (by have:=R.zero j hj e;omega)];exact e
 · rw [if_pos (R.one j hj e).2];exact e
end Ranked
end Go.Proofs.YtanccoopbgamdaaGreatDoor
namespace Go.Proofs.YtanccoopbgamdaaGreatDoor
open Go.RowKit
set_option linter.unusedVariables false
set_option linter.unusedSimpArgs false
def plainL:List (List UInt8):=[[101,114,114,111,114],[99,111,117,110,116,115],[109,101,97,110],[114,117,110,115],[115,104,111,119],[100,114,111,112],[109,105,114,114,111,114],[115,104,114,105,110,107],[103,114,111,119],[100,105,102,102,117,115,101,32,112,108,97,105,110,32,98,111,116,104],[100,105,102,102,117,115,101,32,112,108,97,105,110,32,108,101,102,116],[100,105,102,102,117,115,101,32,115,116,101,105,110,32,98,111,116,104],[100,105,102,102,117,115,101,32,115,116,101,105,110,32,108,101,102,116],[115,99,114,101,101,110],[114,101,118,101,114,115,101]]
theorem plainF_mem {l:List UInt8} (h:l ∉ plainL):plainF l=none:=by
 unfold plainL at h
 simp only [List.mem_cons,List.not_mem_nil,or_false,not_or] at h
 obtain ⟨h1,h2,h3,h4,h5,h6,h7,h8,h9,h10,h11,h12,h13,h14,h15⟩:=h
 unfold plainF
 rw [if_neg h1,if_neg h2,if_neg h3,if_neg h4,if_neg h5,if_neg h6,if_neg h7,if_neg h8,if_neg h9,if_neg h10,if_neg h11,if_neg h12,if_neg h13,if_neg h14,if_neg h15]
def wDiffuse:List UInt8:=[100,105,102,102,117,115,101]
theorem plain_words: ∀l,l ∈ plainL→(cutL l).length=1∨(cutL l).length=3∧(cutL l).getD 0 []=wDiffuse:=by decide
theorem numW_space {l:List UInt8} (h: ∃c,c ∈ l∧c.toNat=32):numW l=none:=by
 cases hn:numW l with
 | none=>rfl
 | some v=>
   exfalso
   obtain ⟨c,hc,h32⟩:=h
   obtain ⟨i,hi,rfl⟩:=List.getElem_of_mem hc
   by_cases hf:fromD l≤i
   · have:=(numW_parts hn).2 i hi hf
     omega
   · have hf2:fromD l≤1:=by unfold fromD;split <;>omega
     have hi0:i=0:=by omega
     subst hi0
     unfold fromD at hf
     split at hf
     · rename_i hh
       cases l with
       | nil=>simp at hi
       | cons a b=>
         simp at hh h32
         omega
     · omega
theorem numsW_mem {ws:List (List UInt8)} {w:List UInt8} (hw:w ∈ ws) (hn:numW w=none):numsW ws=none:=by
 obtain ⟨k,hk,rfl⟩:=List.getElem_of_mem hw
 exact numsW_no ws k hk (by rw [List.getD_eq_getElem?_getD,List.getElem?_eq_getElem hk];exact hn)
theorem numsW_len: ∀ {ws:List (List UInt8)} {xs:List Int},numsW ws=some xs→xs.length=ws.length
 | [],xs,h=>by cases h;rfl
 | w ::r,xs,h=>by
   unfold numsW at h
   split at h
   · cases h
   · split at h
     · cases h
     · rename_i l hl
       cases h
       simp [numsW_len hl]
theorem numF_len {l:List UInt8} {xs:List Int} (h:xs.length=0∨4≤xs.length):numF l xs=none:=by
 unfold numF
 rw [if_neg (by omega),if_neg (by omega),if_neg (by omega),if_neg (by omega),if_neg (by omega),if_neg (by omega),if_neg (by omega),if_neg (by omega)]
theorem wordsF_all {s:ByteArray} (h:(wordsA s).length≤4):wordsL (wordsF s)=wordsL (wordsA s):=by
 have hw:=wordsA_cut s
 have hl:=wordsA_len s
 have e:(wordsL (wordsA s)).length=(wordsA s).length:=by simp [wordsL]
 rcases splitB_cut (min 4 (s.size+1) - 1) s with ⟨h1,_⟩ | ⟨h1,_⟩
 · rw [hw];exact h1
 · rw [←hw,e] at h1;omega
theorem wordsF_many {s:ByteArray} (h:5≤(wordsA s).length):numsW (wordsL (wordsF s).tail)=none:=by
 have hw:=wordsA_cut s
 have hl:=wordsA_len s
 have e:(wordsL (wordsA s)).length=(wordsA s).length:=by simp [wordsL]
 have hk:min 4 (s.size+1) - 1=3:=by omega
 rcases splitB_cut 3 s with ⟨_,h1⟩ | ⟨_,x,h2,c,hc,h32⟩
 · rw [←hw,e] at h1;omega
 · unfold wordsF
   rw [hk]
   refine numsW_mem (w:=x) ?_ (numW_space ⟨c,hc,h32⟩)
   have e2:wordsL (Lib.splitB ⟨#[32]⟩ 0 3 s).tail=(wordsL (Lib.splitB ⟨#[32]⟩ 0 3 s)).tail:=by unfold wordsL;rw [List.map_tail]
   rw [e2,h2]
   cases hc2:(cutL s.data.toList).take 3 with
   | nil=>have:=congrArg List.length hc2;rw [List.length_take,←hw,e,List.length_nil] at this;omega
   | cons a b=>simp
theorem wordsL_tail (L:List ByteArray):wordsL L.tail=(wordsL L).tail:=by unfold wordsL;rw [List.map_tail]
theorem wordsL_getD (L:List ByteArray) (k:Nat):(L.getD k ByteArray.empty).data.toList=(wordsL L).getD k []:=by
 unfold wordsL
 simp only [List.getD_eq_getElem?_getD,List.getElem?_map]
 cases L[k]? with
 | none=>rfl
 | some x=>rfl
theorem runF_one {d:Dat} {s:ByteArray} (hk:deskOk d=true) (h:(wordsA s).length=1):runF d s=if s.size=0 then (d,[]) else match plainF s.data.toList with | some F=>F d | none=>(d,ansWhat):=by
 unfold runF lineF
 rw [if_pos hk]
 by_cases h0:s.size=0
 · rw [if_pos h0,if_pos h0]
 · rw [if_neg h0,if_neg h0]
   cases plainF s.data.toList with
   | some F=>rfl
   | none=>
     have hw:=wordsF_all (s:=s) (by omega)
     have e:numsW (wordsL (wordsF s).tail)=some []:=by
       rw [wordsL_tail,hw]
       have:(wordsL (wordsA s)).length=1:=by simp [wordsL,h]
       match hh:wordsL (wordsA s),this with
       | [a],_=>rfl
     dsimp only
     rw [e]
     dsimp only
     rw [numF_len (.inl rfl)]
theorem runF_nums {d:Dat} {s:ByteArray} (hk:deskOk d=true) (h:2≤(wordsA s).length) (hd: ¬((wordsA s).length=3∧((wordsA s).getD 0 ByteArray.empty).data.toList=wDiffuse)):
   runF d s=match numsW (wordsL (wordsA s).tail) with | none=>(d,ansWhat) | some xs=>match numF ((wordsA s).getD 0 ByteArray.empty).data.toList xs with | some F=>F d | none=>(d,ansWhat):=by
 have hc:=wordsA_cut s
 have e:(wordsL (wordsA s)).length=(wordsA s).length:=by simp [wordsL]
 have hl:=wordsA_len s
 unfold runF lineF
 rw [if_pos hk,if_neg (by omega),plainF_mem (fun hm=>by
   rcases plain_words _ hm with h1 | ⟨h1,h2⟩
   · rw [←hc,e] at h1;omega
   · rw [←hc] at h1 h2;rw [e] at h1;exact hd ⟨h1,by rw [wordsL_getD];exact h2⟩)]
 dsimp only
 by_cases h4:(wordsA s).length≤4
 · have hw:=wordsF_all h4
   have e1:wordsL (wordsF s).tail=wordsL (wordsA s).tail:=by rw [wordsL_tail,hw,wordsL_tail]
   have e2:((wordsF s).getD 0 ByteArray.empty).toList=((wordsA s).getD 0 ByteArray.empty).data.toList:=by rw [ByteArray.toList_eq,wordsL_getD,hw,wordsL_getD]
   rw [e1,e2]
   cases numsW (wordsL (wordsA s).tail) with
   | none=>rfl
   | some xs=>rfl
 · rw [wordsF_many (by omega)]
   dsimp only
   cases hn:numsW (wordsL (wordsA s).tail) with
   | none=>rfl
   | some xs=>
     have:=numsW_len hn
     dsimp only
     rw [numF_len (.inr (by rw [this];simp [wordsL];omega))]
end Go.Proofs.YtanccoopbgamdaaGreatDoor
