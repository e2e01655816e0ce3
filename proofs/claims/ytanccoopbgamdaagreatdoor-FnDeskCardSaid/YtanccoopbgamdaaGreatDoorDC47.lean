/-
  Contracts and plain facts on which the theorem of this claim rests, text 47.
-/
import Derived.Laws.IdiomStrings
import Derived.Lib.CountLaws
import Derived.Test.YtanccoopbgamdaaGreatDoorDC3
import Derived.Test.YtanccoopbgamdaaGreatDoorDC5
import Derived.Test.YtanccoopbgamdaaGreatDoorDC6
import Derived.Test.YtanccoopbgamdaaGreatDoorDC10
import Derived.Test.YtanccoopbgamdaaGreatDoorDC33
import Derived.Test.YtanccoopbgamdaaGreatDoorDC38
import Derived.Test.YtanccoopbgamdaaGreatDoorDC40
import Derived.Test.YtanccoopbgamdaaGreatDoorDC44
import Derived.Test.YtanccoopbgamdaaGreatDoorDC45
import Derived.Test.YtanccoopbgamdaaGreatDoorDC46
namespace Go.Proofs.YtanccoopbgamdaaGreatDoor
open Go.RowKit
set_option linter.unusedVariables false
set_option linter.unusedSimpArgs false
def strokeB (b:UInt8):UInt8:=if b.toNat=10 then 47 else b
theorem strokes_none: ∀ {l:List UInt8},(∀k:Nat,l[k]?≠some 10)→l.map strokeB=l
 | [],_=>rfl
 | c::r,h=>by
   have h0:c≠10:=fun e=>h 0 (by rw [e];rfl)
   have h1:c.toNat≠10:=fun e=>h0 (UInt8.toNat_inj.1 e)
   rw [List.map_cons,strokes_none (fun k=>by have:=h (k+1);simpa using this)]
   unfold strokeB
   rw [if_neg h1]
theorem replace_strokes: ∀(n:Nat) (l:List UInt8),l.length≤n→Lib.replaceK [10] [47] (Lib.count l [10]) l=l.map strokeB:=by
 intro n
 induction n with
 | zero=>
   intro l hl
   have:l=[]:=List.eq_nil_of_length_eq_zero (by omega)
   subst this
   rfl
 | succ n ih=>
   intro l hl
   by_cases hm:Lib.index l [10]=-1
   · rw [Lib.count_miss hm]
     have h2:Lib.indexByte l 10=-1:=by rw [←Lib.index_one];exact hm
     rw [strokes_none (Lib.indexByte_none h2)]
     rfl
   · have hge:=Lib.index_ge l [10]
     obtain ⟨i,hi⟩: ∃i:Nat,Lib.index l [10]=i:=⟨(Lib.index l [10]).toNat,by omega⟩
     have h2:Lib.indexByte l 10=i:=by rw [←Lib.index_one];exact hi
     obtain ⟨hat,no⟩:=Lib.indexByte_some h2
     have hil:i<l.length:=(List.getElem?_eq_some_iff.1 hat).1
     rw [Lib.count_hit (by simp) hi,Nat.add_comm,Lib.replaceK_hit _ _ _ _ _ hi,List.length_singleton,ih _ (by rw [List.length_drop];omega)]
     have e:l=l.take i++(10:UInt8)::l.drop (i+1):=by
       have hg:=hat
       rw [List.getElem?_eq_getElem hil] at hg
       rw [←Option.some.inj hg,List.getElem_cons_drop,List.take_append_drop]
     conv=>rhs;rw [e]
     rw [List.map_append,List.map_cons,strokes_none (l:=l.take i) (fun k=>by
       intro hk
       by_cases hki:k<i
       · rw [List.getElem?_take_of_lt hki] at hk;exact no k hki hk
       · rw [List.getElem?_eq_none (by rw [List.length_take];omega)] at hk;cases hk),List.append_assoc]
     rfl
theorem replaceAll_strokes (l:List UInt8):Lib.replaceAll l [10] [47]=l.map strokeB:=by
 unfold Lib.replaceAll Lib.replace
 rw [if_neg (by decide)]
 have e:Lib.replaceNum l [10] (-1)=Lib.count l [10]:=by unfold Lib.replaceNum;rw [if_pos (.inl (by decide))]
 rw [e]
 exact replace_strokes l.length l (Nat.le_refl _)
theorem textF_end (W H:Int) (xs:List Int):textF W H xs=[]∨ ∃l,textF W H xs=l++ [10]:=by
 unfold textF
 split
 · rename_i h
   obtain ⟨hs,_,_⟩:=picOk_bd rfl h
   unfold sizeOk at hs
   simp only [Bool.and_eq_true,decide_eq_true_eq] at hs
   obtain ⟨w,rfl⟩: ∃w:Nat,W=w:=⟨W.toNat,by omega⟩
   obtain ⟨k,rfl⟩: ∃k:Nat,H=((k+1:Nat):Int):=⟨H.toNat - 1,by omega⟩
   refine .inr ⟨(List.range ((w+1)*(k+1) - 1)).map (textAt w xs),?_⟩
   show textG w (k+1) xs=_
   have e:(w+1)*(k+1)=((w+1)*(k+1) - 1)+1:=by
     have:(w+1)*(k+1)=(w+1)*k+(w+1):=Nat.mul_succ _ _
     omega
   unfold textG
   conv=>lhs;rw [e,List.range_succ,List.map_append]
   congr 1
   simp only [List.map_cons,List.map_nil]
   congr 1
   unfold textAt
   rw [if_pos]
   have e2:(w+1)*(k+1) - 1=w+(w+1)*k:=by
     have:(w+1)*(k+1)=(w+1)*k+(w+1):=Nat.mul_succ _ _
     omega
   rw [e2,Nat.add_mul_mod_self_left,Nat.mod_eq_of_lt (by omega)]
 · exact .inl rfl
def shownL (l:List UInt8):List UInt8:=(l.take (l.length - 1)).map strokeB
theorem showT_is (d:Dat) (q:Pic):showT d q=(d,shownL (textF q.W q.H q.ink)):=by
 unfold showT shownL
 rw [replaceAll_strokes]
 rcases textF_end q.W q.H q.ink with e | ⟨l,e⟩
 · rw [e];rfl
 · rw [e]
   unfold Lib.trimSuffix Lib.hasSuffix
   rw [if_pos (by rw [List.isSuffixOf_iff_suffix];exact List.suffix_append _ _)]
   simp
theorem get_mk (l:List UInt8) (k:Nat) (h:k<l.length):(⟨l.toArray⟩:ByteArray).get! k=l[k]:=by
 show l.toArray[k]! =l[k]
 simp [h]
theorem extract_mk (A seg B:List UInt8):(⟨(A++(seg++B)).toArray⟩:ByteArray).extract A.length (A.length+seg.length)=⟨seg.toArray⟩:=by
 apply ByteArray.ext
 rw [ByteArray.data_extract]
 apply Array.ext'
 simp
theorem lines_cut (A seg B:List UInt8) (L:List ByteArray) (h: ∀b,b ∈ seg→b.toNat≠10) (hp:linesTo ⟨(A++(seg++10::B)).toArray⟩ A.length=(L,A.length)):
   linesTo ⟨(A++(seg++10::B)).toArray⟩ (A.length+seg.length+1)=(L++ [⟨seg.toArray⟩],A.length+seg.length+1):=by
 have hs:linesTo ⟨(A++(seg++10::B)).toArray⟩ (A.length+seg.length)=(L,A.length):=by
   rw [linesTo_skip _ _ _ (fun k hk=>by
     rw [get_mk _ _ (by simp;omega),List.getElem_append_right (by omega)]
     have e:A.length+k - A.length=k:=by omega
     simp only [e]
     rw [List.getElem_append_left hk]
     exact h _ (List.getElem_mem hk)),hp]
 have h10:((⟨(A++(seg++10::B)).toArray⟩:ByteArray).get! (A.length+seg.length)).toNat=10:=by
   rw [get_mk _ _ (by simp),List.getElem_append_right (by omega)]
   have e:A.length+seg.length - A.length=seg.length:=by omega
   simp only [e]
   rw [List.getElem_append_right (by omega)]
   simp
 rw [linesTo_succ,if_pos h10,hs]
 dsimp only
 rw [extract_mk A seg (10::B)]
theorem lines_rest (A seg:List UInt8) (L:List ByteArray) (h: ∀b,b ∈ seg→b.toNat≠10) (hp:linesTo ⟨(A++seg).toArray⟩ A.length=(L,A.length)):
   linesTo ⟨(A++seg).toArray⟩ (A.length+seg.length)=(L,A.length):=by
 rw [linesTo_skip _ _ _ (fun k hk=>by
   rw [get_mk _ _ (by simp;omega),List.getElem_append_right (by omega)]
   have e:A.length+k - A.length=k:=by omega
   simp only [e]
   exact h _ (List.getElem_mem hk)),hp]
def joined:List (List UInt8)→List UInt8→List UInt8
 | [],t=>t
 | x::r,t=>x++10::joined r t
theorem lines_joined: ∀(M:List (List UInt8)) (t A:List UInt8) (L:List ByteArray),(∀x,x ∈ M→ ∀b,b ∈ x→b.toNat≠10)→(∀b,b ∈ t→b.toNat≠10)→linesTo ⟨(A++joined M t).toArray⟩ A.length=(L,A.length)→
   linesTo ⟨(A++joined M t).toArray⟩ (A++joined M t).length=(L++M.map (fun x=>⟨x.toArray⟩),(A++joined M t).length - t.length)
 | [],t,A,L,_,ht,hp=>by
   have:=lines_rest A t L ht hp
   simp only [joined,List.length_append,List.map_nil,List.append_nil,Nat.add_sub_cancel]
   exact this
 | x ::r,t,A,L,hM,ht,hp=>by
   have h1:=lines_cut A x (joined r t) L (hM x (by simp)) hp
   have e:A++joined (x::r) t=(A++x++ [10])++joined r t:=by simp [joined]
   have h2:=lines_joined r t (A++x++ [10]) (L++ [⟨x.toArray⟩]) (fun y hy=>hM y (by simp [hy])) ht (by
     rw [←e]
     have el:(A++x++ [10]).length=A.length+x.length+1:=by simp;omega
     rw [el]
     exact h1)
   rw [e,h2]
   simp
theorem joined_len (t:List UInt8): ∀M,t.length≤(joined M t).length
 | []=>Nat.le_refl _
 | x::r=>by
   have:=joined_len t r
   simp only [joined,List.length_append,List.length_cons]
   omega
theorem extract_end (P t:List UInt8):(⟨(P++t).toArray⟩:ByteArray).extract P.length (P.length+t.length)=⟨t.toArray⟩:=by
 have:=extract_mk P t []
 rwa [List.append_nil] at this
theorem joined_split (t:List UInt8): ∀M,∃P,joined M t=P++t
 | []=>⟨[],rfl⟩
 | x::r=>by
   obtain ⟨P,h⟩:=joined_split t r
   exact ⟨x++10::P,by simp [joined,h]⟩
theorem linesF_joined (M:List (List UInt8)) (t:List UInt8) (hM: ∀x,x ∈ M→ ∀b,b ∈ x→b.toNat≠10) (ht: ∀b,b ∈ t→b.toNat≠10) (h1:t≠ []) (h2:M.length≤40):
   linesF ⟨(joined M t).toArray⟩=M.map (fun x=>⟨x.toArray⟩)++ [⟨t.toArray⟩]:=by
 have h:=lines_joined M t [] [] hM ht rfl
 simp only [List.nil_append] at h
 have hz:(⟨(joined M t).toArray⟩:ByteArray).size=(joined M t).length:=by show (joined M t).toArray.size=_;simp
 have hlt:=joined_len t M
 have hpos:0<t.length:=by cases t with
   | nil=>exact absurd rfl h1
   | cons _ _=>simp
 obtain ⟨P,hP⟩:=joined_split t M
 unfold linesF
 rw [hz,h]
 rw [if_neg (by simp;omega),if_pos (by dsimp only;omega)]
 dsimp only
 congr 2
 rw [hP,List.length_append,Nat.add_sub_cancel]
 exact extract_end P t
theorem itoa_letters (v:Int): ∀c,c ∈ Lib.itoa v→c.toNat≠32∧c.toNat≠10:=by
 intro c hc
 have dg: ∀u,c ∈ Lib.decDigits u→c.toNat≠32∧c.toNat≠10:=fun u h=>by have:=dec_digit u c h;omega
 unfold Lib.itoa at hc
 split at hc
 · rcases List.mem_cons.1 hc with rfl | hc
   · decide
   · exact dg _ hc
 · exact dg _ hc
def oneL (word:List UInt8) (x:Int):List UInt8:=word++32::Lib.itoa x
def twoL (word:List UInt8) (x y:Int):List UInt8:=word++32::(Lib.itoa x++32::Lib.itoa y)
theorem words_one (word:List UInt8) (x:Int) (hw: ∀c,c ∈ word→c.toNat≠32):wordsL (wordsA ⟨(oneL word x).toArray⟩)=[word,Lib.itoa x]:=by
 rw [wordsA_cut]
 show cutL (oneL word x)=_
 unfold oneL
 rw [cutL_at hw (by rfl),cutL_none (fun c hc=>(itoa_letters x c hc).1)]
theorem words_two (word:List UInt8) (x y:Int) (hw: ∀c,c ∈ word→c.toNat≠32):wordsL (wordsA ⟨(twoL word x y).toArray⟩)=[word,Lib.itoa x,Lib.itoa y]:=by
 rw [wordsA_cut]
 show cutL (twoL word x y)=_
 unfold twoL
 rw [cutL_at hw (by rfl),cutL_at (fun c hc=>(itoa_letters x c hc).1) (by rfl),cutL_none (fun c hc=>(itoa_letters y c hc).1)]
theorem wordsL_zero (L:List ByteArray) (x:List UInt8) (r:List (List UInt8)) (h:wordsL L=x::r):(L.getD 0 ByteArray.empty).data.toList=x:=by
 cases L with
 | nil=>cases h
 | cons a b=>exact (List.cons.inj h).1
theorem wordsL_len (L:List ByteArray):(wordsL L).length=L.length:=by simp [wordsL]
theorem run_ramp {d:Dat} {x y:Int} (hk:deskOk d=true) (hx:InI64 x) (hy:InI64 y):runF d ⟨(twoL [114,97,109,112] x y).toArray⟩=actPic (rampF x y).1 d:=by
 have hw:=words_two [114,97,109,112] x y (by decide)
 have hl:=wordsL_len (wordsA ⟨(twoL [114,97,109,112] x y).toArray⟩)
 rw [hw] at hl
 have h0:=wordsL_zero _ _ _ hw
 rw [runF_nums hk (by rw [←hl];simp) (by rw [h0];rintro ⟨_,h⟩;revert h;decide),wordsL_tail,hw,h0]
 have hn:numsW [Lib.itoa x,Lib.itoa y]=some [x,y]:=by simp [numsW,numW_itoa hx,numW_itoa hy]
 simp only [List.tail_cons,hn]
 have hf:numF [114,97,109,112] [x,y]=some (actPic (rampF x y).1):=by
   unfold numF
   rw [if_neg (by rintro ⟨h,_⟩;revert h;decide),if_pos ⟨rfl,rfl⟩]
   rfl
 rw [hf]
theorem run_bayer {d:Dat} {x:Int} (hk:deskOk d=true) (hx:InI64 x):runF d ⟨(oneL [98,97,121,101,114] x).toArray⟩=actMat (fun _=>mp (bayerF x).1) d:=by
 have hw:=words_one [98,97,121,101,114] x (by decide)
 have hl:=wordsL_len (wordsA ⟨(oneL [98,97,121,101,114] x).toArray⟩)
 rw [hw] at hl
 have h0:=wordsL_zero _ _ _ hw
 rw [runF_nums hk (by rw [←hl];simp) (by rw [←hl];rintro ⟨h,_⟩;revert h;simp),wordsL_tail,hw,h0]
 have hn:numsW [Lib.itoa x]=some [x]:=by simp [numsW,numW_itoa hx]
 simp only [List.tail_cons,hn]
 have hf:numF [98,97,121,101,114] [x]=some (actMat (fun _=>mp (bayerF x).1)):=by
   unfold numF
   rw [if_neg (by rintro ⟨h,_⟩;revert h;decide),if_neg (by rintro ⟨h,_⟩;revert h;decide),if_pos ⟨rfl,rfl⟩]
   rfl
 rw [hf]
theorem run_word {d:Dat} {l:List UInt8} {F:Dat→Dat × List UInt8} (hk:deskOk d=true) (hn:l≠ []) (hw: ∀c,c ∈ l→c.toNat≠32) (hF:plainF l=some F):runF d ⟨l.toArray⟩=F d:=by
 have h1:(wordsA ⟨l.toArray⟩).length=1:=by
   rw [←wordsL_len,wordsA_cut]
   show (cutL l).length=1
   rw [cutL_none hw]
   rfl
 rw [runF_one hk h1,if_neg (by
   intro h
   have e:(⟨l.toArray⟩:ByteArray).size=l.length:=by show l.toArray.size=_;simp
   rw [e] at h
   exact hn (List.length_eq_zero_iff.1 h))]
 show (match plainF l with | some F=>F d | none=>(d,ansWhat))=F d
 rw [hF]
theorem run_blank {d:Dat} (hk:deskOk d=true):runF d ⟨#[]⟩=(d,[]):=by
 unfold runF
 rw [if_pos hk]
 exact if_pos rfl
theorem plain_screen:plainF [115,99,114,101,101,110]=some (actPlate screenT):=by
 unfold plainF
 rw [if_neg (by decide),if_neg (by decide),if_neg (by decide),if_neg (by decide),if_neg (by decide),if_neg (by decide),if_neg (by decide),if_neg (by decide),if_neg (by decide),if_neg (by decide),if_neg (by decide),if_neg (by decide),if_neg (by decide),if_pos rfl]
theorem plain_mean:plainF [109,101,97,110]=some (actLast meanT):=by
 unfold plainF
 rw [if_neg (by decide),if_neg (by decide),if_pos rfl]
theorem plain_show:plainF [115,104,111,119]=some (actLast showT):=by
 unfold plainF
 rw [if_neg (by decide),if_neg (by decide),if_neg (by decide),if_neg (by decide),if_pos rfl]
theorem script_step (L:List ByteArray) (k:Nat) (d:Dat) (T:List UInt8) (x:ByteArray) (r:Dat × List UInt8) (h:scriptTo L k=(d,T)) (hx:L.getD k ByteArray.empty=x) (hr:runF d x=r):
   scriptTo L (k+1)=(r.1,T++(if r.2=[] then [] else r.2++ [10])):=by
 show ((runF (scriptTo L k).1 (L.getD k ByteArray.empty)).1,(scriptTo L k).2++(if (runF (scriptTo L k).1 (L.getD k ByteArray.empty)).2=[] then [] else (runF (scriptTo L k).1 (L.getD k ByteArray.empty)).2++ [10]))=_
 rw [h,hx,hr]
def deskM (x y z:Int):List (List UInt8):=[twoL [114,97,109,112] x y,oneL [98,97,121,101,114] z,[115,99,114,101,101,110],[109,101,97,110],[]]
def deskT:List UInt8:=[115,104,111,119]
theorem desk_letters (x y z:Int): ∀l,l ∈ deskM x y z→ ∀b,b ∈ l→b.toNat≠10:=by
 intro l hl b hb
 unfold deskM at hl
 simp only [List.mem_cons,List.not_mem_nil,or_false] at hl
 rcases hl with rfl | rfl | rfl | rfl | rfl
 · unfold twoL at hb
   rcases List.mem_append.1 hb with hb | hb
   · exact (show∀b,b ∈ ([114,97,109,112]:List UInt8)→b.toNat≠10 by decide) b hb
   rcases List.mem_cons.1 hb with rfl | hb
   · decide
   rcases List.mem_append.1 hb with hb | hb
   · exact (itoa_letters x b hb).2
   rcases List.mem_cons.1 hb with rfl | hb
   · decide
   · exact (itoa_letters y b hb).2
 · unfold oneL at hb
   rcases List.mem_append.1 hb with hb | hb
   · exact (show∀b,b ∈ ([98,97,121,101,114]:List UInt8)→b.toNat≠10 by decide) b hb
   rcases List.mem_cons.1 hb with rfl | hb
   · decide
   · exact (itoa_letters z b hb).2
 · revert b;decide
 · revert b;decide
 · cases hb
theorem desk_script (x y z:Int) (P M Q:Pic) (hx:InI64 x) (hy:InI64 y) (hz:InI64 z) (hP:(rampF x y).1=P) (hM:mp (bayerF z).1=M) (hQ:screenF M.W M.H M.ink P.W P.H P.ink=Q)
   (h1:picOk P.W P.H P.ink 255=true) (h2:matOk M.W M.H M.ink=true) (sh:List UInt8) (hs:shownL (textF Q.W Q.H Q.ink)=sh) (hsn:sh≠ []) (ht:textI [(meanF Q.W Q.H Q.ink).1,(meanF Q.W Q.H Q.ink).2]≠ []):
   scriptF ⟨(joined (deskM x y z) deskT).toArray⟩=([111,107,10,111,107,10,111,107,10]++(textI [(meanF Q.W Q.H Q.ink).1,(meanF Q.W Q.H Q.ink).2]++ [10])++(sh++ [10]),6):=by
 have hL:=linesF_joined (deskM x y z) deskT (desk_letters x y z) (by decide) (by decide) (by simp [deskM])
 obtain ⟨L,hLe⟩: ∃L,linesF ⟨(joined (deskM x y z) deskT).toArray⟩=L:=⟨_,rfl⟩
 have hn:L.length=6:=by rw [←hLe,hL];rfl
 have g0:L.getD 0 ByteArray.empty=⟨(twoL [114,97,109,112] x y).toArray⟩:=by rw [←hLe,hL];rfl
 have g1:L.getD 1 ByteArray.empty=⟨(oneL [98,97,121,101,114] z).toArray⟩:=by rw [←hLe,hL];rfl
 have g2:L.getD 2 ByteArray.empty=⟨#[115,99,114,101,101,110]⟩:=by rw [←hLe,hL];rfl
 have g3:L.getD 3 ByteArray.empty=⟨#[109,101,97,110]⟩:=by rw [←hLe,hL];rfl
 have g4:L.getD 4 ByteArray.empty=⟨#[]⟩:=by rw [←hLe,hL];rfl
 have g5:L.getD 5 ByteArray.empty=⟨#[115,104,111,119]⟩:=by rw [←hLe,hL];rfl
 have ok: ∀k,deskOk (scriptTo L k).1=true:=script_ok L
 have s1:=script_step L 0 newDat [] _ ((P,newDat.2.1,[]),ansOk) rfl g0 (by rw [run_ramp new_ok hx hy,hP];unfold actPic;rw [if_pos h1])
 have k1:=ok 1
 rw [s1] at k1
 have s2:=script_step L 1 _ _ _ ((P,M,[]),ansOk) s1 g1 (by rw [run_bayer k1 hz];unfold actMat;dsimp only;rw [hM,if_pos h2])
 have k2:=ok 2
 rw [s2] at k2
 have s3:=script_step L 2 _ _ _ ((P,M,[Q]),ansOk) s2 g2 (by
   rw [show (⟨#[115,99,114,101,101,110]⟩:ByteArray)=⟨([115,99,114,101,101,110]:List UInt8).toArray⟩ from rfl,run_word k2 (by decide) (by decide) plain_screen]
   unfold actPlate screenT
   dsimp only
   rw [if_neg (by simp),hQ]
   rfl)
 have k3:=ok 3
 rw [s3] at k3
 have s4:=script_step L 3 _ _ _ ((P,M,[Q]),textI [(meanF Q.W Q.H Q.ink).1,(meanF Q.W Q.H Q.ink).2]) s3 g3 (by
   rw [show (⟨#[109,101,97,110]⟩:ByteArray)=⟨([109,101,97,110]:List UInt8).toArray⟩ from rfl,run_word k3 (by decide) (by decide) plain_mean]
   rfl)
 have k4:=ok 4
 rw [s4] at k4
 have s5:=script_step L 4 _ _ _ ((P,M,[Q]),[]) s4 g4 (by rw [run_blank k4])
 have k5:=ok 5
 rw [s5] at k5
 have s6:=script_step L 5 _ _ _ ((P,M,[Q]),sh) s5 g5 (by
   rw [show (⟨#[115,104,111,119]⟩:ByteArray)=⟨([115,104,111,119]:List UInt8).toArray⟩ from rfl,run_word k5 (by decide) (by decide) plain_show]
   unfold actLast
   dsimp only
   rw [if_neg (by simp),showT_is]
   show ((P,M,[Q]),shownL (textF Q.W Q.H Q.ink))=_
   rw [hs])
 unfold scriptF
 rw [hLe,hn,if_neg (by omega),s6]
 dsimp only
 rw [if_neg (by decide),if_neg ht,if_pos rfl,if_neg hsn]
 simp [ansOk]
theorem one_text (w:World) (d:Nat) (hd:d<256):Sem.run Tryz.prog (convert 22 9 (.slice (some ⟨w.heap.size,0,none⟩) 1 1)) (w.alloc (.cells #[.int .u8 (d:Int)] 5))= .ok (.string ⟨#[UInt8.ofNat d]⟩) (w.alloc (.cells #[.int .u8 (d:Int)] 5)):=by
 have h:=run_convert_bytes_back (P:=Tryz.prog) (w.alloc (.cells #[.int .u8 (d:Int)] 5)) 22 9 5 ⟨w.heap.size,0,none⟩ 1 [UInt8.ofNat d] Tryz.underlying22 Tryz.underlying5 Tryz.underlying9 (fun j hj=>by
   obtain rfl:j=0:=by simpa using hj
   have h:=(Blk.new w 5 #[.int .u8 (d:Int)]).cell 0
   rw [show (Addr.mk w.heap.size 0 none).add 0=⟨w.heap.size,0,none⟩ by simp [Addr.add],h]
   have e:(UInt8.ofNat d).toNat=d:=by rw [UInt8.toNat_ofNat'];omega
   simp [e])
 exact h
theorem catL (a b:List UInt8):(⟨a.toArray⟩:ByteArray)++(⟨b.toArray⟩:ByteArray)=⟨(a++b).toArray⟩:=by
 apply ByteArray.ext
 simp
theorem dec_big {a:Nat} (h: ¬a<10):Lib.decDigits a=Lib.decDigits (a/10)++ [UInt8.ofNat (48+a % 10)]:=by rw [Lib.decDigits,dif_neg h]
theorem dec_small {a:Nat} (h:a<10):Lib.decDigits a=[UInt8.ofNat (48+a)]:=by rw [Lib.decDigits,dif_pos h]
theorem itoa_nat (u:Nat):Lib.itoa (u:Int)=Lib.decDigits u:=by unfold Lib.itoa;rw [if_neg (by omega)];rfl
theorem dec_tail {u a:Nat} {t:List UInt8} (h:Lib.decDigits u=Lib.decDigits a++t) (hu:u<18446744073709551616):t.length≤20:=by
 have h1:=congrArg List.length h
 rw [Lib.decDigits_length,List.length_append] at h1
 have:=Lib.nDigits_le20 u hu
 omega
set_option maxRecDepth 100000 in
set_option maxHeartbeats 1600000 in
theorem laws_decimal (u:Nat) (w:World) (hu:u≤9223372036854775807):
   Calls Tryz.prog 6 #[.int .i64 (u:Int)] w fun e w'=>e= .returned (.string ⟨(Lib.itoa u).toArray⟩)∧Below w.heap.size w w':=by
 go_enter Tryz.func6,Tryz.ntmps6
 go_wp2_with fail
 go_loopw [0,3] (fun v s wr=> ∃(a:Nat) (t:List UInt8),v= .int .i64 (a:Int)∧s= .string ⟨t.toArray⟩∧a≤u∧Lib.decDigits u=Lib.decDigits a++t∧Below w.heap.size w wr) (fun v _ _=>(intOf v).toNat)
 case atStart=>exact ⟨u,[],rfl,rfl,Nat.le_refl _,by simp,Below.refl _ _⟩
 case round=>
   obtain ⟨a,t,rfl,rfl,ha,ht,hb⟩:=hrel
   have HB:=Lib.hid hb
   have HT:=Lib.hid ht
   have hl:t.length≤20:=dec_tail ht (by omega)
   clear hb ht
   by_cases h9:9<a
   · have h9i:(9:Int)<(a:Int):=by omega
     obtain ⟨m,hm,hm10,hmm⟩: ∃m:Nat,(a:Int) % 10=(m:Int)∧m<10∧Hid (m=a % 10):=⟨a % 10,by omega,by omega,Lib.hid rfl⟩
     have hc:=one_text wr (48+m) (by omega)
     obtain ⟨dg,hdg⟩: ∃dg,UInt8.ofNat (48+m)=dg:=⟨_,rfl⟩
     rw [show ((48+m:Nat):Int)=48+(m:Int) by omega,hdg] at hc
     have HD:Hid (Lib.decDigits a=Lib.decDigits (a/10)++ [dg]):=Lib.hid (by rw [dec_big (by omega),←hdg,hmm.out])
     clear hdg hmm
     have hw8:IntKind.u8.wrap (48+(m:Int))=48+(m:Int):=by rw [IntKind.wrap_u8];omega
     go_wp2_with fail
     exact ⟨⟨a/10,dg::t,by go_num,congrArg Value.string (catL [dg] t),by omega,by rw [HT.out,HD.out];simp,bAlloc HB.out _⟩,by simp [intOf];omega⟩
   · have h9i: ¬(9:Int)<(a:Int):=by omega
     have hc:=one_text wr (48+a) (by omega)
     obtain ⟨dg,hdg⟩: ∃dg,UInt8.ofNat (48+a)=dg:=⟨_,rfl⟩
     rw [show ((48+a:Nat):Int)=48+(a:Int) by omega,hdg] at hc
     have HD:Hid (Lib.decDigits a=[dg]):=Lib.hid (by rw [dec_small (by omega),←hdg])
     clear hdg
     have hw8:IntKind.u8.wrap (48+(a:Int))=48+(a:Int):=by rw [IntKind.wrap_u8];omega
     go_wp2_with fail
     go_ret
     exact ⟨by rw [itoa_nat,HT.out,HD.out];exact congrArg (fun x=>Ending.returned (Value.string x)) (catL [dg] t),bAlloc HB.out _⟩
end Go.Proofs.YtanccoopbgamdaaGreatDoor
namespace Go.Proofs.YtanccoopbgamdaaGreatDoor.xDesk
open Go.ChangeShapes Go.WideShapes Go.ChangeAt Go.RowKit
set_option linter.unusedVariables false
set_option linter.unusedSimpArgs false
theorem desk_text (x y z:Int):(⟨#[114,97,109,112,32]⟩:ByteArray)++⟨(Lib.itoa x).toArray⟩++⟨#[32]⟩++⟨(Lib.itoa y).toArray⟩++⟨#[10,98,97,121,101,114,32]⟩++⟨(Lib.itoa z).toArray⟩++⟨#[10,115,99,114,101,101,110,10,109,101,97,110,10,10,115,104,111,119]⟩=⟨(joined (deskM x y z) deskT).toArray⟩:=by
 apply ByteArray.ext
 simp [ByteArray.data_append,joined,deskM,deskT,twoL,oneL]
set_option maxRecDepth 100000 in
set_option maxHeartbeats 800000 in
theorem no0 (ad0:Option Addr) (n0 cap0:Nat) (bs0:List Int) (w:World) (h:1048576<n0) (hl:n0≤9223372036854775807):
   Calls Tryz.prog 3 #[.slice ad0 n0 cap0] w fun e w'=>e= .returned (.bool true)∧Below w.heap.size w w':=by
 have h1:(1048576:Int)<(n0:Int):=by omega
 go_enter Tryz.func3,Tryz.ntmps3
 go_wp2_with fail
 go_ret
 exact ⟨rfl,Below.refl _ _⟩
end Go.Proofs.YtanccoopbgamdaaGreatDoor.xDesk
namespace Go.Proofs.YtanccoopbgamdaaGreatDoor.xDesk
open Go.RowKit
set_option linter.unusedVariables false
set_option linter.unusedSimpArgs false
theorem size_at {x y:Nat} (hx:1≤x∧x≤20) (hy:1≤y∧y≤9):sizeOk (x:Int) (y:Int)=true:=by
 have h1:(x:Int)*(y:Int)≤20*9:=Int.mul_le_mul (by omega) (by omega) (by omega) (by omega)
 unfold sizeOk
 rw [decide_eq_true_iff]
 exact ⟨by omega,by omega,by omega,by omega,by omega⟩
theorem ramp_at {x y:Nat} (hx:1≤x∧x≤20) (hy:1≤y∧y≤9):picOk (rampF x y).1.W (rampF x y).1.H (rampF x y).1.ink 255=true∧(rampF x y).1.W=x∧(rampF x y).1.H=y:=by
 have hs:=size_at hx hy
 obtain ⟨h1,h2,_⟩:=toNat_mul hs
 rw [rampF_yes hs h1]
 refine ⟨picOk_mk hs (gen_len _ _) h1 (within_genV (fun i _=>?_)),rfl,rfl⟩
 unfold rampG
 split
 · rename_i hW
   have e1:0≤(i:Int) % (x:Int):=Int.emod_nonneg _ (by omega)
   have e2:(i:Int) % (x:Int)<x:=Int.emod_lt_of_pos _ (by omega)
   have e3:(i:Int) % (x:Int)*255≤255*((x:Int) - 1):=by omega
   exact ⟨Int.ediv_nonneg (by omega) (by omega),Int.ediv_le_of_le_mul (by omega) e3⟩
 · omega
theorem bayer_at {z:Nat} (hz:z≤3):matOk (bayerF z).1.W (bayerF z).1.H (bayerF z).1.ranks=true:=by
 rw [bayerF_yes (by omega)]
 exact (bayer_ok z (by omega)).1
theorem plate_at {x y z:Nat} {P:Pic} {M:Mat} {Q:Pic} (hx:1≤x∧x≤20) (hy:1≤y∧y≤9) (hz:z≤3) (hP:(rampF x y).1=P) (hM:(bayerF z).1=M) (hQ:screenF M.W M.H M.ranks P.W P.H P.ink=Q):
   picOk P.W P.H P.ink 255=true∧matOk M.W M.H M.ranks=true∧picOk Q.W Q.H Q.ink 1=true∧Q.W=x∧Q.H=y:=by
 obtain ⟨p1,p2,p3⟩:=ramp_at hx hy
 have m1:=bayer_at hz
 rw [hP] at p1 p2 p3
 rw [hM] at m1
 obtain ⟨hs,hq,hw⟩:=picOk_bd rfl p1
 refine ⟨p1,m1,?_⟩
 rw [←hQ,screenF_yes rfl rfl m1 p1]
 exact ⟨picOk_mk hs (gen_len _ _) hq (within_genV (fun i _=>by unfold dotG;split <;>omega)),p2,p3⟩
theorem text_at {x y:Nat} {Q:Pic} (hx:1≤x∧x≤20) (hy:1≤y∧y≤9) (h:picOk Q.W Q.H Q.ink 1=true) (hW:Q.W=x) (hH:Q.H=y):2≤(textF Q.W Q.H Q.ink).length∧(textF Q.W Q.H Q.ink).length≤1000:=by
 unfold textF
 rw [if_pos h,textG_len,hW,hH]
 simp only [Int.toNat_natCast]
 have h1:(x+1)*y≤21*9:=Nat.mul_le_mul (by omega) (by omega)
 have h2:(1+1)*1≤(x+1)*y:=Nat.mul_le_mul (by omega) (by omega)
 omega
theorem mean_at {Q:Pic} (h:picOk Q.W Q.H Q.ink 1=true): ∃u v:Nat,(meanF Q.W Q.H Q.ink).1=(u:Int)∧(meanF Q.W Q.H Q.ink).2=(v:Int)∧u≤1048576∧v≤1048576:=by
 obtain ⟨h1,h2,hw,_⟩:=pic_size (picOk_le h)
 have hs:=isum_fits hw
 unfold meanF
 rw [if_pos (picOk_le h)]
 have a:=div_fits (g:=Nat.gcd (isum Q.ink).toNat Q.ink.length) hs.1 hs.2
 have b:=div_fits (a:=(Q.ink.length:Int)) (g:=Nat.gcd (isum Q.ink).toNat Q.ink.length) (M:=1024) (by omega) (by omega)
 exact ⟨(isum Q.ink/(Nat.gcd (isum Q.ink).toNat Q.ink.length:Nat)).toNat,((Q.ink.length:Int)/(Nat.gcd (isum Q.ink).toNat Q.ink.length:Nat)).toNat,by dsimp only;omega,by dsimp only;omega,by omega,by omega⟩
theorem textI_two (u v:Int):textI [u,v]=Lib.itoa u++32::Lib.itoa v:=by
 unfold textI
 rw [List.map_cons,List.map_cons,List.map_nil,Lib.join_cons]
 simp [Lib.joinTail]
theorem script_short (x y z:Nat) (hx:x≤1000) (hy:y≤1000) (hz:z≤1000):(⟨(joined (deskM x y z) deskT).toArray⟩:ByteArray).size≤200:=by
 have lx:(Lib.itoa (x:Int)).length≤21:=Lib.itoa_length_le _ (by omega) (by omega)
 have ly:(Lib.itoa (y:Int)).length≤21:=Lib.itoa_length_le _ (by omega) (by omega)
 have lz:(Lib.itoa (z:Int)).length≤21:=Lib.itoa_length_le _ (by omega) (by omega)
 show (joined (deskM x y z) deskT).toArray.size≤200
 rw [List.size_toArray]
 simp only [joined,deskM,deskT,twoL,oneL,List.length_append,List.length_cons,List.length_nil]
 omega
theorem answer_at {x y z:Nat} {P:Pic} {M:Mat} {Q:Pic} {T:List UInt8} {u v:Nat} (hx:1≤x∧x≤20) (hy:1≤y∧y≤9) (hz:z≤3) (hP:(rampF x y).1=P) (hM:(bayerF z).1=M) (hQ:screenF M.W M.H M.ranks P.W P.H P.ink=Q)
   (hT:textF Q.W Q.H Q.ink=T) (hu:(meanF Q.W Q.H Q.ink).1=(u:Int)) (hv:(meanF Q.W Q.H Q.ink).2=(v:Int)):
   scriptF ⟨(joined (deskM x y z) deskT).toArray⟩=([111,107,10,111,107,10,111,107,10]++Lib.itoa u++ [32]++Lib.itoa v++ [10]++shownL T++ [10],6):=by
 obtain ⟨p1,m1,q1,q2,q3⟩:=plate_at hx hy hz hP hM hQ
 obtain ⟨t1,t2⟩:=text_at hx hy q1 q2 q3
 have ht:textI [(meanF Q.W Q.H Q.ink).1,(meanF Q.W Q.H Q.ink).2]≠ []:=by rw [textI_two];simp
 have hn:shownL T≠ []:=by
   intro e
   have h:=congrArg List.length e
   unfold shownL at h
   rw [List.length_map,List.length_take] at h
   rw [hT] at t1
   simp at h
   omega
 rw [desk_script x y z P (mp M) Q (by unfold InI64;omega) (by unfold InI64;omega) (by unfold InI64;omega) hP (by rw [hM]) hQ p1 m1 (shownL T) (by rw [hT]) hn ht,textI_two,hu,hv]
 simp
end Go.Proofs.YtanccoopbgamdaaGreatDoor.xDesk
