/-
  Contracts and plain facts on which the theorem of this claim rests, text 47.
-/
import Derived.Test.YtmikajnpgcabfaaGreatDoorSC2
import Derived.Test.YtmikajnpgcabfaaGreatDoorSC4
import Derived.Test.YtmikajnpgcabfaaGreatDoorSC9
import Derived.Test.YtmikajnpgcabfaaGreatDoorSC39
import Derived.Test.YtmikajnpgcabfaaGreatDoorSC46
namespace Go.Proofs.YtmikajnpgcabfaaGreatDoor
open Go.ChangeShapes Go.WideShapes Go.ChangeAt Go.RowKit
set_option linter.unusedVariables false
set_option linter.unusedSimpArgs false
theorem short_at (w:World) (T:Nat) (M:Array Value) (B n:Nat) (hn:M.size=n) (h: ∀v,v ∈ M.toList→ ∃s:ByteArray,v= .string s∧s.size≤B) (r:Nat) (hr:r<n): ∃s:ByteArray,(w.alloc (.cells M T)).cell? ⟨w.heap.size,r,none⟩=some (.string s)∧s.size≤B:=by
 have hlt:r<M.size:=by omega
 obtain ⟨s,e,hs⟩:=h M[r] (by simp)
 refine ⟨s,?_,hs⟩
 rw [←e]
 have:=(Blk.new w T M).cell r
 rw [this]
 simp [hlt]
def shortL (B:Nat):List Value→Prop
 | []=>True
 | .string s::r=>s.size≤B∧shortL B r
 | _::_=>False
def shortB (B:Nat):List Value→Bool
 | []=>true
 | .string s::r=>decide (s.size≤B) && shortB B r
 | _::_=>false
theorem shortL_of (B:Nat): ∀l,shortB B l=true→shortL B l
 | [],_=>trivial
 | .string s::r,h=>by
   simp only [shortB,Bool.and_eq_true,decide_eq_true_eq] at h
   exact ⟨h.1,shortL_of B r h.2⟩
 | .int _ _::_,h=>by simp [shortB] at h
 | .bool _::_,h=>by simp [shortB] at h
 | .slice _ _ _::_,h=>by simp [shortB] at h
 | .pointer _::_,h=>by simp [shortB] at h
 | .agg _::_,h=>by simp [shortB] at h
 | .tuple _::_,h=>by simp [shortB] at h
theorem shortL_mem (B:Nat): ∀l,shortL B l→ ∀v,v ∈ l→ ∃s:ByteArray,v= .string s∧s.size≤B
 | [],_,_,h=>by cases h
 | .string s::r,h,v,hv=>by
   rcases List.mem_cons.1 hv with rfl | hv
   · exact ⟨s,rfl,h.1⟩
   · exact shortL_mem B r h.2 v hv
theorem below_short (c:Nat) (ac:Option Addr) (nc capc:Nat) (bs:List Int) (n:Nat) (w:World) (T:Nat) (M:Array Value) (B:Nat) (hc:Cur w c ac nc capc bs) (h1:1≤n) (h2:n≤256) (hn:M.size=n) (hM:shortL B M.toList):
   Calls Tryz.prog 43 #[.pointer (some ⟨c,0,none⟩), .int .i64 n] (w.alloc (.cells M T)) fun e w'=> ∃(v:Nat) (s:ByteArray),e= .returned (.int .i64 v)∧v<n∧w'.cell? ⟨w.heap.size,v,none⟩=some (.string s)∧s.size≤B∧Cur w' c ac nc capc bs∧w.grownBy w' (some c):=by
 have hlt:c<w.heap.size:=hc.lt
 refine (spec_l01Below c ac nc capc bs n _ (hc.alloc _) (by omega) (by omega)).mono ?_
 rintro e w1 ⟨v,rfl,v0,v1,hc1,hg1⟩
 obtain ⟨r,rfl⟩: ∃r:Nat,v=r:=⟨v.toNat,by omega⟩
 obtain ⟨s,hs,hz⟩:=short_at w T M B n hn (shortL_mem B _ hM) r (by omega)
 exact ⟨r,s,rfl,by omega,hg1.cell hs (by intro e;have:=Option.some.inj e;simp at this;omega),hz,hc1,grown_trans (World.grownBy_alloc _ _ _) hg1⟩
set_option maxRecDepth 100000 in
set_option maxHeartbeats 1600000 in
theorem spec_l8Line (c:Nat) (ac:Option Addr) (nc capc:Nat) (bs:List Int) (w:World) (hc:Cur w c ac nc capc bs):
   Calls Tryz.prog 44 #[.pointer (some ⟨c,0,none⟩)] w fun e w'=> ∃s:ByteArray,e= .returned (.string s)∧s.size≤64∧Cur w' c ac nc capc bs∧w.grownBy w' (some c):=by
 have HC:=Lib.hid hc
 clear hc
 go_enter Tryz.func44,Tryz.ntmps44
 go_wp2_with fail
 refine (below_short c ac nc capc bs 43 w _ _ 62 HC.out (by omega) (by omega) rfl (shortL_of _ _ (by kernel_rfl))).mono ?_
 rintro e w1 ⟨v,s,rfl,v1,hs,hz,hc1,hg1⟩
 have HC1:=Lib.hid hc1
 have G1:=Lib.hid hg1
 clear hc1 hg1
 go_wp2_with fail
 refine (spec_l01Once c ac nc capc bs 12 _ HC1.out (by omega) (by omega)).mono ?_
 rintro e w2 ⟨b,rfl,hc2,hg2⟩
 have HC2:=Lib.hid hc2
 have G2:=Lib.hid (grown_trans G1.out hg2)
 clear hc2 hg2
 cases b
 · go_wp2_with fail
   go_ret
   exact ⟨s,rfl,by omega,HC2.out,G2.out⟩
 · go_wp2_with fail
   refine (below_short c ac nc capc bs 12 _ _ _ 64 HC2.out (by omega) (by omega) rfl ?_).mono ?_
   · simp only [shortL]
     refine ⟨?_,?_,?_,?_,?_,?_,?_,?_,?_,?_,?_,?_,trivial⟩ <;>(try decide)
     · rw [ByteArray.size_append]
       show s.size+1≤64
       omega
     · rw [ByteArray.size_append]
       show 1+s.size≤64
       omega
     · rw [ByteArray.size_append]
       show s.size+1≤64
       omega
   · rintro e w3 ⟨v3,s3,rfl,v13,hs3,hz3,hc3,hg3⟩
     have HC3:=Lib.hid hc3
     have G3:=Lib.hid (grown_trans G2.out hg3)
     clear hc3 hg3
     go_wp2_with fail
     go_ret
     exact ⟨_,rfl,hz3,HC3.out,G3.out⟩
theorem size_one (s:ByteArray) (b:UInt8):(s++⟨#[b]⟩).size=s.size+1:=by
 rw [ByteArray.size_append]
 rfl
set_option maxRecDepth 100000 in
set_option maxHeartbeats 1600000 in
theorem spec_DrawRunScript (ac:Option Addr) (nc capc:Nat) (bs:List Int) (w:World) (hl:bs.length=nc) (hr:RdU w.heap.size w ac bs) (hn:nc≤4611686018427387904):
   Calls Tryz.prog 15 #[.slice ac nc capc] w fun e w'=> ∃s:ByteArray,e= .returned (.string s)∧s.size≤1000∧Below w.heap.size w w':=by
 have HR:=Lib.hid hr
 clear hr
 go_enter Tryz.func15,Tryz.ntmps15
 go_wp2_with fail
 refine (spec_l01New ac nc capc bs w hl HR.out hn).mono ?_
 rintro e w1 ⟨c,rfl,hcl,hc1,hb1⟩
 have HC1:=Lib.hid hc1
 have HB1:=Lib.hid hb1
 clear hc1 hb1
 go_wp2_with fail
 refine (spec_l01Below c ac nc capc bs 12 _ HC1.out (by omega) (by omega)).mono ?_
 rintro e w2 ⟨v,rfl,v0,v1,hc2,hg2⟩
 have HC2:=Lib.hid hc2
 have HB2:=Lib.hid (HB1.out.grown hg2 HB1.out.size (fun k e=>by cases e;exact hcl))
 clear hc2 hg2
 go_wp2_with fail
 go_loopw [4,5] (fun o i wr=> ∃(m:Nat) (s:ByteArray),o= .string s∧i= .int .i64 m∧m≤11∧s.size+65*m≤715∧Cur wr c ac nc capc bs∧Below w.heap.size w wr) (fun _ i _=>(intOf i).toNat)
 case atStart=>exact ⟨v.toNat,_,rfl,by congr 1;omega,by omega,by show 0+65*v.toNat≤715;omega,HC2.out,HB2.out⟩
 case round=>
   obtain ⟨m,s,rfl,rfl,hm,hz,hcr,hbr⟩:=hrel
   have HCr:=Lib.hid hcr
   have HBr:=Lib.hid hbr
   clear hcr hbr
   by_cases hlt:0<m
   · go_wp2_with fail
     refine (spec_l8Line c ac nc capc bs _ HCr.out).mono ?_
     rintro e w4 ⟨l,rfl,hlz,hc4,hg4⟩
     have HC4:=Lib.hid hc4
     have HB4:=Lib.hid (HBr.out.grown hg4 HBr.out.size (fun k e=>by cases e;exact hcl))
     clear hc4 hg4
     have hsz:(s++l++⟨#[10]⟩).size=s.size+l.size+1:=by rw [size_one,ByteArray.size_append]
     have hw1:IntKind.i64.wrap ((m:Int) - 1)=((m - 1:Nat):Int):=by rw [IntWalk.i64_in _ (by omega)];omega
     have HSZ:=Lib.hid hsz
     clear hsz
     go_wp2_with fail
     go_roundw
     case rel=>exact ⟨m - 1,_,rfl,by first | rfl | exact congrArg _ hw1,by omega,by rw [HSZ.out];omega,HC4.out,HB4.out⟩
     case measure=>simp [intOf];omega
   · have hm0:m=0:=by omega
     subst hm0
     go_wp2_with fail
     refine (spec_l01Once c ac nc capc bs 8 _ HCr.out (by omega) (by omega)).mono ?_
     rintro e w5 ⟨b,rfl,hc5,hg5⟩
     have HC5:=Lib.hid hc5
     have HB5:=Lib.hid (HBr.out.grown hg5 HBr.out.size (fun k e=>by cases e;exact hcl))
     clear hc5 hg5
     have hsz:(s++⟨#[115,104,111,119]⟩).size=s.size+4:=by rw [ByteArray.size_append];rfl
     have HSZ:=Lib.hid hsz
     clear hsz
     cases b <;>(
     go_wp2_with fail
     refine (spec_l01Once c ac nc capc bs 20 _ HC5.out (by omega) (by omega)).mono ?_
     rintro e w6 ⟨b6,rfl,hc6,hg6⟩
     have HC6:=Lib.hid hc6
     have HB6:=Lib.hid (HB5.out.grown hg6 HB5.out.size (fun k e=>by cases e;exact hcl))
     clear hc6 hg6
     cases b6
     · go_wp2_with fail
       go_ret
       exact ⟨_,rfl,by first | omega | (rw [HSZ.out];omega),HB6.out⟩
     · go_wp2_with fail
       go_loopw [4,6] (fun o i wr=> ∃(m:Nat) (s:ByteArray),o= .string s∧i= .int .i64 m∧m≤41∧s.size≤719+m∧Cur wr c ac nc capc bs∧Below w.heap.size w wr) (fun _ i _=>41 - (intOf i).toNat)
       case atStart=>exact ⟨0,_,rfl,rfl,by omega,by first | omega | (rw [HSZ.out];omega),HC6.out,HB6.out⟩
       case round=>
         obtain ⟨m,s,rfl,rfl,hm,hz,hcr,hbr⟩:=hrel
         have HCr:=Lib.hid hcr
         have HBr:=Lib.hid hbr
         clear hcr hbr
         go_wp2_with fail
         refine (spec_l01Below c ac nc capc bs 3 _ HCr.out (by omega) (by omega)).mono ?_
         rintro e w7 ⟨v7,rfl,u0,u1,hc7,hg7⟩
         have HC7:=Lib.hid hc7
         have HB7:=Lib.hid (HBr.out.grown hg7 HBr.out.size (fun k e=>by cases e;exact hcl))
         clear hc7 hg7
         have HSO:=Lib.hid (size_one s 10)
         by_cases hlt:(m:Int)<39+v7
         · go_wp2_with fail
           go_roundw
           case rel=>exact ⟨m+1,_,rfl,rfl,by omega,by rw [HSO.out];omega,HC7.out,HB7.out⟩
           case measure=>simp [intOf];omega
         · go_wp2_with fail
           go_ret
           exact ⟨_,rfl,by omega,HB7.out⟩)
end Go.Proofs.YtmikajnpgcabfaaGreatDoor
namespace Go.Proofs.YtmikajnpgcabfaaGreatDoor
open Go.RowKit
set_option linter.unusedVariables false
set_option linter.unusedSimpArgs false
theorem get_list (s:ByteArray) (k:Nat) (h:k<s.size):s.data.toList[k]?=some (s.get! k):=by
 rcases s with ⟨bs⟩
 have h2:k<bs.size:=h
 show bs.toList[k]?=some (bs[k]!)
 rw [Array.getElem?_toList,Array.getElem?_eq_getElem h2,getElem!_pos bs k h2]
theorem RowS.empty (w:World):RowS (w.alloc (.cells #[] 9)) w.heap.size (some ⟨w.heap.size,0,Option.none⟩) 0 0 []:=
 ⟨by simp, .inr ⟨w.heap.size,0,#[],rfl,Nat.le_refl _,heap_alloc_new w _,Nat.le_refl _,by unfold maxLen;omega,by simp,by simp⟩⟩
end Go.Proofs.YtmikajnpgcabfaaGreatDoor
namespace Go.Proofs.YtmikajnpgcabfaaGreatDoor.xScript
open Go.ChangeShapes Go.WideShapes Go.ChangeAt Go.RowKit
set_option linter.unusedVariables false
set_option linter.unusedSimpArgs false
def allLines (s:ByteArray):List ByteArray:=if (linesTo s s.size).2<s.size then (linesTo s s.size).1++ [s.extract (linesTo s s.size).2 s.size] else (linesTo s s.size).1
theorem allLines_is (s:ByteArray):allLines s=if (linesTo s s.size).2<s.size then (linesTo s s.size).1++ [s.extract (linesTo s s.size).2 s.size] else (linesTo s s.size).1:=rfl
theorem many (s:ByteArray) (h:40<(allLines s).length):scriptF s=([],-1):=by
 have:40<(linesF s).length:=by
   unfold linesF
   split
   · rw [List.length_take];omega
   · exact h
 unfold scriptF
 rw [if_pos this]
theorem few (s:ByteArray) (h: ¬40<(allLines s).length):scriptF s=((scriptTo (allLines s) (allLines s).length).2,((allLines s).length:Int)):=by
 have:linesF s=allLines s:=by
   unfold linesF
   rw [if_neg (fun g=>h (by
     unfold allLines
     split
     · rw [List.length_append];omega
     · exact g))]
   rfl
 unfold scriptF
 rw [this,if_neg h]
theorem all_size (s l:ByteArray) (h:l ∈ allLines s):l.size≤s.size:=by
 unfold allLines at h
 split at h
 · rcases List.mem_append.1 h with h | h
   · exact linesTo_size s _ l h
   · rw [List.mem_singleton.1 h,ByteArray.size_extract];omega
 · exact linesTo_size s _ l h
theorem lines_yes {s:ByteArray} {p:Nat} (h:p<s.size) (hc:(s[p]'h).toNat=10):linesTo s (p+1)=((linesTo s p).1++ [s.extract (linesTo s p).2 p],p+1):=by
 have e:s.get! p=s[p]'h:=by
   have:=get_list s p h
   rw [List.getElem?_eq_getElem (by simpa using h)] at this
   exact (Option.some.inj this).symm
 rw [linesTo_succ,if_pos (by rw [e];exact hc)]
theorem lines_no {s:ByteArray} {p:Nat} (h:p<s.size) (hc: ¬(s[p]'h).toNat=10):linesTo s (p+1)=linesTo s p:=by
 have e:s.get! p=s[p]'h:=by
   have:=get_list s p h
   rw [List.getElem?_eq_getElem (by simpa using h)] at this
   exact (Option.some.inj this).symm
 rw [linesTo_succ,if_neg (by rw [e];exact hc)]
theorem cat3 (T A:List UInt8):(⟨T.toArray⟩:ByteArray)++⟨A.toArray⟩++⟨#[10]⟩=⟨(T++A++ [10]).toArray⟩:=by
 apply ByteArray.ext
 simp [ByteArray.data_append]
set_option maxRecDepth 100000 in
set_option maxHeartbeats 800000 in
theorem no0 (ad0:Option Addr) (n0 cap0:Nat) (bs0:List Int) (w:World) (h:1048576<n0) (hl:n0≤9223372036854775807):
   Calls Tryz.prog 4 #[.slice ad0 n0 cap0] w fun e w'=>e= .returned (.bool true)∧Below w.heap.size w w':=by
 have h1:(1048576:Int)<(n0:Int):=by omega
 go_enter Tryz.func4,Tryz.ntmps4
 go_wp2_with fail
 go_ret
 exact ⟨rfl,Below.refl _ _⟩
set_option maxRecDepth 100000 in
set_option maxHeartbeats 3200000 in
theorem ok (ad0 : Option Addr) (n0 cap0:Nat) (bs0:List Int) (w:World) (hn0:bs0.length=n0) (hr0:RdU w.heap.size w ad0 bs0) (h:n0≤1048576) (hL:LaidW w):
   Calls Tryz.prog 4 #[.slice ad0 n0 cap0] w fun e w'=>e= .returned (.bool true)∧Below w.heap.size w w':=by
 have HLW:=Lib.hid hL
 have HR0:=Lib.hid hr0
 clear hL hr0
 go_enter Tryz.func4,Tryz.ntmps4
 go_wp2_with fail
 refine (spec_DrawRunScript ad0 n0 cap0 bs0 w hn0 HR0.out (by omega)).mono ?_
 rintro e w1 ⟨s,rfl,hz,hb⟩
 have HB1:=Lib.hid hb
 have KE:=Lib.hid (RowS.empty w1)
 have HB1a:=Lib.hid (Joins.below_alloc1 w1 (.cells #[] 9))
 have HZ1:=Lib.hid hb.size
 clear hb
 go_wp2_with fail
 go_loopw [4,5,6] (fun l t i wr=> ∃(p n c:Nat) (ad:Option Addr),p≤s.size∧i= .int .i64 p∧l= .slice ad n c∧t= .int .i64 ((linesTo s p).2:Nat)∧RowS wr w1.heap.size ad n c (linesTo s p).1∧Below w1.heap.size w1 wr) (fun _ _ i _=>s.size - (intOf i).toNat)
 case atStart=>exact ⟨0,0,0,_,Nat.zero_le _,rfl,rfl,rfl,KE.out,HB1a.out⟩
 case round=>
   clear KE
   obtain ⟨p,n,c,ad,hp,rfl,rfl,rfl,hrow,hb⟩:=hrel
   have HR:=Lib.hid hrow
   have HB:=Lib.hid hb
   have hll:=hrow.len
   have hnp:n≤p:=by rw [←hll];exact linesTo_len s p
   have hst:=linesTo_start s p
   clear hrow hb hll
   by_cases hlt:p<s.size
   · obtain ⟨b,hsb⟩: ∃b,s[p]'hlt=b:=⟨_,rfl⟩
     by_cases hc:b.toNat=10
     · have e32:(((b.toNat:Nat):Int)==10)=true:=by rw [hc];rfl
       have HE:=Lib.hid (lines_yes hlt (by rw [hsb];exact hc))
       obtain ⟨st,hstd⟩: ∃st,(linesTo s p).2=st:=⟨_,rfl⟩
       rw [hstd] at hst HE⊢
       clear hstd
       go_wp2_with (at_builtin;refine wp_appendStr _ rfl (.tmp 31) (.tmp 36) rfl w1.heap.size n c ad (linesTo s p).1 rfl (HR.out.alloc _) wr.heap.size (s.extract st p) rfl (by go_simp) (by omega) (by have:=HB.out.size;simp;omega) ?_;intro ad2 cap2 w5 ho5 hg5)
       have HW5:=Lib.hid ((HB.out.alloc HB.out.size _).grown hg5 (by have:=HB.out.size;simp;omega) (fun b hb=>(HR.out.block b hb).1))
       have HO5:=Lib.hid ho5
       clear ho5 hg5
       go_roundw
       case rel=>exact ⟨p+1,n+1,cap2,ad2,by omega,by go_num,rfl,by rw [HE.out];go_num,by rw [HE.out];exact HO5.out,HW5.out⟩
       case measure=>simp [intOf];omega
     · have e32:(((b.toNat:Nat):Int)==10)=false:=by simp;omega
       have HE:=Lib.hid (lines_no hlt (by rw [hsb];exact hc))
       go_wp2_with fail
       go_roundw
       case rel=>exact ⟨p+1,n,c,ad,by omega,by go_num,rfl,by rw [HE.out],by rw [HE.out];exact HR.out,HB.out⟩
       case measure=>simp [intOf];omega
   · obtain rfl:p=s.size:=by omega
     have HG:=Lib.hid (allLines_is s)
     obtain ⟨st,hstd⟩: ∃st,(linesTo s s.size).2=st:=⟨_,rfl⟩
     rw [hstd] at hst HG⊢
     clear hstd
     go_upto_if 43 with (fail)
     go_cut [4] (fun l wr=> ∃(n c:Nat) (ad:Option Addr),l= .slice ad n c∧n≤1001∧RowS wr w1.heap.size ad n c (allLines s)∧Below w1.heap.size w1 wr)
     case first=>
       by_cases hlt2:st<s.size
       · go_wp2_with (at_builtin;refine wp_appendStr _ rfl (.tmp 44) (.tmp 48) rfl w1.heap.size n c ad (linesTo s s.size).1 rfl (HR.out.alloc _) wr.heap.size (s.extract st s.size) rfl (by go_simp) (by omega) (by have:=HB.out.size;simp;omega) ?_;intro ad2 cap2 w5 ho5 hg5)
         have HW5:=Lib.hid ((HB.out.alloc HB.out.size _).grown hg5 (by have:=HB.out.size;simp;omega) (fun b hb=>(HR.out.block b hb).1))
         go_meet
         exact ⟨n+1,cap2,ad2,rfl,by omega,by rw [HG.out,if_pos hlt2];exact ho5,HW5.out⟩
       · go_wp2_with fail
         go_meet
         exact ⟨n,c,ad,rfl,by omega,by rw [HG.out,if_neg hlt2];exact HR.out,HB.out⟩
     case rest =>
       obtain ⟨n2,cc,ad2,rfl,hn2,hrow,hb⟩:=hcut
       have HR2:=Lib.hid hrow
       have HBw:=Lib.hid (bTrans HB1.out hb)
       have HN:=Lib.hid hrow.len
       have HRB:=Lib.hid hrow.block
       have HZ2:=Lib.hid hb.size
       clear hrow hb HR HB HG
       go_wp2_with fail
       refine (impl_RunScript s _ (by omega) (HLW.out.below HBw.out)).mono ?_
       rintro e w3 ⟨rfl,hb⟩
       have HR3:=Lib.hid (HR2.out.below hb)
       have HB3:=Lib.hid (bTrans HBw.out hb)
       have HZ3:=Lib.hid hb.size
       clear hb
       by_cases h40:40<n2
       · rw [many s (by rw [HN.out];exact h40)]
         have h40i:(40:Int)<(n2:Int):=by omega
         go_wp2_with fail
         go_ret
         exact ⟨rfl,HB3.out⟩
       · rw [few s (by rw [HN.out];exact h40),HN.out]
         have h40i: ¬(40:Int)<(n2:Int):=by omega
         have hn40:n2≤40:=by omega
         clear h40
         go_wp2_with fail
         refine (impl_NewDesk _).mono ?_
         rintro e w4 ⟨E0,rfl,ho,hd,hsm,hb⟩
         have HO4:=Lib.hid ho
         have HD4:=Lib.hid hd
         have HS4:=Lib.hid hsm
         have HB4:=Lib.hid (bTrans HB3.out hb)
         have HR4:=Lib.hid (HR3.out.below hb)
         have HZ4:=Lib.hid hb.size
         clear ho hd hsm hb HR3
         unfold Dsk.val
         go_wp2_with fail
         have KG:=Blk.new w4 45 #[.int .i64 E0.P.W, .int .i64 E0.P.H, .slice E0.P.a E0.P.n E0.P.c, .int .i64 E0.M.W, .int .i64 E0.M.H, .slice E0.M.a E0.M.n E0.M.c, .slice E0.a E0.n E0.c]
         have HZ14:Hid (w1.heap.size≤w3.heap.size):=Lib.hid (by have:=HZ3.out;have:=HZ2.out;omega)
         go_loopw [10,67] (fun t i wr=> ∃(k:Nat) (E:Dsk),k≤n2∧i= .int .i64 k∧t= .string ⟨(scriptTo (allLines s) k).2.toArray⟩∧Blk wr w4.heap.size 45 #[.int .i64 E.P.W, .int .i64 E.P.H, .slice E.P.a E.P.n E.P.c, .int .i64 E.M.W, .int .i64 E.M.H, .slice E.M.a E.M.n E.M.c, .slice E.a E.n E.c]∧RdD wr E∧E.dat=(scriptTo (allLines s) k).1∧SmallD E∧RowS wr w1.heap.size ad2 n2 cc (allLines s)∧Below w.heap.size w wr) (fun _ i _=>n2 - (intOf i).toNat)
         case atStart=>exact ⟨0,E0,Nat.zero_le _,rfl,rfl,KG,HO4.out.rd.alloc _,HD4.out,HS4.out,HR4.out.alloc _,bAlloc HB4.out _⟩
         case round=>
           clear KG
           obtain ⟨k,E,hk,rfl,rfl,kg,hrd,hd,hsm,hrs,hb⟩:=hrel
           have KG:=Lib.hid kg
           have HRD:=Lib.hid hrd
           have HD:=Lib.hid hd
           have HSM:=Lib.hid hsm
           have HRS:=Lib.hid hrs
           have HB:=Lib.hid hb
           clear kg hrd hd hsm hrs hb
           by_cases hlt:k<n2
           · obtain ⟨b,off,hae,hbl,hc⟩:=HRS.out.rd k (by rw [HN.out];exact hlt)
             subst hae
             obtain ⟨ln,hln⟩: ∃t,(allLines s)[k]'(by rw [HN.out];exact hlt)=t:=⟨_,rfl⟩
             rw [hln] at hc
             have hlz:ln.size≤1048576:=Nat.le_trans (all_size s ln (by rw [←hln];exact List.getElem_mem _)) (by omega)
             have hlg:(allLines s).getD k ByteArray.empty=ln:=by
               rw [List.getD_eq_getElem?_getD,List.getElem?_eq_getElem (by rw [HN.out];exact hlt),hln];rfl
             have HLG:=Lib.hid hlg
             clear hln hlg
             obtain ⟨l0,c0,c1,c2,c3,c4,c5,c6⟩:=KG.out.c7
             have k0:(0:Int)≤(k:Int):=by omega
             have k1:(k:Int)<(n2:Int):=by omega
             have HOK:Hid (deskOk E.dat=true):=Lib.hid (by rw [HD.out];exact script_ok _ _)
             go_wp2_with fail
             refine (impl_RunLineA E ln wr HRD.out HSM.out (addr_of HRD.out HOK.out) hlz (HLW.out.below HB.out)).mono ?_
             rintro e w5 ⟨E5,rfl,ho5,hd5,hs5,hb5⟩
             have hgb:w4.heap.size<wr.heap.size:=KG.out.lt
             have HO5:=Lib.hid ho5
             have HO5B:=Lib.hid ho5.bd
             have HS5:=Lib.hid hs5
             have KG5:=Lib.hid (KG.out.below' hb5)
             have HRS5:=Lib.hid (HRS.out.below hb5)
             have HB5:=Lib.hid (bTrans HB.out hb5)
             have HZ5:=Lib.hid hb5.size
             obtain ⟨ans,hans⟩: ∃t,(runF E.dat ln).2=t:=⟨_,rfl⟩
             have HAL:Hid (ans.length≤4194304):=Lib.hid (by rw [←hans];exact runF_len ln HOK.out)
             have HSC:Hid (scriptTo (allLines s) (k+1)=(E5.dat,(scriptTo (allLines s) k).2++(if ans=[] then [] else ans++ [10]))):=Lib.hid (by
               conv=>lhs;unfold scriptTo
               rw [HLG.out,←HD.out,hans,hd5])
             rw [hans]
             clear ho5 hd5 hs5 hb5 l0 c0 c1 c2 c3 c4 c5 c6 hans
             obtain ⟨wa,hwa⟩: ∃x,x=w5.alloc (.cells #[.int .i64 E5.P.W, .int .i64 E5.P.H, .slice E5.P.a E5.P.n E5.P.c, .int .i64 E5.M.W, .int .i64 E5.M.H, .slice E5.M.a E5.M.n E5.M.c, .slice E5.a E5.n E5.c] 45):=⟨_,rfl⟩
             have KN:=Lib.hid (Blk.new w5 45 #[.int .i64 E5.P.W, .int .i64 E5.P.H, .slice E5.P.a E5.P.n E5.P.c, .int .i64 E5.M.W, .int .i64 E5.M.H, .slice E5.M.a E5.M.n E5.M.c, .slice E5.a E5.n E5.c])
             have KGa:=Lib.hid (KG5.out.alloc (.cells #[.int .i64 E5.P.W, .int .i64 E5.P.H, .slice E5.P.a E5.P.n E5.P.c, .int .i64 E5.M.W, .int .i64 E5.M.H, .slice E5.M.a E5.M.n E5.M.c, .slice E5.a E5.n E5.c] 45))
             have HOa:=Lib.hid (HO5.out.alloc (.cells #[.int .i64 E5.P.W, .int .i64 E5.P.H, .slice E5.P.a E5.P.n E5.P.c, .int .i64 E5.M.W, .int .i64 E5.M.H, .slice E5.M.a E5.M.n E5.M.c, .slice E5.a E5.n E5.c] 45))
             have HRSa:=Lib.hid (HRS5.out.alloc (.cells #[.int .i64 E5.P.W, .int .i64 E5.P.H, .slice E5.P.a E5.P.n E5.P.c, .int .i64 E5.M.W, .int .i64 E5.M.H, .slice E5.M.a E5.M.n E5.M.c, .slice E5.a E5.n E5.c] 45))
             have HBa:=Lib.hid (bAlloc HB5.out (.cells #[.int .i64 E5.P.W, .int .i64 E5.P.H, .slice E5.P.a E5.P.n E5.P.c, .int .i64 E5.M.W, .int .i64 E5.M.H, .slice E5.M.a E5.M.n E5.M.c, .slice E5.a E5.n E5.c] 45))
             rw [←hwa] at KN KGa HOa HRSa HBa
             unfold Dsk.val
             go_upto_region 23 with fail
             rw [←hwa]
             clear hwa
             obtain ⟨l0,c0,c1,c2,c3,c4,c5,c6⟩:=KGa.out.c7
             obtain ⟨f0,f1,f2,f3,f4,f5,f6⟩:=KGa.out.f7
             obtain ⟨m0,d0,d1,d2,d3,d4,d5,d6⟩:=KN.out.c7
             obtain ⟨w6,hw6⟩: ∃x,x=(((((((wa.setCell ⟨w4.heap.size,0,none⟩ (.int .i64 E5.P.W)).setCell ⟨w4.heap.size,1,none⟩ (.int .i64 E5.P.H)).setCell ⟨w4.heap.size,2,none⟩ (.slice E5.P.a E5.P.n E5.P.c)).setCell ⟨w4.heap.size,3,none⟩ (.int .i64 E5.M.W)).setCell ⟨w4.heap.size,4,none⟩ (.int .i64 E5.M.H)).setCell ⟨w4.heap.size,5,none⟩ (.slice E5.M.a E5.M.n E5.M.c)).setCell ⟨w4.heap.size,6,none⟩ (.slice E5.a E5.n E5.c)):=⟨_,rfl⟩
             have KT6:Hid (KeepT (fun i=>i=w4.heap.size) wa w6):=Lib.hid (by rw [hw6];exact keep_set7 wa w4.heap.size _ _ _ _ _ _ _)
             have KG6:Hid (Blk w6 w4.heap.size 45 #[.int .i64 E5.P.W, .int .i64 E5.P.H, .slice E5.P.a E5.P.n E5.P.c, .int .i64 E5.M.W, .int .i64 E5.M.H, .slice E5.M.a E5.M.n E5.M.c, .slice E5.a E5.n E5.c]):=Lib.hid (by rw [hw6];exact KGa.out.put7 _ _ _ _ _ _ _)
             have HO6:Hid (OwnD w6 wr.heap.size E5):=Lib.hid (HOa.out.keepZ KT6.out (fun b hb e=>by have:=HO5B.out b e;omega))
             have HRS6:Hid (RowS w6 w1.heap.size (some ⟨b,off,none⟩) n2 cc (allLines s)):=Lib.hid (HRSa.out.keep (fun b' hb'=>KT6.out.block b' (HRSa.out.block b' hb').2 (by have:=(HRB.out b' hb').2;have:=HZ4.out;have:=HZ3.out;omega)))
             have HB6:Hid (Below w.heap.size w w6):=Lib.hid (by rw [hw6];exact below_set7 HBa.out (Nat.le_trans HB3.out.size HZ4.out) _ _ _ _ _ _ _)
             go_upto_region 24 with fail
             rw [←hw6]
             clear hw6 l0 c0 c1 c2 c3 c4 c5 c6 f0 f1 f2 f3 f4 f5 f6 m0 d0 d1 d2 d3 d4 d5 d6 KG5 HO5 KGa KN
             by_cases hans:ans=[]
             · have HS2:Hid (scriptTo (allLines s) (k+1)=(E5.dat,(scriptTo (allLines s) k).2)):=Lib.hid (by rw [HSC.out,if_pos hans,List.append_nil])
               subst hans
               go_wp2_with fail
               go_roundw
               case rel=>exact ⟨k+1,E5,by omega,by go_num,by rw [HS2.out],KG6.out,HO6.out.rd,by rw [HS2.out],HS5.out,HRS6.out,HB6.out⟩
               case measure=>simp [intOf];omega
             · have HS2:Hid (scriptTo (allLines s) (k+1)=(E5.dat,(scriptTo (allLines s) k).2++ans++ [10])):=Lib.hid (by rw [HSC.out,if_neg hans,List.append_assoc])
               obtain ⟨a0,ar,har⟩: ∃a0 ar,ans=a0::ar:=by
                 cases ans with
                 | nil=>exact absurd rfl hans
                 | cons x y=>exact ⟨x,y,rfl⟩
               have hem:(⟨ans.toArray⟩:ByteArray).toList.isEmpty=false:=by rw [ByteArray.toList_eq,har];rfl
               have hem2:(⟨ans.toArray⟩:ByteArray).toList≠ []:=by rw [ByteArray.toList_eq,har];simp
               have hem3:ans.isEmpty=false:=by rw [har];rfl
               have HC3:=Lib.hid (cat3 (scriptTo (allLines s) k).2 ans)
               clear har
               have hT:(scriptTo (allLines s) k).2.length≤167772200:=Nat.le_trans (script_len _ k) (Nat.le_trans (Nat.mul_le_mul_right _ (show k≤40 by omega)) (by omega))
               have hA:=HAL.out
               have hb1: ¬9223372036854775807<(scriptTo (allLines s) k).2.length+ans.length:=by omega
               have hb2: ¬9223372036854775807<(scriptTo (allLines s) k).2.length+ans.length+1:=by omega
               go_wp2_with fail
               go_roundw
               case rel=>exact ⟨k+1,E5,by omega,by go_num,by rw [HS2.out,←HC3.out],KG6.out,HO6.out.rd,by rw [HS2.out],HS5.out,HRS6.out,HB6.out⟩
               case measure=>simp [intOf];omega
           · obtain rfl:k=n2:=by omega
             go_wp2_with fail
             go_ret
             exact ⟨rfl,HB.out⟩
theorem okAll: ∀(ad0:Option Addr) (n0 cap0:Nat) (bs0:List Int) (w:World),bs0.length=n0→RdU w.heap.size w ad0 bs0→n0≤9223372036854775807→LaidW w→Calls Tryz.prog 4 #[.slice ad0 n0 cap0] w fun e w'=>e= .returned (.bool true)∧Below w.heap.size w w':=by
 intro ad0 n0 cap0 bs0 w hn hr hl hL
 by_cases b0:n0≤1048576
 case neg=>exact no0 ad0 n0 cap0 bs0 w (by omega) hl
 case pos=>exact ok ad0 n0 cap0 bs0 w hn hr b0 hL
end Go.Proofs.YtmikajnpgcabfaaGreatDoor.xScript
namespace Go.Proofs.YtmikajnpgcabfaaGreatDoor.jScript
open Go.ChangeShapes Go.WideShapes Go.ChangeAt Go.RowKit Go.Lib
set_option linter.unusedVariables false
set_option linter.unusedSimpArgs false
set_option maxRecDepth 100000 in
theorem lifted (ok: ∀(ad0:Option Addr) (n0 cap0:Nat) (bs0:List Int) (w:World),bs0.length=n0→RdU w.heap.size w ad0 bs0→n0≤9223372036854775807→LaidW w→Calls Tryz.prog 4 #[.slice ad0 n0 cap0] w fun e w'=>e= .returned (.bool true)∧Below w.heap.size w w') (os:Os) (started:os.Started) (H:Type) (enc:TypeId × Value→H):
   ReturnsInHanded {} Tryz.checked os 4 .any (fun w args=>(Rows.fnScriptSpec.pre enc Tryz.prog Tryz.f4 [] false w args∧laidMetH Tryz.prog laidZ w)∧sizedMet enc Tryz.prog Tryz.f4 (OpenSpec.ofChange Rows.fnScriptSpec) false w args)
     (Rows.fnScriptSpec.post enc Tryz.prog Tryz.f4 false true false false):=by
 refine returnsZ (C:=Tryz.checked) (X:=fun w _=>laidMetH Tryz.prog laidZ w) (fun _ _ _ hh h=>h.of_heap hh) own started (by kernel_rfl) Tryz.func4
   (ChangeSpec.witness_shaped (enc:=enc) (C:=Tryz.checked) (os:=os) (X:=fun w _=>laidMetH Tryz.prog laidZ w) false (World.laidAll Tryz.prog os laidZ) #[.slice none 0 0] 8 (World.laidAll_os _ _ _)
     (World.shaped_of_ZipB (by kernel_rfl) (by kernel_rfl)) (by kernel_rfl) (by kernel_rfl) (by kernel_rfl)
     (by rw [MakeChecks.laidMetH_plain _ _ _ (by kernel_rfl)];exact laidMet_laidAll _ (by kernel_rfl) (by kernel_rfl))) ?_
 intro W base args ds gs before hval0 hW hL hsh
 have hval: ∀(j:Nat) t v,Tryz.f4.params[j]?=some t→args[j]?=some v→Value.okWide Tryz.prog W .any base t v:=hval0
 have hW':=hW
 have hlt:=hW.lt
 obtain ⟨p,q,hA0,hV,rfl,hfz,hnd⟩:=hW
 have hA:DataW.TrodAll enc Tryz.prog W 0 (fun _=>true) true Tryz.f4.params.toList args.toList ds p:=hA0
 rw [Tryz.params4] at hA hval
 obtain ⟨v0,vs0,d0,ds0,p0,q0,hargs,rfl,rfl,h0,r0⟩:=trodAll_cons hA
 obtain ⟨rfl,rfl,rfl⟩:=trodAll_nil r0
 obtain rfl:args=#[v0]:=by cases args;simp_all
 obtain ⟨rfl,rfl⟩:=trodVars_none hV
 clear hA0 hval0
 obtain ⟨ad0,n0,cap0,bs0,rfl,hn0,hr0,hl0⟩:=open_code (hval 0 22 v0 rfl rfl) h0 (fun x hx=>hlt x (by simp [hx]))
 have fin: ∀(e:Ending) W',(e= .returned (.bool true)∧Below W.heap.size W W')→ ∃v,e= .returned v∧Rows.fnScriptSpec.post enc Tryz.prog Tryz.f4 false true false false W #[.slice ad0 n0 cap0] v W':=by
   rintro e W' ⟨rfl,hb⟩
   exact ⟨_,rfl,law_post rfl rfl hW' (by kernel_rfl) rfl hb⟩
 exact (ok ad0 n0 cap0 bs0 W hn0 hr0 hl0 (laidW_of hL hsh)).mono fin
end Go.Proofs.YtmikajnpgcabfaaGreatDoor.jScript
