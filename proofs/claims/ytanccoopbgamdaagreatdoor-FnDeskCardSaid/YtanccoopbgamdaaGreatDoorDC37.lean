/-
  Contracts and plain facts on which the theorem of this claim rests, text 37.
-/
import Derived.DeepKeys4
import Derived.Maps.Own
import Derived.Maps.Views
import Derived.StringKeys
import Derived.Test.YtanccoopbgamdaaGreatDoorDC4
import Derived.Test.YtanccoopbgamdaaGreatDoorDC6
import Derived.Test.YtanccoopbgamdaaGreatDoorDC15
import Derived.Test.YtanccoopbgamdaaGreatDoorDC36
namespace Go.Proofs.YtanccoopbgamdaaGreatDoor
open Go.RowKit
set_option linter.unusedVariables false
set_option linter.unusedSimpArgs false
noncomputable def spotF (A B:Int):Mat × Bool:=Classical.choose (smat_both3 A B)
theorem spotF_impl (A B:Int):(∀w,Calls Tryz.prog 95 #[.agg #[.int .i64 A, .int .i64 B]] w (MatOut2 w (spotF A B))):=(Classical.choose_spec (smat_both3 A B)).2.1
inductive NumCmd (w:World):List UInt8→List Int→Ending→World→Prop
 | flat {x y z:Int} {e:Ending} {w':World} (h:PicCmd w (flatF x y z).1 e w'):NumCmd w [102,108,97,116] [x,y,z] e w'
 | ramp {x y:Int} {e:Ending} {w':World} (h:PicCmd w (rampF x y).1 e w'):NumCmd w [114,97,109,112] [x,y] e w'
 | bayer {x:Int} {e:Ending} {w':World} (h:GivenOut w (bayerF x).1 e w'):NumCmd w [98,97,121,101,114] [x] e w'
 | spiral {x:Int} {e:Ending} {w':World} (h:GivenOut w (spiralF x).1 e w'):NumCmd w [115,112,105,114,97,108] [x] e w'
 | spot {x y:Int} {e:Ending} {w':World} (h:GivenOut w (spotF x y).1 e w'):NumCmd w [115,112,111,116] [x,y] e w'
 | rank {x y z:Int} {e:Ending} {w':World} (h:GivenOut w (rankedF x y z).1 e w'):NumCmd w [114,97,110,107] [x,y,z] e w'
 | shift {x y:Int} {na:Option Addr} {nc:Nat} (h:Rd w na [x,y]):NumCmd w [115,104,105,102,116] [x,y] (.returned (.tuple #[.iface 106 (.func (.func 97) #[] #[.pointer (some ⟨w.heap.size,0,none⟩)]), .bool true])) (w.alloc (.cells #[.slice na 2 nc] 25))
 | level {x:Int} {na:Option Addr} {nc:Nat}:NumCmd w [108,101,118,101,108] [x] (.returned (.tuple #[.iface 129 (.int .i64 x), .bool true])) (w.alloc (.cells #[.slice na 1 nc] 25))
 | none {l:List UInt8} {xs:List Int} {na:Option Addr} {n nc:Nat} (h:NoForm l xs.length):NumCmd w l xs (.returned (.tuple #[.nilIface, .bool false])) (w.alloc (.cells #[.slice na n nc] 25))
theorem bytes_lit {s:ByteArray} {l:List UInt8} (h:s.toList=l):s=⟨l.toArray⟩:=by
 rw [ByteArray.toList_eq] at h
 cases s with
 | mk d=>
   congr
   have:d.toList=l:=h
   rw [←this]
theorem len1 {xs:List Int} (h:xs.length=1): ∃x,xs=[x]:=by
 match xs,h with
 | [x],_=>exact ⟨x,rfl⟩
theorem len2 {xs:List Int} (h:xs.length=2): ∃x y,xs=[x,y]:=by
 match xs,h with
 | [x,y],_=>exact ⟨x,y,rfl⟩
theorem len3 {xs:List Int} (h:xs.length=3): ∃x y z,xs=[x,y,z]:=by
 match xs,h with
 | [x,y,z],_=>exact ⟨x,y,z,rfl⟩
theorem num_all (s:ByteArray) (na:Option Addr) (n nc:Nat) (xs:List Int) (w:World) (hn:xs.length=n) (hr:Rd w na xs):
   Calls Tryz.prog 67 #[.string s, .slice na n nc] w (NumCmd w s.toList xs):=by
 by_cases hf:NoForm s.toList xs.length
 · subst hn
   refine (num_none s na xs.length nc w hf).mono ?_
   rintro e w' ⟨rfl,rfl⟩
   exact .none hf
 have hc:(s.toList=[102,108,97,116]∧xs.length=3)∨(s.toList=[114,97,109,112]∧xs.length=2)∨(s.toList=[98,97,121,101,114]∧xs.length=1)∨(s.toList=[115,112,105,114,97,108]∧xs.length=1)∨(s.toList=[115,112,111,116]∧xs.length=2)∨(s.toList=[114,97,110,107]∧xs.length=3)∨(s.toList=[115,104,105,102,116]∧xs.length=2)∨(s.toList=[108,101,118,101,108]∧xs.length=1):=by
   apply Classical.byContradiction
   intro h
   simp only [not_or,not_and] at h
   exact hf ⟨h.1,h.2.1,h.2.2.1,h.2.2.2.1,h.2.2.2.2.1,h.2.2.2.2.2.1,h.2.2.2.2.2.2.1,h.2.2.2.2.2.2.2⟩
 subst hn
 rcases hc with ⟨h1,h2⟩ | ⟨h1,h2⟩ | ⟨h1,h2⟩ | ⟨h1,h2⟩ | ⟨h1,h2⟩ | ⟨h1,h2⟩ | ⟨h1,h2⟩ | ⟨h1,h2⟩
 · obtain ⟨x,y,z,rfl⟩:=len3 h2
   rw [h1,bytes_lit h1]
   exact (num_flat na nc x y z w hr).mono (fun e w' h=> .flat h)
 · obtain ⟨x,y,rfl⟩:=len2 h2
   rw [h1,bytes_lit h1]
   exact (num_ramp na nc x y w hr).mono (fun e w' h=> .ramp h)
 · obtain ⟨x,rfl⟩:=len1 h2
   rw [h1,bytes_lit h1]
   exact (num_bayer na nc x w hr).mono (fun e w' h=> .bayer h)
 · obtain ⟨x,rfl⟩:=len1 h2
   rw [h1,bytes_lit h1]
   exact (num_spiral na nc x w hr).mono (fun e w' h=> .spiral h)
 · obtain ⟨x,y,rfl⟩:=len2 h2
   rw [h1,bytes_lit h1]
   exact (num_spot (spotF x y) na nc x y w hr (spotF_impl x y)).mono (fun e w' h=> .spot h)
 · obtain ⟨x,y,z,rfl⟩:=len3 h2
   rw [h1,bytes_lit h1]
   exact (num_rank na nc x y z w hr).mono (fun e w' h=> .rank h)
 · obtain ⟨x,y,rfl⟩:=len2 h2
   rw [h1,bytes_lit h1]
   refine (num_shift na nc w).mono ?_
   rintro e w' ⟨rfl,rfl⟩
   exact .shift hr
 · obtain ⟨x,rfl⟩:=len1 h2
   rw [h1,bytes_lit h1]
   refine (num_level na nc x w hr).mono ?_
   rintro e w' ⟨rfl,rfl⟩
   exact .level
theorem NumCmd.below {w:World} {l:List UInt8} {xs:List Int} {e:Ending} {w':World} (h:NumCmd w l xs e w'):Below w.heap.size w w':=by
 have q: ∀o,Below w.heap.size w (w.alloc o):=fun o=>bAlloc (Below.refl _ _) o
 cases h with
 | flat h=>obtain ⟨_,_,_,_,_,_,h⟩:=h;exact h
 | ramp h=>obtain ⟨_,_,_,_,_,_,h⟩:=h;exact h
 | bayer h=>obtain ⟨_,_,_,_,_,_,_,_,h⟩:=h;exact h
 | spiral h=>obtain ⟨_,_,_,_,_,_,_,_,h⟩:=h;exact h
 | spot h=>obtain ⟨_,_,_,_,_,_,_,_,h⟩:=h;exact h
 | rank h=>obtain ⟨_,_,_,_,_,_,_,_,h⟩:=h;exact h
 | shift h=>exact q _
 | level=>exact q _
 | none h=>exact q _
end Go.Proofs.YtanccoopbgamdaaGreatDoor
namespace Go.Proofs.YtanccoopbgamdaaGreatDoor
open Go.ChangeMaps Go.MapKept Go.WideMaps
open Go.Maps (Keyed)
set_option linter.unusedVariables false
set_option linter.unusedSimpArgs false
theorem str_law:Keyed Tryz.prog 9:=Keyed.of_law (string_law Tryz.underlying9)
def heldR (v:Value):Option (DataW Value × List MemPlace):=some (.held v,[])
def VS (w:World) (b n:Nat) (S:List UInt8→Option Value):Prop:=
 ∃D:DataW Value,Maps.IsMap D∧w.ownsMap Tryz.prog 9 heldR b n D∧ ∀l zd,D.atKey (.string l) zd=(match S l with | some v=> .held v | none=>zd)
theorem vs_made (w:World):VS (w.alloc (.map #[] 0)) w.heap.size 0 (fun _=>none):=
 ⟨.map [],Maps.isMap_empty,World.ownsMap_made w _ _ _,fun l zd=>rfl⟩
theorem VS.same {w w':World} {b n:Nat} {S:List UInt8→Option Value} (h:VS w b n S) (hb:w'.heap[b]? =w.heap[b]?):VS w' b n S:=by
 obtain ⟨D,h1,⟨es,clock,h2,h3⟩,h4⟩:=h
 exact ⟨D,h1,⟨es,clock,hb.trans h2,h3⟩,h4⟩
theorem VS.lt {w:World} {b n:Nat} {S:List UInt8→Option Value} (h:VS w b n S):b<w.heap.size:=by
 obtain ⟨D,h1,h2,h3⟩:=h
 exact h2.lt
theorem VS.below {w w':World} {b n:Nat} {S:List UInt8→Option Value} (h:VS w b n S) (hb:Go.RowKit.Below w.heap.size w w'):VS w' b n S:=h.same (hb.block b h.lt)
theorem VS.alloc {w:World} {b n:Nat} {S:List UInt8→Option Value} (h:VS w b n S) (o:Obj):VS (w.alloc o) b n S:=by
 obtain ⟨D,h1,h2,h3⟩:=h
 exact ⟨D,h1,h2.alloc o,h3⟩
theorem VS.look {w:World} {b n:Nat} {S:List UInt8→Option Value} (h:VS w b n S) (s:ByteArray) (hs:s.size≤maxLen):
   (Instr.lookup 97 (.map (some b)) (.string s) true).run Tryz.prog w= .ok (.tuple #[(S s.data.toList).getD .nilIface, .bool (S s.data.toList).isSome]) w:=by
 obtain ⟨D,h1,⟨es,clock,hb,F,hsz,hD⟩,h3⟩:=h
 have hz:(zeroValue 71).run Tryz.prog w= .ok .nilIface w:=by kernel_rfl
 have h4:=h3 s.data.toList
 rcases Maps.fit_look true str_law Tryz.underlying97 hz hb F (keyOf_string_mk Tryz.underlying9 hs) with ⟨hrun,_,hat⟩ | ⟨e0,y,_,_,hrun,hR,hat,_⟩
 · rw [←hD] at hat
   have h5:S s.data.toList=none:=by
     cases hS:S s.data.toList with
     | none=>rfl
     | some v=>
       have e1:=h4 .nil
       rw [hS] at e1
       have e2:=hat .nil
       rw [e1] at e2
       cases e2
   rw [h5]
   simpa using hrun
 · rw [←hD] at hat
   have hy:y=(.held e0.val,[]):=(Option.some.inj hR).symm
   have h5:S s.data.toList=some e0.val:=by
     have e2:=hat .nil
     rw [hy] at e2
     have e1:=h4 .nil
     rw [e2] at e1
     cases hS:S s.data.toList with
     | none=>rw [hS] at e1;cases e1
     | some v=>rw [hS] at e1;simp only [DataW.held.injEq] at e1;rw [e1]
   rw [h5]
   simpa using hrun
def putV (S:List UInt8→Option Value) (l:List UInt8) (v:Value):List UInt8→Option Value:=fun k=>if k=l then some v else S k
theorem wp_makeMapS (w:World) {ops:Array Oper} {rest:List Oper} {o:Oper} {a:Act} {Q:Exit→Act→World→Prop} {t:TypeId}
   (hg:o.guard=none) (hop:o.op=Op.makeMap t none)
   (hK:wpList Tryz.prog ops Q rest (a.put o.dst (.map (some w.heap.size))) (w.alloc (.map #[] 0))):wpList Tryz.prog ops Q (o::rest) a w:=by
 refine wpList_plain hg fun K hK'=>?_
 have hr:(Instr.makeMap t none).run Tryz.prog w= .ok (.map (some w.heap.size)) (w.alloc (.map #[] 0)):=rfl
 unfold Oper.wp
 simp [execOp,hop,hr,Result.andThen]
 exact hK' _ _ hK
end Go.Proofs.YtanccoopbgamdaaGreatDoor
namespace Go.Proofs.YtanccoopbgamdaaGreatDoor
open Go.RowKit
set_option linter.unusedVariables false
set_option linter.unusedSimpArgs false
def AllK (mb:Nat) (L:List (World→Prop)) (w:World):Prop:= ∀p,p ∈ L→p w∧ ∀v v':World,v.grownBy v' (some mb)→p v→p v'
theorem AllK.step {mb:Nat} {L:List (World→Prop)} {w w':World} (h:AllK mb L w) (hg:w.grownBy w' (some mb)):AllK mb L w':=fun p hp=>⟨(h p hp).2 w w' hg (h p hp).1,(h p hp).2⟩
theorem AllK.cons {mb:Nat} {L:List (World→Prop)} {w:World} {p:World→Prop} (h:AllK mb L w) (hp:p w) (hk: ∀v v':World,v.grownBy v' (some mb)→p v→p v'):AllK mb (p::L) w:=by
 intro q hq
 rcases List.mem_cons.1 hq with rfl | hq
 · exact ⟨hp,hk⟩
 · exact h q hq
def DiffBox (kb ab g kn:Nat) (ks:List Prt) (alt:Bool) (w:World):Prop:=Blk w kb 110 #[.slice (some ⟨g,0,none⟩) kn kn]∧Blk w ab 4 #[.bool alt]∧RowT w 135 3 g kn kn (flat ks)
def ChgBox (bx f:Nat) (w:World):Prop:=Blk w bx 95 #[.func (.func f) #[] #[]]
theorem DiffBox.kept {mb kb ab g kn:Nat} {ks:List Prt} {alt:Bool} (h1:kb≠mb) (h2:ab≠mb) (h3:g≠mb): ∀v v':World,v.grownBy v' (some mb)→DiffBox kb ab g kn ks alt v→DiffBox kb ab g kn ks alt v':=
 fun v v' hg h=>⟨h.1.grown hg (fun e=>h1 (Option.some.inj e)),h.2.1.grown hg (fun e=>h2 (Option.some.inj e)),h.2.2.grown hg (fun e=>h3 (Option.some.inj e))⟩
theorem ChgBox.kept {mb bx f:Nat} (h1:bx≠mb): ∀v v':World,v.grownBy v' (some mb)→ChgBox bx f v→ChgBox bx f v':=
 fun v v' hg h=>Blk.grown h hg (fun e=>h1 (Option.some.inj e))
def diffV (kb ab:Nat):Value:= .iface 108 (.func (.func 100) #[] #[.pointer (some ⟨kb,0,none⟩), .pointer (some ⟨ab,0,none⟩)])
def chgV (bx:Nat):Value:= .iface 113 (.func (.func 103) #[] #[.pointer (some ⟨bx,0,none⟩)])
def fnV (T f:Nat):Value:= .iface T (.func (.func f) #[] #[])
def plainS (k1 a1 k2 a2 k3 a3 k4 a4 b1 b2 b3:Nat):List UInt8→Option Value:=
 (putV (putV (putV (putV (putV (putV (putV (putV (putV (putV (putV (putV (putV (putV (putV (fun _=>none) [114,101,118,101,114,115,101] (fnV 106 75)) [115,99,114,101,101,110] (fnV 108 76)) [100,105,102,102,117,115,101,32,115,116,101,105,110,32,108,101,102,116] (diffV k1 a1)) [100,105,102,102,117,115,101,32,115,116,101,105,110,32,98,111,116,104] (diffV k2 a2)) [100,105,102,102,117,115,101,32,112,108,97,105,110,32,108,101,102,116] (diffV k3 a3)) [100,105,102,102,117,115,101,32,112,108,97,105,110,32,98,111,116,104] (diffV k4 a4)) [103,114,111,119] (chgV b1)) [115,104,114,105,110,107] (chgV b2)) [109,105,114,114,111,114] (chgV b3)) [100,114,111,112] (fnV 113 84)) [115,104,111,119] (fnV 113 85)) [114,117,110,115] (fnV 113 86)) [109,101,97,110] (fnV 113 87)) [99,111,117,110,116,115] (fnV 113 88)) [101,114,114,111,114] (fnV 113 89))
theorem impl_diffusedPlate (a:Option Addr) (n c:Nat) (alt:Bool) (w:World):
   Calls Tryz.prog 77 #[.slice a n c, .bool alt] w fun e w'=>e= .returned (.func (.func 100) #[] #[.pointer (some ⟨w.heap.size,0,none⟩), .pointer (some ⟨w.heap.size+1,0,none⟩)])∧w'=(w.alloc (.cells #[.slice a n c] 110)).alloc (.cells #[.bool alt] 4):=by
 go_enter Tryz.func77,Tryz.ntmps77
 go_wp2_with fail
 go_ret
 exact ⟨by simp,rfl⟩
theorem impl_changedLast (f:Nat) (w:World):
   Calls Tryz.prog 80 #[.func (.func f) #[] #[]] w fun e w'=>e= .returned (.func (.func 103) #[] #[.pointer (some ⟨w.heap.size,0,none⟩)])∧w'=w.alloc (.cells #[.func (.func f) #[] #[]] 95):=by
 go_enter Tryz.func80,Tryz.ntmps80
 go_wp2_with fail
 go_ret
 exact ⟨rfl,rfl⟩
end Go.Proofs.YtanccoopbgamdaaGreatDoor
namespace Go.Proofs.YtanccoopbgamdaaGreatDoor
open Go.RowKit
open Go.ChangeMaps Go.MapKept Go.WideMaps
set_option linter.unusedVariables false
set_option linter.unusedSimpArgs false
open Go.MapKept Go.WideMaps in
theorem wp_vsIns (w:World) {ops:Array Oper} {rest:List Oper} {o:Oper} {a:Act} {Q:Exit→Act→World→Prop}
   (hg:o.guard=none) (m x v:Operand) (hop:o.op=Op.insert 97 m x v)
   (b n:Nat) (S:List UInt8→Option Value) (s:ByteArray) (val:Value) (hm:a.eval m= .map (some b)) (hown:VS w b n S) (hn:n<maxLen) (hx:a.eval x= .string s) (hv:a.eval v=val) (hs:s.size≤maxLen)
   (hK: ∀w',VS w' b (n+1) (putV S s.data.toList val)→w.grownBy w' (some b)→wpList Tryz.prog ops Q rest (a.put o.dst undef) w'):
   wpList Tryz.prog ops Q (o::rest) a w:=by
 obtain ⟨D,h1,h2,h3⟩:=hown
 refine wpList_plain hg fun K' hK'=>?_
 obtain ⟨w',hrun,r1,r2⟩:=h2.update str_law Tryz.underlying97 hn (keyOf_string_mk Tryz.underlying9 hs) (val:=val) (d:= .held val) (ps:=[]) rfl
 unfold Oper.wp
 simp [execOp,hop,hm,hx,hv,hrun,Result.andThen]
 refine hK' _ _ (hK w' ⟨_,h1.put _ _,r1,?_⟩ r2)
 intro l zd
 unfold putV
 by_cases e:l=s.data.toList
 · subst e
   rw [Maps.atKey_put_same h1 (str_law.key (keyOf_string_mk Tryz.underlying9 hs)),if_pos rfl]
 · rw [Maps.atKey_put_other (fun hh=>e (by injection hh)),h3 l zd,if_neg e]
set_option maxRecDepth 100000 in
set_option maxHeartbeats 3200000 in
theorem impl_plainCommands (w:World):
   Calls Tryz.prog 64 #[] w fun e w'=> ∃k1 a1 g1 k2 a2 g2 k3 a3 g3 k4 a4 g4 b1 b2 b3:Nat,e= .returned (.map (some w.heap.size))∧VS w' w.heap.size 15 (plainS k1 a1 k2 a2 k3 a3 k4 a4 b1 b2 b3)∧
     DiffBox k1 a1 g1 4 steinK false w'∧DiffBox k2 a2 g2 4 steinK true w'∧DiffBox k3 a3 g3 1 plainK false w'∧DiffBox k4 a4 g4 1 plainK true w'∧
     ChgBox b1 81 w'∧ChgBox b2 82 w'∧ChgBox b3 83 w'∧Below w.heap.size w w':=by
 have HV:=Lib.hid (vs_made w)
 have HB:=Lib.hid (bAlloc (Below.refl w.heap.size w) (.map #[] 0))
 have HL:Hid (AllK w.heap.size [] (w.alloc (.map #[] 0))):=Lib.hid (fun p hp=>by cases hp)
 have HZ:Hid (w.heap.size<(w.alloc (.map #[] 0)).heap.size):=Lib.hid (by simp)
 obtain ⟨mb,hmb⟩: ∃x,x=w.heap.size:=⟨_,rfl⟩
 go_enter Tryz.func64,Tryz.ntmps64
 go_wp2_with (first
   | (refine wp_makeMapS _ rfl rfl ?_)
   | (refine wp_vsIns _ rfl _ _ _ rfl _ _ _ _ _ rfl HV.out (by unfold maxLen;omega) rfl rfl (by unfold maxLen;decide) ?_;intro w6 hv6 hg6;(try simp [Act.eval,go_sem] at hv6);have HV:=Lib.hid hv6;have HB:=Lib.hid (HB.out.grown hg6 (Nat.le_of_lt HZ.out) (fun b hb=>by cases hb;exact Nat.le_refl _));have HL:=Lib.hid (HL.out.step hg6);have HZ:=Lib.hid (Nat.lt_of_lt_of_le HZ.out hg6.size);clear hv6 hg6))
 refine (impl_SteinKernel _).mono ?_
 rintro e u1 ⟨g1,rfl,hg,hk,hq⟩
 have HV:=Lib.hid (HV.out.below hq)
 have HB:=Lib.hid (bTrans HB.out hq)
 have HL:=Lib.hid (HL.out.step (grown_of_below hq))
 have NG1:Hid (g1≠w.heap.size):=Lib.hid (by have:=HZ.out;omega)
 have HZ:=Lib.hid (Nat.lt_of_lt_of_le HZ.out hq.size)
 have HK1:=Lib.hid hk
 clear hg hk hq
 go_wp2_with fail
 refine (impl_diffusedPlate _ _ _ _ _).mono ?_
 rintro e u ⟨rfl,rfl⟩
 have HV:=Lib.hid ((HV.out.alloc (.cells #[.slice (some ⟨g1,0,none⟩) 4 4] 110)).alloc (.cells #[.bool false] 4))
 have HB:=Lib.hid (bAlloc (bAlloc HB.out (.cells #[.slice (some ⟨g1,0,none⟩) 4 4] 110)) (.cells #[.bool false] 4))
 have HL:=Lib.hid ((HL.out.step (grown_of_below (bAlloc (bAlloc (Below.refl _ _) (.cells #[.slice (some ⟨g1,0,none⟩) 4 4] 110)) (.cells #[.bool false] 4)))).cons (p:=DiffBox u1.heap.size (u1.heap.size+1) g1 4 steinK false) ⟨(Blk.new u1 _ _).alloc _,Blk.new' _ _ (by simp),(HK1.out.alloc _).alloc _⟩ (DiffBox.kept (by have:=HZ.out;omega) (by have:=HZ.out;omega) NG1.out))
 have HZ:Hid (w.heap.size<((u1.alloc (.cells #[.slice (some ⟨g1,0,none⟩) 4 4] 110)).alloc (.cells #[.bool false] 4)).heap.size):=Lib.hid (by have:=HZ.out;simp;omega)
 go_wp2_with (first
   | (refine wp_vsIns _ rfl _ _ _ rfl _ _ _ _ _ rfl HV.out (by unfold maxLen;omega) rfl rfl (by unfold maxLen;decide) ?_;intro w6 hv6 hg6;(try simp [Act.eval,go_sem] at hv6);have HV:=Lib.hid hv6;have HB:=Lib.hid (HB.out.grown hg6 (Nat.le_of_lt HZ.out) (fun b hb=>by cases hb;exact Nat.le_refl _));have HL:=Lib.hid (HL.out.step hg6);have HZ:=Lib.hid (Nat.lt_of_lt_of_le HZ.out hg6.size);clear hv6 hg6))
 refine (impl_SteinKernel _).mono ?_
 rintro e u2 ⟨g2,rfl,hg,hk,hq⟩
 have HV:=Lib.hid (HV.out.below hq)
 have HB:=Lib.hid (bTrans HB.out hq)
 have HL:=Lib.hid (HL.out.step (grown_of_below hq))
 have NG2:Hid (g2≠w.heap.size):=Lib.hid (by have:=HZ.out;omega)
 have HZ:=Lib.hid (Nat.lt_of_lt_of_le HZ.out hq.size)
 have HK2:=Lib.hid hk
 clear hg hk hq
 go_wp2_with fail
 refine (impl_diffusedPlate _ _ _ _ _).mono ?_
 rintro e u ⟨rfl,rfl⟩
 have HV:=Lib.hid ((HV.out.alloc (.cells #[.slice (some ⟨g2,0,none⟩) 4 4] 110)).alloc (.cells #[.bool true] 4))
 have HB:=Lib.hid (bAlloc (bAlloc HB.out (.cells #[.slice (some ⟨g2,0,none⟩) 4 4] 110)) (.cells #[.bool true] 4))
 have HL:=Lib.hid ((HL.out.step (grown_of_below (bAlloc (bAlloc (Below.refl _ _) (.cells #[.slice (some ⟨g2,0,none⟩) 4 4] 110)) (.cells #[.bool true] 4)))).cons (p:=DiffBox u2.heap.size (u2.heap.size+1) g2 4 steinK true) ⟨(Blk.new u2 _ _).alloc _,Blk.new' _ _ (by simp),(HK2.out.alloc _).alloc _⟩ (DiffBox.kept (by have:=HZ.out;omega) (by have:=HZ.out;omega) NG2.out))
 have HZ:Hid (w.heap.size<((u2.alloc (.cells #[.slice (some ⟨g2,0,none⟩) 4 4] 110)).alloc (.cells #[.bool true] 4)).heap.size):=Lib.hid (by have:=HZ.out;simp;omega)
 go_wp2_with (first
   | (refine wp_vsIns _ rfl _ _ _ rfl _ _ _ _ _ rfl HV.out (by unfold maxLen;omega) rfl rfl (by unfold maxLen;decide) ?_;intro w6 hv6 hg6;(try simp [Act.eval,go_sem] at hv6);have HV:=Lib.hid hv6;have HB:=Lib.hid (HB.out.grown hg6 (Nat.le_of_lt HZ.out) (fun b hb=>by cases hb;exact Nat.le_refl _));have HL:=Lib.hid (HL.out.step hg6);have HZ:=Lib.hid (Nat.lt_of_lt_of_le HZ.out hg6.size);clear hv6 hg6))
 refine (impl_PlainKernel _).mono ?_
 rintro e u3 ⟨g3,rfl,hg,hk,hq⟩
 have HV:=Lib.hid (HV.out.below hq)
 have HB:=Lib.hid (bTrans HB.out hq)
 have HL:=Lib.hid (HL.out.step (grown_of_below hq))
 have NG3:Hid (g3≠w.heap.size):=Lib.hid (by have:=HZ.out;omega)
 have HZ:=Lib.hid (Nat.lt_of_lt_of_le HZ.out hq.size)
 have HK3:=Lib.hid hk
 clear hg hk hq
 go_wp2_with fail
 refine (impl_diffusedPlate _ _ _ _ _).mono ?_
 rintro e u ⟨rfl,rfl⟩
 have HV:=Lib.hid ((HV.out.alloc (.cells #[.slice (some ⟨g3,0,none⟩) 1 1] 110)).alloc (.cells #[.bool false] 4))
 have HB:=Lib.hid (bAlloc (bAlloc HB.out (.cells #[.slice (some ⟨g3,0,none⟩) 1 1] 110)) (.cells #[.bool false] 4))
 have HL:=Lib.hid ((HL.out.step (grown_of_below (bAlloc (bAlloc (Below.refl _ _) (.cells #[.slice (some ⟨g3,0,none⟩) 1 1] 110)) (.cells #[.bool false] 4)))).cons (p:=DiffBox u3.heap.size (u3.heap.size+1) g3 1 plainK false) ⟨(Blk.new u3 _ _).alloc _,Blk.new' _ _ (by simp),(HK3.out.alloc _).alloc _⟩ (DiffBox.kept (by have:=HZ.out;omega) (by have:=HZ.out;omega) NG3.out))
 have HZ:Hid (w.heap.size<((u3.alloc (.cells #[.slice (some ⟨g3,0,none⟩) 1 1] 110)).alloc (.cells #[.bool false] 4)).heap.size):=Lib.hid (by have:=HZ.out;simp;omega)
 go_wp2_with (first
   | (refine wp_vsIns _ rfl _ _ _ rfl _ _ _ _ _ rfl HV.out (by unfold maxLen;omega) rfl rfl (by unfold maxLen;decide) ?_;intro w6 hv6 hg6;(try simp [Act.eval,go_sem] at hv6);have HV:=Lib.hid hv6;have HB:=Lib.hid (HB.out.grown hg6 (Nat.le_of_lt HZ.out) (fun b hb=>by cases hb;exact Nat.le_refl _));have HL:=Lib.hid (HL.out.step hg6);have HZ:=Lib.hid (Nat.lt_of_lt_of_le HZ.out hg6.size);clear hv6 hg6))
 refine (impl_PlainKernel _).mono ?_
 rintro e u4 ⟨g4,rfl,hg,hk,hq⟩
 have HV:=Lib.hid (HV.out.below hq)
 have HB:=Lib.hid (bTrans HB.out hq)
 have HL:=Lib.hid (HL.out.step (grown_of_below hq))
 have NG4:Hid (g4≠w.heap.size):=Lib.hid (by have:=HZ.out;omega)
 have HZ:=Lib.hid (Nat.lt_of_lt_of_le HZ.out hq.size)
 have HK4:=Lib.hid hk
 clear hg hk hq
 go_wp2_with fail
 refine (impl_diffusedPlate _ _ _ _ _).mono ?_
 rintro e u ⟨rfl,rfl⟩
 have HV:=Lib.hid ((HV.out.alloc (.cells #[.slice (some ⟨g4,0,none⟩) 1 1] 110)).alloc (.cells #[.bool true] 4))
 have HB:=Lib.hid (bAlloc (bAlloc HB.out (.cells #[.slice (some ⟨g4,0,none⟩) 1 1] 110)) (.cells #[.bool true] 4))
 have HL:=Lib.hid ((HL.out.step (grown_of_below (bAlloc (bAlloc (Below.refl _ _) (.cells #[.slice (some ⟨g4,0,none⟩) 1 1] 110)) (.cells #[.bool true] 4)))).cons (p:=DiffBox u4.heap.size (u4.heap.size+1) g4 1 plainK true) ⟨(Blk.new u4 _ _).alloc _,Blk.new' _ _ (by simp),(HK4.out.alloc _).alloc _⟩ (DiffBox.kept (by have:=HZ.out;omega) (by have:=HZ.out;omega) NG4.out))
 have HZ:Hid (w.heap.size<((u4.alloc (.cells #[.slice (some ⟨g4,0,none⟩) 1 1] 110)).alloc (.cells #[.bool true] 4)).heap.size):=Lib.hid (by have:=HZ.out;simp;omega)
 go_wp2_with (first
   | (refine wp_vsIns _ rfl _ _ _ rfl _ _ _ _ _ rfl HV.out (by unfold maxLen;omega) rfl rfl (by unfold maxLen;decide) ?_;intro w6 hv6 hg6;(try simp [Act.eval,go_sem] at hv6);have HV:=Lib.hid hv6;have HB:=Lib.hid (HB.out.grown hg6 (Nat.le_of_lt HZ.out) (fun b hb=>by cases hb;exact Nat.le_refl _));have HL:=Lib.hid (HL.out.step hg6);have HZ:=Lib.hid (Nat.lt_of_lt_of_le HZ.out hg6.size);clear hv6 hg6))
 obtain ⟨u5,hu5⟩: ∃x,x=w6:=⟨_,rfl⟩
 rw [←hu5] at HV HB HL HZ⊢
 clear hu5
 refine (impl_changedLast _ _).mono ?_
 rintro e u ⟨rfl,rfl⟩
 have HV:=Lib.hid (HV.out.alloc (.cells #[.func (.func 81) #[] #[]] 95))
 have HB:=Lib.hid (bAlloc HB.out (.cells #[.func (.func 81) #[] #[]] 95))
 have HL:=Lib.hid ((HL.out.step (grown_of_below (bAlloc (Below.refl _ _) (.cells #[.func (.func 81) #[] #[]] 95)))).cons (p:=ChgBox u5.heap.size 81) (Blk.new u5 _ _) (ChgBox.kept (by have:=HZ.out;omega)))
 have HZ:Hid (w.heap.size<(u5.alloc (.cells #[.func (.func 81) #[] #[]] 95)).heap.size):=Lib.hid (by have:=HZ.out;simp;omega)
 go_wp2_with (first
   | (refine wp_vsIns _ rfl _ _ _ rfl _ _ _ _ _ rfl HV.out (by unfold maxLen;omega) rfl rfl (by unfold maxLen;decide) ?_;intro w6 hv6 hg6;(try simp [Act.eval,go_sem] at hv6);have HV:=Lib.hid hv6;have HB:=Lib.hid (HB.out.grown hg6 (Nat.le_of_lt HZ.out) (fun b hb=>by cases hb;exact Nat.le_refl _));have HL:=Lib.hid (HL.out.step hg6);have HZ:=Lib.hid (Nat.lt_of_lt_of_le HZ.out hg6.size);clear hv6 hg6))
 obtain ⟨u6,hu6⟩: ∃x,x=w6:=⟨_,rfl⟩
 rw [←hu6] at HV HB HL HZ⊢
 clear hu6
 refine (impl_changedLast _ _).mono ?_
 rintro e u ⟨rfl,rfl⟩
 have HV:=Lib.hid (HV.out.alloc (.cells #[.func (.func 82) #[] #[]] 95))
 have HB:=Lib.hid (bAlloc HB.out (.cells #[.func (.func 82) #[] #[]] 95))
 have HL:=Lib.hid ((HL.out.step (grown_of_below (bAlloc (Below.refl _ _) (.cells #[.func (.func 82) #[] #[]] 95)))).cons (p:=ChgBox u6.heap.size 82) (Blk.new u6 _ _) (ChgBox.kept (by have:=HZ.out;omega)))
 have HZ:Hid (w.heap.size<(u6.alloc (.cells #[.func (.func 82) #[] #[]] 95)).heap.size):=Lib.hid (by have:=HZ.out;simp;omega)
 go_wp2_with (first
   | (refine wp_vsIns _ rfl _ _ _ rfl _ _ _ _ _ rfl HV.out (by unfold maxLen;omega) rfl rfl (by unfold maxLen;decide) ?_;intro w6 hv6 hg6;(try simp [Act.eval,go_sem] at hv6);have HV:=Lib.hid hv6;have HB:=Lib.hid (HB.out.grown hg6 (Nat.le_of_lt HZ.out) (fun b hb=>by cases hb;exact Nat.le_refl _));have HL:=Lib.hid (HL.out.step hg6);have HZ:=Lib.hid (Nat.lt_of_lt_of_le HZ.out hg6.size);clear hv6 hg6))
 obtain ⟨u7,hu7⟩: ∃x,x=w6:=⟨_,rfl⟩
 rw [←hu7] at HV HB HL HZ⊢
 clear hu7
 refine (impl_changedLast _ _).mono ?_
 rintro e u ⟨rfl,rfl⟩
 have HV:=Lib.hid (HV.out.alloc (.cells #[.func (.func 83) #[] #[]] 95))
 have HB:=Lib.hid (bAlloc HB.out (.cells #[.func (.func 83) #[] #[]] 95))
 have HL:=Lib.hid ((HL.out.step (grown_of_below (bAlloc (Below.refl _ _) (.cells #[.func (.func 83) #[] #[]] 95)))).cons (p:=ChgBox u7.heap.size 83) (Blk.new u7 _ _) (ChgBox.kept (by have:=HZ.out;omega)))
 have HZ:Hid (w.heap.size<(u7.alloc (.cells #[.func (.func 83) #[] #[]] 95)).heap.size):=Lib.hid (by have:=HZ.out;simp;omega)
 go_wp2_with (first
   | (refine wp_vsIns _ rfl _ _ _ rfl _ _ _ _ _ rfl HV.out (by unfold maxLen;omega) rfl rfl (by unfold maxLen;decide) ?_;intro w6 hv6 hg6;(try simp [Act.eval,go_sem] at hv6);have HV:=Lib.hid hv6;have HB:=Lib.hid (HB.out.grown hg6 (Nat.le_of_lt HZ.out) (fun b hb=>by cases hb;exact Nat.le_refl _));have HL:=Lib.hid (HL.out.step hg6);have HZ:=Lib.hid (Nat.lt_of_lt_of_le HZ.out hg6.size);clear hv6 hg6))
 go_ret
 have hL:=HL.out
 have hL:=HL.out
 have d1:DiffBox u1.heap.size (u1.heap.size+1) g1 4 steinK false w6:=(hL _ (.tail _ (.tail _ (.tail _ (.tail _ (.tail _ (.tail _ (.head _)))))))).1
 have d2:DiffBox u2.heap.size (u2.heap.size+1) g2 4 steinK true w6:=(hL _ (.tail _ (.tail _ (.tail _ (.tail _ (.tail _ (.head _))))))).1
 have d3:DiffBox u3.heap.size (u3.heap.size+1) g3 1 plainK false w6:=(hL _ (.tail _ (.tail _ (.tail _ (.tail _ (.head _)))))).1
 have d4:DiffBox u4.heap.size (u4.heap.size+1) g4 1 plainK true w6:=(hL _ (.tail _ (.tail _ (.tail _ (.head _))))).1
 have d5:ChgBox u5.heap.size 81 w6:=(hL _ (.tail _ (.tail _ (.head _)))).1
 have d6:ChgBox u6.heap.size 82 w6:=(hL _ (.tail _ (.head _))).1
 have d7:ChgBox u7.heap.size 83 w6:=(hL _ (.head _)).1
 have hv:VS w6 w.heap.size 15 (plainS u1.heap.size (u1.heap.size+1) u2.heap.size (u2.heap.size+1) u3.heap.size (u3.heap.size+1) u4.heap.size (u4.heap.size+1) u5.heap.size u6.heap.size u7.heap.size):=HV.out
 have hb:=HB.out
 clear hL HL HV HB
 exact ⟨u1.heap.size,u1.heap.size+1,g1,u2.heap.size,u2.heap.size+1,g2,u3.heap.size,u3.heap.size+1,g3,u4.heap.size,u4.heap.size+1,g4,u5.heap.size,u6.heap.size,u7.heap.size,rfl,hv,d1,d2,d3,d4,d5,d6,d7,hb⟩
end Go.Proofs.YtanccoopbgamdaaGreatDoor
