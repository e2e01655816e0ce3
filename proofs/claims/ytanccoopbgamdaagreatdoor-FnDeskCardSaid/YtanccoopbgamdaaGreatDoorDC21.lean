/-
  Contracts and plain facts on which the theorem of this claim rests, text 21.
-/
import Derived.DeepKeys4
import Derived.Lib.AtoiAll
import Derived.Lib.SmallJoins
import Derived.Maps.Own
import Derived.Maps.Views
import Derived.Test.YtanccoopbgamdaaGreatDoorDC3
import Derived.Test.YtanccoopbgamdaaGreatDoorDC4
import Derived.Test.YtanccoopbgamdaaGreatDoorDC5
import Derived.Test.YtanccoopbgamdaaGreatDoorDC7
import Derived.Test.YtanccoopbgamdaaGreatDoorDC10
import Derived.Test.YtanccoopbgamdaaGreatDoorDC14
namespace Go.Proofs.YtanccoopbgamdaaGreatDoor
open Go.RowKit
set_option linter.unusedVariables false
set_option linter.unusedSimpArgs false
def numW (s:List UInt8):Option Int:=match Lib.atoiAll s with | .ok v=>if Lib.itoa v=s then some v else none | _=>none
def numsW:List (List UInt8)→Option (List Int)
 | []=>some []
 | w ::r=>match numW w with
   | none=>none
   | some v=>match numsW r with
     | none=>none
     | some l=>some (v::l)
theorem numsW_no: ∀(ws:List (List UInt8)) (k:Nat),k<ws.length→numW (ws.getD k [])=none→numsW ws=none
 | [],k,h,_=>by simp at h
 | w::r,0,_,hn=>by
   have h2:numW w=none:=by simpa using hn
   unfold numsW
   rw [h2]
 | w::r,k+1,h,hn=>by
   have ih:=numsW_no r k (by simpa using h) (by simpa using hn)
   unfold numsW
   cases numW w with
   | none=>rfl
   | some v=>rw [ih]
theorem numsW_yes: ∀(ws:List (List UInt8)) (xs:List Int),xs.length=ws.length→(∀k,k<ws.length→numW (ws.getD k [])=some (xs.getD k 0))→numsW ws=some xs
 | [],xs,hl,_=>by
   have:xs=[]:=List.eq_nil_of_length_eq_zero (by simpa using hl)
   rw [this]
   rfl
 | w::r,[],hl,_=>by simp at hl
 | w::r,x::xs,hl,h=>by
   have h0:=h 0 (by simp)
   have ih:=numsW_yes r xs (by simpa using hl) (fun k hk=>by have:=h (k+1) (by simpa using hk);simpa using this)
   have h1:numW w=some x:=by simpa using h0
   unfold numsW
   rw [h1,ih]
theorem atoi_bd {l:List UInt8} {v:Int} (h:Lib.atoiAll l= .ok v):InI64 v:=by
 unfold Lib.atoiAll at h
 split at h
 · cases h
 · dsimp only at h
   split at h
   · cases h
   · cases h
   · rename_i u hu
     have:=Lib.parseMag_lt hu
     split at h
     · cases h
     · split at h
       · cases h
       · injection h with h
         unfold InI64
         split at h <;>omega
def AtoiOut (s:ByteArray) (w:World) (e:Ending) (w':World):Prop:=
 Below w.heap.size w w'∧((∃v,Lib.atoiAll s.data.toList= .ok v∧e= .returned (.tuple #[.int .i64 v, .nilIface]))∨(∃u p,(∀v,Lib.atoiAll s.data.toList≠ .ok v)∧e= .returned (.tuple #[.int .i64 u, .iface 175 p])))
theorem atoi_call (s:ByteArray) (w:World) (hs:s.size≤1048576) (hL:LaidW w):Calls Tryz.prog 91 #[.string s] w (AtoiOut s w):=by
 obtain ⟨t1,p1,h1⟩:=hL.es
 obtain ⟨t2,p2,h2⟩:=hL.er
 rcases ha:Lib.atoiAll s.data.toList with v | _ | _
 · refine (Tryz.strconv_Atoi_ok s (by omega) v ha w).mono fun e w' ⟨he,hw⟩=>⟨?_, .inl ⟨v,ha,he⟩⟩
   rcases hw with rfl | ⟨t,rfl⟩
   · exact Below.refl _ _
   · exact Joins.below_bytesWorld _ _ _ _ (Nat.le_refl _)
 · exact (Tryz.strconv_Atoi_syntax s (by omega) ⟨fun v hv=>(by rw [ha] at hv;cases hv),fun hv=>(by rw [ha] at hv;cases hv)⟩ _ w h1 (.inr ⟨_,_,rfl⟩)).mono fun e w' ⟨N,he,_,_,hb⟩=>⟨hb, .inr ⟨_,_,(fun v hv=>by rw [ha] at hv;cases hv),he⟩⟩
 · exact (Tryz.strconv_Atoi_range s (by omega) ha _ w h2 (.inr ⟨_,_,rfl⟩)).mono fun e w' ⟨N,he,_,_,hb⟩=>⟨hb, .inr ⟨_,_,(fun v hv=>by rw [ha] at hv;cases hv),he⟩⟩
def RdS (w:World) (ad:Option Addr) (ws:List ByteArray):Prop:= ∀k (h:k<ws.length),∃b off,ad=some ⟨b,off,none⟩∧b<w.heap.size∧w.cell? ⟨b,off+k,none⟩=some (.string (ws[k]'h))
theorem RdS.below {w w':World} {ad:Option Addr} {ws:List ByteArray} (h:RdS w ad ws) (hb:Below w.heap.size w w'):RdS w' ad ws:=fun k hk=>by
 obtain ⟨b,off,h1,h2,h3⟩:=h k hk
 exact ⟨b,off,h1,Nat.lt_of_lt_of_le h2 hb.size,(hb.cell h2).trans h3⟩
def wordsL (ws:List ByteArray):List (List UInt8):=ws.map (fun s=>s.data.toList)
def NumsOut (w:World) (r:Option (List Int)) (e:Ending) (w':World):Prop:=
 Below w.heap.size w w'∧((r=none∧ ∃v,e= .returned (.tuple #[v, .bool false]))∨ ∃xs a n c,r=some xs∧e= .returned (.tuple #[.slice a n c, .bool true])∧OwnA w' w.heap.size a n c xs∧ ∀x,x ∈ xs→InI64 x)
set_option maxRecDepth 100000 in
set_option maxHeartbeats 1600000 in
theorem impl_numbersOf (ad:Option Addr) (n cap:Nat) (ws:List ByteArray) (w:World) (hn:ws.length=n) (ha:RdS w ad ws) (hl:n≤1048576) (hs: ∀s,s ∈ ws→s.size≤1048576) (hL:LaidW w):
   Calls Tryz.prog 66 #[.slice ad n cap] w (NumsOut w (numsW (wordsL ws))):=by
 have HN:=Lib.hid hn
 have HA:=Lib.hid ha
 have HS:=Lib.hid hs
 have HL:=Lib.hid hL
 clear hn ha hs hL
 go_enter Tryz.func66,Tryz.ntmps66
 go_wp2_with fail
 go_loopw [4,11] (fun r i wr=> ∃(k:Nat) (a:Option Addr) (c:Nat) (xs:List Int),k≤n∧i= .int .i64 k∧r= .slice a k c∧OwnA wr w.heap.size a k c xs∧(∀j,j<k→numW ((wordsL ws).getD j [])=some (xs.getD j 0))∧(∀x,x ∈ xs→InI64 x)∧Below w.heap.size w wr) (fun _ i _=>n - (intOf i).toNat)
 case atStart=>exact ⟨0,none,0,[],Nat.zero_le _,rfl,rfl,OwnA.none _ _,fun j hj=>by omega,fun x hx=>by simp at hx,Below.refl _ _⟩
 case round=>
   obtain ⟨k,a,c,xs,hk,rfl,rfl,ho,hv,hx,hb⟩:=hrel
   have HO:=Lib.hid ho
   have HV:=Lib.hid hv
   have HX:=Lib.hid hx
   have HB:=Lib.hid hb
   clear ho hv hx hb
   by_cases hlt:k<n
   · obtain ⟨b,off,hae,hbl,hc⟩:=(HA.out.below HB.out) k (by rw [HN.out];exact hlt)
     subst hae
     obtain ⟨s,hsk⟩: ∃s,ws[k]'(by rw [HN.out];exact hlt)=s:=⟨_,rfl⟩
     rw [hsk] at hc
     have hsz:=HS.out s (by rw [←hsk];exact List.getElem_mem _)
     have hwk:(wordsL ws).getD k []=s.data.toList:=by
       unfold wordsL
       simp [List.getD,List.getElem?_eq_getElem (show k<ws.length by rw [HN.out];exact hlt),hsk]
     have HW:=Lib.hid hwk
     have HLw:=Lib.hid (HL.out.below HB.out)
     clear hsk hwk
     have k0:(0:Int)≤(k:Int):=by omega
     have k1:(k:Int)<(n:Int):=by omega
     go_wp2_with fail
     refine (atoi_call s _ hsz (by exact HLw.out)).mono ?_
     rintro e w1 ⟨hb1,⟨v,hv,rfl⟩ | ⟨u,p,hno,rfl⟩⟩
     · have HB1:=Lib.hid (bTrans HB.out hb1)
       have HO1:=Lib.hid (HO.out.below' hb1)
       have HL1:=Lib.hid (HLw.out.below hb1)
       have hiv:=atoi_bd hv
       have HVV:=Lib.hid hv
       clear hb1 hc hv
       go_wp2_with fail
       refine (itoa_call v _ hiv.1 hiv.2 (by exact HL1.out)).mono ?_
       rintro e w2 ⟨rfl,hb2⟩
       have HB2:=Lib.hid (bTrans HB1.out hb2)
       have HO2:=Lib.hid (HO1.out.below' hb2)
       clear hb2
       by_cases hq:Lib.itoa v=s.data.toList
       · have hes:(⟨(Lib.itoa v).toArray⟩:ByteArray)=s:=by rw [hq]
         have HNV:Hid (numW s.data.toList=some v):=Lib.hid (by unfold numW;rw [HVV.out];simp only [hq,if_true])
         rw [hes]
         clear hes hq
         go_wp2_with (at_builtin;refine wp_append _ rfl (.tmp 28) (.tmp 30) rfl w.heap.size k c a xs rfl (HO2.out.alloc _) w2.heap.size v rfl (by go_simp) (by omega) (by have:=HB2.out.size;simp;omega) ?_;intro ad2 cap2 w5 ho5 hg5)
         have HW5:=Lib.hid ((HB2.out.alloc HB2.out.size _).grown hg5 (by have:=HB2.out.size;simp;omega) (fun b hb=>(HO2.out.bd b hb).1))
         have HO5:=Lib.hid ho5
         have HXL:=Lib.hid HO2.out.len
         clear ho5 hg5
         go_roundw
         case rel=>exact ⟨k+1,ad2,cap2,xs++ [v],by omega,by go_num,rfl,HO5.out,fun j hj=>by
           by_cases e:j<k
           · rw [HV.out j e]
             congr 1
             simp [List.getD,List.getElem?_append,show j<xs.length by rw [HXL.out];exact e]
           · obtain rfl:j=k:=by omega
             rw [HW.out,HNV.out]
             congr 1
             simp [List.getD,List.getElem?_append,HXL.out],fun x hx=>by
           rcases List.mem_append.1 hx with hx | hx
           · exact HX.out x hx
           · simp at hx;rw [hx];exact hiv,HW5.out⟩
         case measure=>simp [intOf];omega
       · have HNV:Hid (numW s.data.toList=none):=Lib.hid (by unfold numW;rw [HVV.out];simp only [hq,if_false])
         obtain ⟨s2,hs2⟩: ∃s2:ByteArray,(⟨(Lib.itoa v).toArray⟩:ByteArray)=s2:=⟨_,rfl⟩
         have hne: ¬s2=s:=by
           intro e
           apply hq
           rw [←e,←hs2]
         rw [hs2]
         have q1:(s2.toList==s.toList)=false:=by
           rw [beq_eq_false_iff_ne]
           intro e
           rw [ByteArray.toList_eq,ByteArray.toList_eq] at e
           exact hne (ByteArray.ext (Array.toList_inj.1 e))
         have q2:(!s2.toList==s.toList)=true:=by rw [q1];rfl
         clear hq hs2
         go_wp2_with fail
         go_ret2
         exact ⟨HB2.out, .inl ⟨numsW_no _ k (by unfold wordsL;rw [List.length_map,HN.out];exact hlt) (by rw [HW.out];exact HNV.out),_,rfl⟩⟩
     · have HB1:=Lib.hid (bTrans HB.out hb1)
       have HNV:Hid (numW s.data.toList=none):=Lib.hid (by
         unfold numW
         rcases ha:Lib.atoiAll s.data.toList with v | _ | _
         · exact absurd ha (hno v)
         · rfl
         · rfl)
       clear hb1 hno hc
       go_wp2_with fail
       go_ret2
       exact ⟨HB1.out, .inl ⟨numsW_no _ k (by unfold wordsL;rw [List.length_map,HN.out];exact hlt) (by rw [HW.out];exact HNV.out),_,rfl⟩⟩
   · obtain rfl:k=n:=by omega
     go_wp2_with fail
     go_ret2
     exact ⟨HB.out, .inr ⟨xs,a,k,c,numsW_yes _ _ (by unfold wordsL;rw [List.length_map,HN.out,HO.out.len]) (fun j hj=>HV.out j (by unfold wordsL at hj;rw [List.length_map,HN.out] at hj;exact hj)),rfl,HO.out,HX.out⟩⟩
end Go.Proofs.YtanccoopbgamdaaGreatDoor
namespace Go.Proofs.YtanccoopbgamdaaGreatDoor
set_option linter.unusedVariables false
set_option linter.unusedSimpArgs false
structure Sp where
 r:List Int
 x:Int
 y:Int
 dx:Int
 dy:Int
def spInit (s:Nat):Sp:=⟨List.replicate (s*s) (-1),0,0,1,0⟩
def spTurn (s:Nat) (r:List Int) (u v:Int):Bool:=!(decide (0≤u∧u≤(s:Int) - 1)) || (!(decide (0≤v∧v≤(s:Int) - 1)) || decide (0≤r.getD (v*s+u).toNat 0))
def spStep (s:Nat) (n:Nat) (t:Sp):Sp:=
 match spTurn s (t.r.set (t.y*s+t.x).toNat (n:Int)) (t.x+t.dx) (t.y+t.dy) with
 | true=>⟨t.r.set (t.y*s+t.x).toNat (n:Int),t.x - t.dy,t.y+t.dx,-t.dy,t.dx⟩
 | false=>⟨t.r.set (t.y*s+t.x).toNat (n:Int),t.x+t.dx,t.y+t.dy,t.dx,t.dy⟩
def spState (s:Nat):Nat→Sp
 | 0=>spInit s
 | k+1=>spStep s k (spState s k)
def spOk (s:Nat) (t:Sp):Bool:=decide (0≤t.x∧t.x<(s:Int)∧0≤t.y∧t.y<(s:Int)∧-1≤t.dx∧t.dx≤1∧-1≤t.dy∧t.dy≤1∧t.dy*(s:Int)+t.dx≠0)
def spCheck (s:Nat):Nat→Nat→Sp→Bool
 | 0,_,t=>matOk s s t.r
 | f+1,k,t=>spOk s t && spCheck s f (k+1) (spStep s k t)
def spAll:Bool:=[1,2,3,4,5,6,7,8,9,10,11,12,13,14,15,16].all (fun s=>spCheck s (s*s) 0 (spInit s))
theorem spAll_ok:spAll=true:=by decide+kernel
theorem spCheck_at (s:Nat): ∀(f k:Nat),spCheck s f k (spState s k)=true→(∀j,j<f→spOk s (spState s (k+j))=true)∧matOk s s (spState s (k+f)).r=true:=by
 intro f
 induction f with
 | zero=>intro k h;exact ⟨fun j hj=>absurd hj (by omega),h⟩
 | succ f ih=>
   intro k h
   unfold spCheck at h
   rw [Bool.and_eq_true] at h
   have e:spStep s k (spState s k)=spState s (k+1):=rfl
   rw [e] at h
   obtain ⟨h1,h2⟩:=ih (k+1) h.2
   refine ⟨fun j hj=>?_,?_⟩
   · match j with
     | 0=>exact h.1
     | j+1=>have:=h1 j (by omega);rwa [Nat.add_right_comm] at this
   · rwa [Nat.add_right_comm] at h2
theorem sp_facts (s:Nat) (h1:1≤s) (h2:s≤16):(∀j,j<s*s→spOk s (spState s j)=true)∧matOk s s (spState s (s*s)).r=true:=by
 have h:=spAll_ok
 unfold spAll at h
 rw [List.all_eq_true] at h
 have h3:=h s (by simp;omega)
 have h4:=spCheck_at s (s*s) 0 h3
 simpa using h4
theorem sp_len (s k:Nat):(spState s k).r.length=s*s:=by
 induction k with
 | zero=>simp [spState,spInit]
 | succ k ih=>
   simp only [spState,spStep]
   split <;>simp [ih]
def spiralF (side:Int):Mat × Bool:=if 1≤side∧side≤16 then (⟨side,side,(spState side.toNat (side.toNat*side.toNat)).r⟩,true) else (noMat,false)
theorem spiralF_no {s:Int} (h: ¬(1≤s∧s≤16)):spiralF s=(noMat,false):=by unfold spiralF;rw [if_neg h]
theorem spiralF_yes {s:Nat} (h1:1≤s) (h2:s≤16):spiralF (s:Int)=(⟨s,s,(spState s (s*s)).r⟩,true):=by unfold spiralF;rw [if_pos ⟨by omega,by omega⟩];rfl
theorem spOk_bd {s:Nat} {t:Sp} (h:spOk s t=true):0≤t.x∧t.x<(s:Int)∧0≤t.y∧t.y<(s:Int)∧-1≤t.dx∧t.dx≤1∧-1≤t.dy∧t.dy≤1∧t.dy*(s:Int)+t.dx≠0:=by
 unfold spOk at h
 exact of_decide_eq_true h
theorem spStep_turn {s k:Nat} {t:Sp} (h:spTurn s (t.r.set (t.y*s+t.x).toNat (k:Int)) (t.x+t.dx) (t.y+t.dy)=true):spStep s k t=⟨t.r.set (t.y*s+t.x).toNat (k:Int),t.x - t.dy,t.y+t.dx,-t.dy,t.dx⟩:=by
 unfold spStep;rw [h]
theorem spStep_on {s k:Nat} {t:Sp} (h:spTurn s (t.r.set (t.y*s+t.x).toNat (k:Int)) (t.x+t.dx) (t.y+t.dy)=false):spStep s k t=⟨t.r.set (t.y*s+t.x).toNat (k:Int),t.x+t.dx,t.y+t.dy,t.dx,t.dy⟩:=by
 unfold spStep;rw [h]
theorem spTurn_u {s:Nat} {r:List Int} {u v:Int} (h: ¬(0≤u∧u≤(s:Int) - 1)):spTurn s r u v=true:=by
 unfold spTurn;rw [decide_eq_false h];rfl
theorem spTurn_v {s:Nat} {r:List Int} {u v:Int} (h: ¬(0≤v∧v≤(s:Int) - 1)):spTurn s r u v=true:=by
 unfold spTurn;rw [decide_eq_false h];simp
end Go.Proofs.YtanccoopbgamdaaGreatDoor
namespace Go.Proofs.YtanccoopbgamdaaGreatDoor
open Go.ChangeMaps Go.MapKept
open Go.Maps (Keyed)
set_option linter.unusedVariables false
set_option linter.unusedSimpArgs false
theorem cell_laid:laidOutB Tryz.prog=true:=by kernel_rfl
theorem cell_row:(149:TypeId)<Tryz.prog.types.size:=of_decide_eq_true (by kernel_rfl)
theorem cell_wide:(match Tryz.prog.underlying 149 with | some (.array _ _) | some (.struct _)=>true | _=>false)=true:=by rw [Tryz.underlying149]
set_option maxRecDepth 100000 in
theorem cell_law:Keyed Tryz.prog 149:=Keyed.of_law (deep_law_laid cell_laid (m:=2) (by omega) cell_row (by kernel_rfl) cell_wide)
theorem cell_cells:Tryz.prog.cellsOf 149=2:=by kernel_rfl
theorem cell_key:Tryz.prog.keyType 149=true:=by kernel_rfl
def cellV (x y:Int):Value:= .agg #[.int .i64 x, .int .i64 y]
def cellK (x y:Int):Lit:= .string (keyBytes [.int .i64 x, .int .i64 y])
def In64 (x:Int):Prop:=(Lit.int .i64 x).wf=true
theorem in64_of {x:Int} (h1:-9223372036854775808≤x) (h2:x≤9223372036854775807):In64 x:=by
 have e1:IntKind.i64.min=-9223372036854775808:=by decide
 have e2:IntKind.i64.max=9223372036854775807:=by decide
 show (decide (IntKind.i64.min≤x) && decide (x≤IntKind.i64.max))=true
 rw [e1,e2,Bool.and_eq_true]
 exact ⟨decide_eq_true h1,decide_eq_true h2⟩
theorem cell_int:Tryz.prog.cellsOf 3=1:=by kernel_rfl
theorem cell_lit {x:Int} (hx:In64 x) (d:Nat):Tryz.prog.keyLits (d+1) 3 [.int .i64 x]=some [.int .i64 x]:=by
 unfold Program.keyLits
 rw [Tryz.underlying3]
 have hx':(Lit.int .i64 x).wf=true:=hx
 simp [hx']
theorem cell_keyOf {x y:Int} (hx:In64 x) (hy:In64 y):keyOf Tryz.prog 149 (cellV x y)=some (cellK x y):=by
 have h1:(Value.agg #[.int .i64 x, .int .i64 y]).formed Tryz.prog 149=true:=by simp [Value.formed,Tryz.underlying149,cell_cells]
 have h2: ∀d,Tryz.prog.keyLits (d+2) 149 [.int .i64 x, .int .i64 y]=some [.int .i64 x, .int .i64 y]:=by
   intro d
   unfold Program.keyLits
   rw [Tryz.underlying149]
   simp [cell_cells,cell_int,cell_lit hx,cell_lit hy]
 have hs: ∃n,Tryz.prog.types.size+1=n+2:=⟨Tryz.prog.types.size - 1,by have h:(149:Nat)<Tryz.prog.types.size:=cell_row;omega⟩
 obtain ⟨n,hn⟩:=hs
 unfold keyOf cellV cellK
 rw [Tryz.underlying149,hn]
 simp [cell_key,h1,Value.cells,h2]
theorem cellK_inj {x y x' y':Int} (hx:In64 x) (hy:In64 y) (hx':In64 x') (hy':In64 y') (h:cellK x y=cellK x' y'):x=x'∧y=y':=by
 have h1:=cell_keyOf hx hy
 rw [h] at h1
 have h2:=cell_law.inj h1 (cell_keyOf hx' hy')
 unfold cellV at h2
 simpa using h2
theorem cell_zero (w:World):(zeroValue 4).run Tryz.prog w= .ok (.bool false) w:=by kernel_rfl
theorem plainElem_bool_inv {H:Type} {P:Program} {e:TypeId} (he:P.underlying e=some .bool) {v:Value} {b:Bool} {ps:List MemPlace} (h:plainElem (H:=H) P e v=some (.lit (.bool b),ps)):v= .bool b:=by
 unfold plainElem at h
 rw [he] at h
 cases v <;>simp at h
 rw [h.1]
def VM (w:World) (b n:Nat) (S:Int→Int→Bool):Prop:=
 ∃D:DataW Unit,Maps.IsMap D∧w.ownsMap Tryz.prog 149 (plainElem Tryz.prog 4) b n D∧ ∀x y,In64 x→In64 y→D.atKey (cellK x y) (.lit (.bool false))= .lit (.bool (S x y))
theorem vm_made (w:World):VM (w.alloc (.map #[] 0)) w.heap.size 0 (fun _ _=>false):=
 ⟨.map [],Maps.isMap_empty,World.ownsMap_made w _ _ _,fun x y _ _=>rfl⟩
theorem VM.kept {w w':World} {b n:Nat} {S:Int→Int→Bool} {row:Option Nat} (h:VM w b n S) (hg:w.grownBy w' row) (hne:some b≠row):VM w' b n S:=by
 obtain ⟨D,h1,h2,h3⟩:=h
 exact ⟨D,h1,h2.kept hg hne,h3⟩
theorem VM.alloc {w:World} {b n:Nat} {S:Int→Int→Bool} (h:VM w b n S) (o:Obj):VM (w.alloc o) b n S:=h.kept (World.grownBy_alloc w o none) (by simp)
theorem VM.drew {w:World} {b n:Nat} {S:Int→Int→Bool} (h:VM w b n S):VM w.drew b n S:=h
theorem VM.lt {w:World} {b n:Nat} {S:Int→Int→Bool} (h:VM w b n S):b<w.heap.size:=by
 obtain ⟨D,h1,h2,h3⟩:=h
 exact h2.lt
theorem VM.look {w:World} {b n:Nat} {S:Int→Int→Bool} (h:VM w b n S) {x y:Int} (hx:In64 x) (hy:In64 y):
   (Instr.lookup 147 (.map (some b)) (cellV x y) false).run Tryz.prog w= .ok (.bool (S x y)) w:=by
 obtain ⟨D,h1,h2,h3⟩:=h
 obtain ⟨v,ps,hrun,hv⟩:=h2.lookup cell_law Tryz.underlying147 (cell_zero w) (plainElem_bool Tryz.underlying4 false) (cell_keyOf hx hy)
 rw [h3 x y hx hy] at hv
 rw [plainElem_bool_inv Tryz.underlying4 hv] at hrun
 exact hrun
def putS (S:Int→Int→Bool) (x y:Int):Int→Int→Bool:=fun u v=>(decide (u=x) && decide (v=y)) || S u v
theorem wp_vmPut (w:World) {ops:Array Oper} {rest:List Oper} {o:Oper} {a:Act} {Q:Exit→Act→World→Prop}
   (hg:o.guard=none) (m x v:Operand) (hop:o.op=Op.mapUpdate 147 m x v)
   (b n:Nat) (S:Int→Int→Bool) (X Y:Int) (hm:a.eval m= .map (some b)) (hown:VM w b n S) (hn:n<maxLen) (hx:a.eval x=cellV X Y) (hv:a.eval v= .bool true) (hX:In64 X) (hY:In64 Y)
   (hK: ∀w',VM w' b (n+1) (putS S X Y)→w.grownBy w' (some b)→wpList Tryz.prog ops Q rest (a.put o.dst undef) w'):
   wpList Tryz.prog ops Q (o::rest) a w:=by
 obtain ⟨D,h1,h2,h3⟩:=hown
 refine wpList_mapUpdate_own w hg m x v _ hop _ _ cell_law Tryz.underlying147 _ b n D hm h2 hn _ _ _ hx hv (cell_keyOf hX hY) _ _ (plainElem_bool Tryz.underlying4 true) (fun w' r1 r2=>hK w' ⟨_,h1.put _ _,r1,?_⟩ r2)
 intro u v hu hv
 by_cases e:u=X∧v=Y
 · obtain ⟨rfl,rfl⟩:=e
   rw [Maps.atKey_put_same h1 (cell_law.key (cell_keyOf hX hY))]
   simp [putS]
 · have hne:cellK u v≠cellK X Y:=fun hh=>e (cellK_inj hu hv hX hY hh)
   rw [Maps.atKey_put_other hne,h3 u v hu hv]
   have:(decide (u=X) && decide (v=Y))=false:=by
     simp only [Bool.and_eq_false_iff,decide_eq_false_iff_not]
     by_cases e1:u=X
     · exact Or.inr (fun e2=>e ⟨e1,e2⟩)
     · exact Or.inl e1
   simp [putS,this]
theorem wp_makeMap (w:World) {ops:Array Oper} {rest:List Oper} {o:Oper} {a:Act} {Q:Exit→Act→World→Prop} {t:TypeId}
   (hg:o.guard=none) (hop:o.op=Op.makeMap t none)
   (hK:wpList Tryz.prog ops Q rest (a.put o.dst (.map (some w.heap.size))) (w.alloc (.map #[] 0))):wpList Tryz.prog ops Q (o::rest) a w:=by
 refine wpList_plain hg fun K hK'=>?_
 have hr:(Instr.makeMap t none).run Tryz.prog w= .ok (.map (some w.heap.size)) (w.alloc (.map #[] 0)):=rfl
 unfold Oper.wp
 simp [execOp,hop,hr,Result.andThen]
 exact hK' _ _ hK
theorem VM.same {w w':World} {b n:Nat} {S:Int→Int→Bool} (h:VM w b n S) (hb:w'.heap[b]? =w.heap[b]?):VM w' b n S:=by
 obtain ⟨D,h1,⟨es,clock,h2,h3⟩,h4⟩:=h
 exact ⟨D,h1,⟨es,clock,hb.trans h2,h3⟩,h4⟩
end Go.Proofs.YtanccoopbgamdaaGreatDoor
namespace Go.Proofs.YtanccoopbgamdaaGreatDoor
open Go.RowKit
set_option linter.unusedVariables false
set_option linter.unusedSimpArgs false
set_option maxHeartbeats 400000 in
theorem impl_plusW (a b c d:Int) (w:World) (h1:IntKind.i64.wrap (a+c)=a+c) (h2:IntKind.i64.wrap (b+d)=b+d):
   Calls Tryz.prog 119 #[.agg #[.int .i64 a, .int .i64 b], .agg #[.int .i64 c, .int .i64 d]] w fun e w'=>e= .returned (.agg #[.int .i64 (a+c), .int .i64 (b+d)])∧Below w.heap.size w w':=by
 go_enter Tryz.func119,Tryz.ntmps119
 go_wp2
 refine bodyPost_ret (v:= .agg #[.int .i64 (a+c), .int .i64 (b+d)]) (by simp [results,Tryz.results119,go_sem]) rfl ⟨rfl,(Joins.below_alloc2 _ _ _).trans ((Joins.below_alloc1 _ _).mono (by simp;omega))⟩
set_option maxHeartbeats 400000 in
theorem impl_turned (a b:Int) (w:World) (h1:IntKind.i64.wrap (-b)=-b):
   Calls Tryz.prog 121 #[.agg #[.int .i64 a, .int .i64 b]] w fun e w'=>e= .returned (.agg #[.int .i64 (-b), .int .i64 a])∧Below w.heap.size w w':=by
 go_enter Tryz.func121,Tryz.ntmps121
 go_wp2
 refine bodyPost_ret (v:= .agg #[.int .i64 (-b), .int .i64 a]) (by simp [results,Tryz.results121,go_sem]) rfl ⟨rfl,Joins.below_alloc2 _ _ _⟩
theorem cell_idx {s:Nat} {x y u v:Int} (x0:0≤x) (x1:x<(s:Int)) (u0:0≤u) (u1:u<(s:Int)) (h:v*(s:Int)+u=y*(s:Int)+x):u=x∧v=y:=by
 have hs:(0:Int)≤(s:Int):=by omega
 have hvy:v=y:=by
   rcases Int.lt_trichotomy v y with h1 | h1 | h1
   · have:=Int.mul_le_mul_of_nonneg_right (show v+1≤y by omega) hs
     rw [Int.add_mul,Int.one_mul] at this
     omega
   · exact h1
   · have:=Int.mul_le_mul_of_nonneg_right (show y+1≤v by omega) hs
     rw [Int.add_mul,Int.one_mul] at this
     omega
 subst hvy
 exact ⟨by omega,rfl⟩
theorem putS_ok {s k:Nat} {r:List Int} {S:Int→Int→Bool} {x y:Int} (hl:r.length=s*s) (x0:0≤x) (x1:x<(s:Int)) (y0:0≤y) (y1:y<(s:Int))
   (h: ∀u v,0≤u∧u≤(s:Int) - 1→0≤v∧v≤(s:Int) - 1→S u v=decide (0≤r.getD (v*s+u).toNat 0)):
   ∀u v,0≤u∧u≤(s:Int) - 1→0≤v∧v≤(s:Int) - 1→putS S x y u v=decide (0≤(r.set (y*s+x).toNat (k:Int)).getD (v*s+u).toNat 0):=by
 intro u v hu hv
 obtain ⟨i0,i1⟩:=row_bd x0 x1 y0 y1
 obtain ⟨j0,j1⟩:=row_bd (x:=u) (y:=v) (W:=(s:Int)) (H:=(s:Int)) hu.1 (by omega) hv.1 (by omega)
 have hlt:(y*(s:Int)+x).toNat<r.length:=by
   rw [hl]
   have e:((s*s:Nat):Int)=(s:Int)*(s:Int):=by simp
   omega
 rw [getD_set _ _ _ _ hlt]
 unfold putS
 by_cases e:u=x∧v=y
 · obtain ⟨rfl,rfl⟩:=e
   rw [if_pos rfl]
   simp
 · have hne:(y*(s:Int)+x).toNat≠(v*(s:Int)+u).toNat:=fun hh=>e (cell_idx x0 x1 hu.1 (by omega) (by omega))
   rw [if_neg hne,h u v hu hv]
   have:(decide (u=x) && decide (v=y))=false:=by
     simp only [Bool.and_eq_false_iff,decide_eq_false_iff_not]
     by_cases e1:u=x
     · exact Or.inr (fun e2=>e ⟨e1,e2⟩)
     · exact Or.inl e1
   rw [this]
   simp
theorem spTurn_b {s:Nat} {r:List Int} {u v:Int} {b:Bool} (h:0≤u∧u≤(s:Int) - 1→0≤v∧v≤(s:Int) - 1→b=decide (0≤r.getD (v*s+u).toNat 0)) (hb:b=true):spTurn s r u v=true:=by
 by_cases hu:0≤u∧u≤(s:Int) - 1
 · by_cases hv:0≤v∧v≤(s:Int) - 1
   · unfold spTurn
     rw [←h hu hv,hb]
     simp
   · exact spTurn_v hv
 · exact spTurn_u hu
theorem spTurn_on {s:Nat} {r:List Int} {u v:Int} {b:Bool} (h:0≤u∧u≤(s:Int) - 1→0≤v∧v≤(s:Int) - 1→b=decide (0≤r.getD (v*s+u).toNat 0)) (hb:b=false) (hu:0≤u∧u≤(s:Int) - 1) (hv:0≤v∧v≤(s:Int) - 1):spTurn s r u v=false:=by
 unfold spTurn
 rw [←h hu hv,hb,decide_eq_true hu,decide_eq_true hv]
 rfl
def cl (r:List Int):List Int:=r.map (fun v=>if v<0 then 0 else v)
theorem cl_start (n:Nat):cl (List.replicate n (-1))=List.replicate n 0:=by unfold cl;rw [List.map_replicate];rfl
theorem cl_set (r:List Int) (i k:Nat):cl (r.set i (k:Int))=(cl r).set i (k:Int):=by
 unfold cl
 rw [List.map_set,if_neg (by omega)]
theorem cl_end {r:List Int} (h: ∀v ∈ r,0≤v):cl r=r:=by
 unfold cl
 conv=>rhs;rw [←List.map_id r]
 exact List.map_congr_left (fun v hv=>by have:=h v hv;rw [if_neg (by omega)];rfl)
theorem sp_start {s:Nat} {u v:Int} (hu:0≤u∧u≤(s:Int) - 1) (hv:0≤v∧v≤(s:Int) - 1):false=decide (0≤(spState s 0).r.getD (v*s+u).toNat 0):=by
 obtain ⟨j0,j1⟩:=row_bd (x:=u) (y:=v) (W:=(s:Int)) (H:=(s:Int)) hu.1 (by omega) hv.1 (by omega)
 have e:((s*s:Nat):Int)=(s:Int)*(s:Int):=by simp
 have hlt:(v*(s:Int)+u).toNat<s*s:=by omega
 have h:(spState s 0).r.getD (v*s+u).toNat 0=-1:=by
   simp only [spState,spInit,List.getD]
   rw [List.getElem?_replicate,if_pos hlt]
   rfl
 rw [h]
 rfl
theorem mat_pos {W H:Int} {xs:List Int} (h:matOk W H xs=true): ∀v ∈ xs,0≤v:=by
 obtain ⟨_,_,h3,_⟩:=matOk_bd rfl h
 unfold inR at h3
 rw [List.all_eq_true] at h3
 intro v hv
 have:=h3 v hv
 simp at this
 omega
end Go.Proofs.YtanccoopbgamdaaGreatDoor
