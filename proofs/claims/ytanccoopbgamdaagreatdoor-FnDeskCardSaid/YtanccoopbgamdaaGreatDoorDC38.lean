/-
  Contracts and plain facts on which the theorem of this claim rests, text 38.
-/
import Derived.Deep.Cut
import Derived.Deep.QuietTactic
import Derived.Deep.RegionHeld3
import Derived.Lib.Bytealg
import Derived.Test.YtanccoopbgamdaaGreatDoorDC3
import Derived.Test.YtanccoopbgamdaaGreatDoorDC4
import Derived.Test.YtanccoopbgamdaaGreatDoorDC5
import Derived.Test.YtanccoopbgamdaaGreatDoorDC6
import Derived.Test.YtanccoopbgamdaaGreatDoorDC9
import Derived.Test.YtanccoopbgamdaaGreatDoorDC12
import Derived.Test.YtanccoopbgamdaaGreatDoorDC37
namespace Go.Proofs.YtanccoopbgamdaaGreatDoor
open Go.RowKit
set_option linter.unusedVariables false
set_option linter.unusedSimpArgs false
structure Boxes where
 k1:Nat
 a1:Nat
 g1:Nat
 k2:Nat
 a2:Nat
 g2:Nat
 k3:Nat
 a3:Nat
 g3:Nat
 k4:Nat
 a4:Nat
 g4:Nat
 b1:Nat
 b2:Nat
 b3:Nat
def Boxes.S (x:Boxes):List UInt8→Option Value:=plainS x.k1 x.a1 x.k2 x.a2 x.k3 x.a3 x.k4 x.a4 x.b1 x.b2 x.b3
structure BoxesIn (x:Boxes) (w:World):Prop where
 d1:DiffBox x.k1 x.a1 x.g1 4 steinK false w
 d2:DiffBox x.k2 x.a2 x.g2 4 steinK true w
 d3:DiffBox x.k3 x.a3 x.g3 1 plainK false w
 d4:DiffBox x.k4 x.a4 x.g4 1 plainK true w
 c1:ChgBox x.b1 81 w
 c2:ChgBox x.b2 82 w
 c3:ChgBox x.b3 83 w
theorem impl_plainBoxes (w:World):Calls Tryz.prog 64 #[] w fun e w'=> ∃x:Boxes,e= .returned (.map (some w.heap.size))∧VS w' w.heap.size 15 x.S∧BoxesIn x w'∧Below w.heap.size w w':=by
 refine (impl_plainCommands w).mono ?_
 rintro e w' ⟨k1,a1,g1,k2,a2,g2,k3,a3,g3,k4,a4,g4,b1,b2,b3,h1,h2,h3,h4,h5,h6,h7,h8,h9,h10⟩
 exact ⟨⟨k1,a1,g1,k2,a2,g2,k3,a3,g3,k4,a4,g4,b1,b2,b3⟩,h1,h2,⟨h3,h4,h5,h6,h7,h8,h9⟩,h10⟩
def wordsF (s:ByteArray):List ByteArray:=Lib.splitB ⟨#[32]⟩ 0 (min 4 (s.size+1) - 1) s
theorem wordsF_len (s:ByteArray):1≤(wordsF s).length∧(wordsF s).length≤min 4 (s.size+1):=by
 unfold wordsF
 have h1:=Lib.splitB_length_le ⟨#[32]⟩ 0 (min 4 (s.size+1) - 1) s
 constructor
 · cases min 4 (s.size+1) - 1 with
   | zero=>simp [Lib.splitB]
   | succ k=>unfold Lib.splitB;split <;>simp
 · omega
theorem NumCmd.shape {w:World} {l:List UInt8} {xs:List Int} {e:Ending} {w':World} (h:NumCmd w l xs e w'): ∃v bo,e= .returned (.tuple #[v, .bool bo]):=by
 cases h with
 | flat h=>obtain ⟨a,n,c,he,_⟩:=h;exact ⟨_,_,he⟩
 | ramp h=>obtain ⟨a,n,c,he,_⟩:=h;exact ⟨_,_,he⟩
 | bayer h=>obtain ⟨mb,a,n,c,he,_⟩:=h;exact ⟨_,_,he⟩
 | spiral h=>obtain ⟨mb,a,n,c,he,_⟩:=h;exact ⟨_,_,he⟩
 | spot h=>obtain ⟨mb,a,n,c,he,_⟩:=h;exact ⟨_,_,he⟩
 | rank h=>obtain ⟨mb,a,n,c,he,_⟩:=h;exact ⟨_,_,he⟩
 | shift h=>exact ⟨_,_,rfl⟩
 | level=>exact ⟨_,_,rfl⟩
 | none h=>exact ⟨_,_,rfl⟩
theorem extract_le (s:ByteArray) (a b:Nat):(s.extract a b).size≤s.size:=by
 rw [ByteArray.size_extract];omega
theorem splitB_size (sep:ByteArray): ∀(k:Nat) (s:ByteArray) (t:ByteArray),t ∈ Lib.splitB sep 0 k s→t.size≤s.size
 | 0,s,t,h=>by simp [Lib.splitB] at h;rw [h];exact Nat.le_refl _
 | k +1,s,t,h=>by
   unfold Lib.splitB at h
   split at h
   · simp at h;rw [h];exact Nat.le_refl _
   · rcases List.mem_cons.1 h with rfl | h
     · exact extract_le _ _ _
     · exact Nat.le_trans (splitB_size sep k _ t h) (extract_le _ _ _)
theorem rdS_new (w:World) (ws:List ByteArray) (N T:Nat):RdS (w.alloc (.cells (Lib.cellsOf ws N) T)) (some ⟨w.heap.size,0,none⟩) ws:=by
 intro k hk
 refine ⟨w.heap.size,0,rfl,by simp,?_⟩
 have h:=(Blk.new w T (Lib.cellsOf ws N)).cell k
 rw [Nat.zero_add,h]
 simp only [Lib.cellsOf,List.getElem?_toArray]
 rw [List.getElem?_append_left (by simpa using hk)]
 simp [hk]
theorem RdS.tail {w:World} {b:Nat} {ws:List ByteArray} (h:RdS w (some ⟨b,0,none⟩) ws):RdS w (some ⟨b,1,none⟩) ws.tail:=by
 intro k hk
 have hk2:k+1<ws.length:=by simp at hk;omega
 obtain ⟨b',off,he,hl,hc⟩:=h (k+1) hk2
 obtain ⟨rfl,rfl⟩:b=b'∧0=off:=by simpa using he
 refine ⟨b,1,rfl,hl,?_⟩
 rw [show 1+k=0+(k+1) by omega,hc]
 simp
def CmdRes (s:ByteArray) (w:World) (e:Ending) (w':World):Prop:=
 Below w.heap.size w w'∧ ∃x:Boxes,((∃v,x.S s.data.toList=some v∧e= .returned (.tuple #[v, .bool true])∧BoxesIn x w')∨
   (x.S s.data.toList=none∧((numsW (wordsL (wordsF s).tail)=none∧ ∃v,e= .returned (.tuple #[v, .bool false]))∨
     ∃xs w1,numsW (wordsL (wordsF s).tail)=some xs∧(∀x,x ∈ xs→InI64 x)∧Below w.heap.size w w1∧NumCmd w1 ((wordsF s).getD 0 ByteArray.empty).toList xs e w')))
set_option maxRecDepth 100000 in
set_option maxHeartbeats 1600000 in
theorem impl_commandOf (s:ByteArray) (w:World) (hs:s.size≤1048576) (hL:LaidW w):Calls Tryz.prog 40 #[.string s] w (CmdRes s w):=by
 have HLW:=Lib.hid hL
 clear hL
 go_enter Tryz.func40,Tryz.ntmps40
 go_wp2_with fail
 refine (impl_plainBoxes _).mono ?_
 rintro e w1 ⟨x,rfl,hv,hx,hb⟩
 have HB1:=Lib.hid hb
 have HX:=Lib.hid hx
 have HV:=Lib.hid hv
 clear hb hx hv
 have hlk:=HV.out.look s (by unfold maxLen;omega)
 cases hS:x.S s.data.toList with
 | some v=>
   rw [hS] at hlk
   simp only [Option.getD_some,Option.isSome_some] at hlk
   go_wp2_with fail
   go_ret2
   exact ⟨HB1.out,x, .inl ⟨v,hS,rfl,HX.out⟩⟩
 | none=>
   rw [hS] at hlk
   simp only [Option.getD_none,Option.isSome_none] at hlk
   go_wp2_with fail
   obtain ⟨m,hm⟩:=(HLW.out.below HB1.out).max
   have hws:=wordsF_len s
   refine (Tryz.strings_SplitN s ⟨#[32]⟩ 4 m w1 (by omega) hm (by decide) (by omega) (by omega)).mono ?_
   rintro e w2 ⟨rfl,hw2⟩
   obtain ⟨N,hN⟩: ∃N,N=min 4 (s.size+1):=⟨_,rfl⟩
   obtain ⟨ws,hwsd⟩: ∃ws,ws=wordsF s:=⟨_,rfl⟩
   have hwl:(Lib.splitB ⟨#[32]⟩ 0 (min 4 (s.size+1) - 1) s)=ws:=hwsd.symm
   rw [hwl] at hw2⊢
   rw [←hwsd,←hN] at hws
   rw [←hN] at hw2⊢
   have HR:Hid (RdS w2 (some ⟨w1.heap.size,0,none⟩) ws):=Lib.hid (by rw [hw2];exact rdS_new _ _ _ _)
   have HSZ:Hid (∀t,t ∈ ws→t.size≤1048576):=Lib.hid (fun t ht=>Nat.le_trans (splitB_size _ _ _ _ (by rw [hwsd] at ht;exact ht)) hs)
   have HB2:Hid (Below w.heap.size w w2):=Lib.hid (by rw [hw2];exact bAlloc HB1.out _)
   have HWD:=Lib.hid hwsd
   have hNb:N≤4:=by omega
   obtain ⟨L,hL⟩: ∃L,L=ws.length:=⟨_,rfl⟩
   rw [←hL] at hws⊢
   obtain ⟨hw1,hw4⟩:=hws
   have HLD:=Lib.hid hL
   clear hw2 hlk hm hN hwl hwsd hL
   by_cases hN1:N=1
   case pos=>
     have hL1:L=1:=by omega
     subst hN1 hL1
     have HT:Hid (RdS w2 (some ⟨w1.heap.size,0,none⟩) ws.tail):=Lib.hid (fun k hk=>by simp at hk;have:=HLD.out;omega)
     go_wp2_with fail
     refine (impl_numbersOf _ _ _ ws.tail _ (by simp;have:=HLD.out;omega) (HT.out) (by omega) (fun t ht=>HSZ.out t (List.mem_of_mem_tail ht)) (HLW.out.below HB2.out)).mono ?_
     rintro e w3 ⟨hb3,hres⟩
     have HB3:=Lib.hid (bTrans HB2.out hb3)
     have HR3:=Lib.hid (HR.out.below hb3)
     clear hb3
     rcases hres with ⟨hno,v,rfl⟩ | ⟨xs,na,nn,nc,hyes,rfl,ho,hi⟩
     · go_wp2_with fail
       go_ret2
       exact ⟨HB3.out,x, .inr ⟨hS, .inl ⟨by rw [←HWD.out];exact hno,_,rfl⟩⟩⟩
     · obtain ⟨wd,hwd⟩: ∃t,t=ws.getD 0 ByteArray.empty:=⟨_,rfl⟩
       have hc0:w3.cell? ⟨w1.heap.size,0,none⟩=some (.string wd):=by
         obtain ⟨b',off,he,hl,hc⟩:=HR3.out 0 (by have:=HLD.out;omega)
         obtain ⟨rfl,rfl⟩:w1.heap.size=b'∧0=off:=by simpa using he
         rw [hwd,hc]
         simp [List.getD_eq_getElem?_getD,(show 0<ws.length by have:=HLD.out;omega)]
       have HO:=Lib.hid ho
       have HI:=Lib.hid hi
       have HY:=Lib.hid hyes
       have HWDD:=Lib.hid hwd
       clear ho hi hyes hwd
       go_wp2_with fail
       refine (num_all wd na nn nc xs w3 HO.out.len (HO.out.rd)).mono ?_
       intro e w4 hc4
       have HC4:=Lib.hid hc4
       have hbb:=hc4.below
       have HB4:=Lib.hid (bTrans HB3.out hbb)
       have hshape:=hc4.shape
       obtain ⟨v,bo,rfl⟩:=hshape
       clear hc4 hbb
       go_wp2_with fail
       go_ret2
       exact ⟨HB4.out,x, .inr ⟨hS, .inr ⟨xs,w3,by rw [←HWD.out];exact HY.out,HI.out,HB3.out,by rw [←HWD.out,←HWDD.out];exact HC4.out⟩⟩⟩
   case neg=>
     have hN2:2≤N:=by omega
     go_wp2_with fail
     refine (impl_numbersOf _ _ _ ws.tail _ (by simp;have:=HLD.out;omega) (HR.out.tail) (by omega) (fun t ht=>HSZ.out t (List.mem_of_mem_tail ht)) (HLW.out.below HB2.out)).mono ?_
     rintro e w3 ⟨hb3,hres⟩
     have HB3:=Lib.hid (bTrans HB2.out hb3)
     have HR3:=Lib.hid (HR.out.below hb3)
     clear hb3
     rcases hres with ⟨hno,v,rfl⟩ | ⟨xs,na,nn,nc,hyes,rfl,ho,hi⟩
     · go_wp2_with fail
       go_ret2
       exact ⟨HB3.out,x, .inr ⟨hS, .inl ⟨by rw [←HWD.out];exact hno,_,rfl⟩⟩⟩
     · obtain ⟨wd,hwd⟩: ∃t,t=ws.getD 0 ByteArray.empty:=⟨_,rfl⟩
       have hc0:w3.cell? ⟨w1.heap.size,0,none⟩=some (.string wd):=by
         obtain ⟨b',off,he,hl,hc⟩:=HR3.out 0 (by have:=HLD.out;omega)
         obtain ⟨rfl,rfl⟩:w1.heap.size=b'∧0=off:=by simpa using he
         rw [hwd,hc]
         simp [List.getD_eq_getElem?_getD,(show 0<ws.length by have:=HLD.out;omega)]
       have HO:=Lib.hid ho
       have HI:=Lib.hid hi
       have HY:=Lib.hid hyes
       have HWDD:=Lib.hid hwd
       clear ho hi hyes hwd
       go_wp2_with fail
       refine (num_all wd na nn nc xs w3 HO.out.len (HO.out.rd)).mono ?_
       intro e w4 hc4
       have HC4:=Lib.hid hc4
       have hbb:=hc4.below
       have HB4:=Lib.hid (bTrans HB3.out hbb)
       have hshape:=hc4.shape
       obtain ⟨v,bo,rfl⟩:=hshape
       clear hc4 hbb
       go_wp2_with fail
       go_ret2
       exact ⟨HB4.out,x, .inr ⟨hS, .inr ⟨xs,w3,by rw [←HWD.out];exact HY.out,HI.out,HB3.out,by rw [←HWD.out,←HWDD.out];exact HC4.out⟩⟩⟩
end Go.Proofs.YtanccoopbgamdaaGreatDoor
namespace Go.Proofs.YtanccoopbgamdaaGreatDoor
set_option linter.unusedVariables false
set_option linter.unusedSimpArgs false
def dotB (v:Int):UInt8:=if v=1 then 35 else 46
def textAt (w:Nat) (xs:List Int) (j:Nat):UInt8:=if j % (w+1)=w then 10 else dotB (xs.getD (j/(w+1)*w+j % (w+1)) 0)
def textG (w h:Nat) (xs:List Int):List UInt8:=(List.range ((w+1)*h)).map (textAt w xs)
theorem textG_len (w h:Nat) (xs:List Int):(textG w h xs).length=(w+1)*h:=by simp [textG]
theorem textG_at {w h:Nat} {xs:List Int} {j:Nat} (hj:j<(w+1)*h):(textG w h xs)[j]? =some (textAt w xs j):=by
 simp [textG,hj]
theorem take_bytes {l:List UInt8} {k:Nat} {c:UInt8} (h:l[k]? =some c):l.take (k+1)=l.take k++ [c]:=by
 have hk:=(List.getElem?_eq_some_iff.1 h).1
 rw [List.take_succ_eq_append_getElem hk]
 rw [List.getElem?_eq_getElem hk] at h
 rw [Option.some.inj h]
theorem plate_dots {W H:Int} {xs:List Int} (h:picOk W H xs 1=true): ∃w h:Nat,W=(w:Int)∧H=(h:Int)∧1≤w∧w≤64∧1≤h∧h≤64∧w*h≤1024∧xs.length=w*h∧sizeOk W H=true∧ ∀k,k<xs.length→xs.getD k 0=0∨xs.getD k 0=1:=by
 obtain ⟨h1,h2,h3⟩:=picOk_bd rfl h
 obtain ⟨b1,b2,b3,b4,b5,b6⟩:=sizeOk_bd h1
 refine ⟨W.toNat,H.toNat,by omega,by omega,by omega,by omega,by omega,by omega,?_,?_,h1,fun k hk=>?_⟩
 · have e:((W.toNat*H.toNat:Nat):Int)=W*H:=by rw [Int.natCast_mul,Int.toNat_of_nonneg (by omega),Int.toNat_of_nonneg (by omega)]
   omega
 · have e:((W.toNat*H.toNat:Nat):Int)=W*H:=by rw [Int.natCast_mul,Int.toNat_of_nonneg (by omega),Int.toNat_of_nonneg (by omega)]
   omega
 · have:=within_at h3 k hk
   simp only [List.getD_eq_getElem?_getD]
   omega
end Go.Proofs.YtanccoopbgamdaaGreatDoor
namespace Go.Proofs.YtanccoopbgamdaaGreatDoor
open Go.RowKit
set_option linter.unusedVariables false
set_option linter.unusedSimpArgs false
def textF (W H:Int) (xs:List Int):List UInt8:=if picOk W H xs 1=true then textG W.toNat H.toNat xs else []
end Go.Proofs.YtanccoopbgamdaaGreatDoor
namespace Go.Proofs.YtanccoopbgamdaaGreatDoor
set_option linter.unusedVariables false
set_option linter.unusedSimpArgs false
def rightI (w i:Nat):Nat:=w*(i/w)+(i % w+1) % w
def leftI (w i:Nat):Nat:=w*(i/w)+(i % w+(w - 1)) % w
def downI (w h i:Nat):Nat:=w*((i/w+1) % h)+i % w
def upI (w h i:Nat):Nat:=w*((i/w+(h - 1)) % h)+i % w
theorem grid_div {w x y:Nat} (hx:x<w):(w*y+x)/w=y:=by
 rw [Nat.mul_add_div (by omega),Nat.div_eq_of_lt hx,Nat.add_zero]
theorem grid_mod {w x y:Nat} (hx:x<w):(w*y+x) % w=x:=by
 rw [Nat.mul_add_mod,Nat.mod_eq_of_lt hx]
section
variable {w h n i : Nat}
end
def nearS (w h:Nat) (xs:List Int) (i:Nat):Int:=xs.getD i 0+xs.getD (rightI w i) 0+xs.getD (leftI w i) 0+xs.getD (downI w h i) 0+xs.getD (upI w h i) 0
def leastG (w h:Nat) (xs:List Int) (n:Nat) (m:Int):List Int:=gen n (fun i=>if m≤nearS w h xs i then 1 else 0)
def DotsN (n:Nat) (xs:List Int):Prop:= ∀k,k<n→xs.getD k 0=0∨xs.getD k 0=1
theorem dotsN_of {xs:List Int} {n:Nat} (hn:xs.length=n) (h:within xs 1=true):DotsN n xs:=fun k hk=>by
 have:=within_at h k (by omega)
 simp only [List.getD_eq_getElem?_getD]
 omega
theorem least_within (w h n:Nat) (xs:List Int) (m:Int):within (leastG w h xs n m) 1=true:=by
 unfold within leastG gen
 rw [List.all_eq_true]
 intro v hv
 obtain ⟨i,_,rfl⟩:=List.mem_map.1 hv
 split <;>simp
section
variable {w h n : Nat} {xs : List Int}
end
end Go.Proofs.YtanccoopbgamdaaGreatDoor
namespace Go.Proofs.YtanccoopbgamdaaGreatDoor
open Go.RowKit
set_option linter.unusedVariables false
set_option linter.unusedSimpArgs false
def growF (m:Int) (W H:Int) (xs:List Int):Pic:=if picOk W H xs 1=true then ⟨W,H,leastG W.toNat H.toNat xs xs.length m⟩ else noPic
theorem growF_no {m W H:Int} {xs:List Int} (h: ¬picOk W H xs 1=true):growF m W H xs=noPic:=by unfold growF;rw [if_neg h]
theorem growF_yes {m W H:Int} {xs:List Int} {n:Nat} (hn:xs.length=n) (h:picOk W H xs 1=true):growF m W H xs=⟨W,H,leastG W.toNat H.toNat xs n m⟩:=by unfold growF;rw [if_pos h,hn]
theorem filled_skipW (ys xs:List Int) (k:Nat) (hk:k<ys.length) (hx:k<xs.length) (hv:ys.getD k 0=xs.getD k 0):filled ys xs k=filled ys xs (k+1):=by
 rw [←filled_succ ys xs k _ hk hx rfl,hv]
 apply List.ext_getElem?
 intro i
 rw [List.getElem?_set]
 by_cases h:k=i
 · subst h
   rw [if_pos rfl,if_pos (by simp [filled];omega)]
   simp only [filled]
   rw [List.getElem?_append_right (by simp;omega)]
   simp only [List.length_take,Nat.min_eq_left (Nat.le_of_lt hk),Nat.sub_self,List.getElem?_drop,Nat.add_zero]
   simp [List.getD,List.getElem?_eq_getElem hx]
 · rw [if_neg h]
theorem leastG_len (w h:Nat) (xs:List Int) (n:Nat) (m:Int):(leastG w h xs n m).length=n:=gen_len _ _
theorem leastG_at {w h:Nat} {xs:List Int} {n:Nat} {m:Int} {k:Nat} (hk:k<n):(leastG w h xs n m).getD k 0=if m≤nearS w h xs k then 1 else 0:=gen_get _ _ _ hk
theorem grow_plate {m W H:Int} {xs:List Int} (h:picOk W H xs 1=true):picOk W H (leastG W.toNat H.toNat xs xs.length m) 1=true:=by
 obtain ⟨h1,h2,h3⟩:=picOk_bd rfl h
 unfold picOk
 rw [h1,decide_eq_true (by rw [leastG_len];exact h2),least_within]
 rfl
theorem rd_window {w:World} {b off:Nat} {xs:List Int} (h:Rd w (some ⟨b,off,none⟩) xs) (s l:Nat):Rd w (some ⟨b,off+s,none⟩) ((xs.drop s).take l):=by
 intro k hk
 rw [List.length_take,List.length_drop] at hk
 obtain ⟨b',off',h1,h2,h3⟩:=h (s+k) (by omega)
 have e:=Option.some.inj h1
 simp only [Addr.mk.injEq] at e
 obtain ⟨rfl,rfl,_⟩:=e
 refine ⟨b,off+s,rfl,h2,?_⟩
 rw [Nat.add_assoc,h3]
 congr 2
 simp only [List.getD,List.getElem?_take,List.getElem?_drop]
 rw [if_pos (by omega)]
set_option maxHeartbeats 800000 in
theorem impl_window (b off n cap s l:Nat) (S L:Int) (w:World) (hS:S=(s:Int)) (hL:L=(l:Int)) (h1:1≤l) (h2:s+l≤n) (h3:n≤cap) (h4:n≤1048576):
   Calls Tryz.prog 50 #[.slice (some ⟨b,off,none⟩) n cap, .int .i64 S, .int .i64 L] w fun e w'=>e= .returned (.slice (some ⟨b,off+s,none⟩) l l)∧w=w':=by
 subst hS hL
 have f0:(0:Int)≤(s:Int):=by omega
 have f1:(s:Int)≤(s:Int)+(l:Int):=by omega
 have f2:(s:Int)+(l:Int)≤(cap:Int):=by omega
 have f3:(s:Int)+(l:Int)≤(s:Int)+(l:Int):=by omega
 have f4:((s:Int)+(l:Int)).toNat=s+l:=by omega
 have f5: ¬s+l=s:=by omega
 go_enter Tryz.func50,Tryz.ntmps50
 go_wp2_with fail
 go_ret
 exact ⟨rfl,rfl⟩
set_option maxHeartbeats 800000 in
theorem impl_window0 (b off n cap s:Nat) (S:Int) (w:World) (hS:S=(s:Int)) (h2:s≤n) (h3:n≤cap) (h4:n≤1048576):
   Calls Tryz.prog 50 #[.slice (some ⟨b,off,none⟩) n cap, .int .i64 S, .int .i64 0] w fun e w'=>e= .returned (.slice (some ⟨b,off,none⟩) 0 0)∧w=w':=by
 subst hS
 have f0:(0:Int)≤(s:Int):=by omega
 have f1:(s:Int)≤(s:Int):=by omega
 have f2:(s:Int)≤(cap:Int):=by omega
 go_enter Tryz.func50,Tryz.ntmps50
 go_wp2_with fail
 go_ret
 exact ⟨rfl,rfl⟩
set_option maxHeartbeats 800000 in
theorem impl_rowOf (W:Nat) (H:Int) (b off n cap y:Nat) (Y:Int) (w:World) (hY:Y=(y:Int)) (h1:1≤W) (hy:y≤64) (hW:W≤64) (h2:y*W+W≤n) (h3:n≤cap) (h4:n≤1048576):
   Calls Tryz.prog 30 #[.agg #[.int .i64 W, .int .i64 H, .slice (some ⟨b,off,none⟩) n cap], .int .i64 Y] w fun e w'=>e= .returned (.slice (some ⟨b,off+y*W,none⟩) W W)∧Below w.heap.size w w':=by
 subst hY
 have e0:((y:Int)*(W:Int))=((y*W:Nat):Int):=by simp
 have b0:0≤(y:Int)*(W:Int):=Int.mul_nonneg (by omega) (by omega)
 have b1:(y:Int)*(W:Int)≤1048576:=by rw [e0];omega
 have E0:=Lib.hid e0
 clear e0
 go_enter Tryz.func30,Tryz.ntmps30
 go_wp2_with fail
 refine (impl_window b off n cap (y*W) W _ _ _ E0.out rfl h1 h2 h3 h4).mono ?_
 rintro e w2 ⟨rfl,rfl⟩
 go_wp2_with fail
 go_ret
 exact ⟨rfl,Joins.below_alloc1 _ _⟩
theorem step_append_new (w:World) {ops:Array Oper} {o:Oper} {a:Act} {K:Act→World→Prop} {Q:Exit→Act→World→Prop} {E:Prop}
   (hgd:o.guard=none) (s x:Operand) (hop:o.op= .call {callee:= .builtin .append,args:=#[s,x],argTypes:=#[25,25]})
   (b off n b2 off2 m c2:Nat) (xs zs:List Int) (hs:a.eval s= .slice (some ⟨b,off,none⟩) n n) (hx:a.eval x= .slice (some ⟨b2,off2,none⟩) m c2) (hl:xs.length=n) (hm:zs.length=m) (h1:1≤m) (hn:n+m≤1024)
   (hr: ∀j,j<n→w.cell? ⟨b,off+j,none⟩=some (.int .i64 (xs.getD j 0))) (hz: ∀j,j<m→w.cell? ⟨b2,off2+j,none⟩=some (.int .i64 (zs.getD j 0)))
   (hK: ∀c w',OwnA w' w.heap.size (some ⟨w.heap.size,0,none⟩) (n+m) c (xs++zs)→Below w.heap.size w w'→K (a.put o.dst (.slice (some ⟨w.heap.size,0,none⟩) (n+m) c)) w'):
   if Region.wanted o (yielded ops a.tmps)=true then Oper.wp Tryz.prog o a w K Q else E:=by
 have hw:Region.wanted o (yielded ops a.tmps)=true:=by simp [Region.wanted,hgd]
 rw [if_pos hw]
 obtain ⟨i,hi,hz0,hz1,hz2⟩:=info_parts infoInt
 have hrun:=run_append_grow (P:=Tryz.prog) (w:=w) 25 o.type 3 i (.int .i64 0) Tryz.underlying25 hi hz0 ⟨b,off,none⟩ n n (xs.map (Value.int .i64)) (by rw [hz1];simpa using hl) (fun j v hv=>by
     have hj:j<xs.length:=by have:=(List.getElem?_eq_some_iff.1 hv).1;simpa using this
     rw [Addr.add_lit,hr j (by omega),←hv]
     simp [List.getD,hj]) ⟨b2,off2,none⟩ m c2 (zs.map (Value.int .i64)) (by rw [hz1];simpa using hm) (fun j v hv=>by
     have hj:j<zs.length:=by have:=(List.getElem?_eq_some_iff.1 hv).1;simpa using this
     rw [Addr.add_lit,hz j (by omega),←hv]
     simp [List.getD,hj]) (by omega) (by omega) (by
   rw [hz2]
   have:=nextslicecap_le (need:=n+m) (old:=n) (by omega)
   omega)
 unfold Oper.wp
 simp [execOp,hop,resolve,invoke,builtin,hs,hx,hrun,Result.andThen]
 have hg1:=grownCap_ge w (n+m) n 3
 have hg2:=grownCap_le_maxLen w (n+m) n 3 (by unfold maxLen;omega)
 refine hK _ _ ?_ ?_
 · refine OwnA.mk ⟨by simp;omega,_,heap_alloc_new w.drew _,hg1,hg2,?_,?_⟩ (Nat.le_refl _)
   · simp [Value.cells,Builtin.zeroCells]
     omega
   · simp [Value.cells]
     rw [←List.append_assoc,List.take_append_of_le_length (by simp;omega),List.take_of_length_le (by simp;omega)]
 · exact bAlloc (Below.refl _ _).drew _
theorem step_append_nothing (w:World) {ops:Array Oper} {o:Oper} {a:Act} {K:Act→World→Prop} {Q:Exit→Act→World→Prop} {E:Prop}
   (hgd:o.guard=none) (s x:Operand) (hop:o.op= .call {callee:= .builtin .append,args:=#[s,x],argTypes:=#[25,25]})
   (A:Addr) (n c:Nat) (A2:Addr) (c2:Nat) (hs:a.eval s= .slice (some A) n c) (hx:a.eval x= .slice (some A2) 0 c2) (hc:n≤c)
   (hK:K (a.put o.dst (.slice (some A) n c)) w):
   if Region.wanted o (yielded ops a.tmps)=true then Oper.wp Tryz.prog o a w K Q else E:=by
 have hw:Region.wanted o (yielded ops a.tmps)=true:=by simp [Region.wanted,hgd]
 rw [if_pos hw]
 obtain ⟨i,hi,hz0,hz1,hz2⟩:=info_parts infoInt
 have hrun:(Builtin.append_ #[25,25] o.type #[.slice (some A) n c, .slice (some A2) 0 c2]).run Tryz.prog w= .ok (.slice (some A) n c) w:=by
   simp [Builtin.append_,run_underlying Tryz.underlying25,sizeOf,typeInfo,hi,Builtin.lenOf,Builtin.firstCells,hc,storeCells,loadCells,loadCellsFrom]
 unfold Oper.wp
 simp [execOp,hop,resolve,invoke,builtin,hs,hx,hrun,Result.andThen]
 exact hK
def rotL (xs:List Int) (s:Nat):List Int:=xs.drop s++xs.take s
def SliceOut (w:World) (n b:Nat) (xs:List Int) (e:Ending) (w':World):Prop:= ∃a c,e= .returned (.slice a n c)∧Rd w' a xs∧(∀x,blockOf a=some x→x=b∨w.heap.size≤x)∧Below w.heap.size w w'
set_option maxHeartbeats 1600000 in
theorem impl_roundFrom (b off n s l:Nat) (S:Int) (xs:List Int) (w:World) (hS:S=(s:Int)) (hn:xs.length=n) (hr:Rd w (some ⟨b,off,none⟩) xs) (h1:1≤n) (h2:n≤64) (hs:n=s+l):
   Calls Tryz.prog 173 #[.slice (some ⟨b,off,none⟩) n n, .int .i64 S] w (SliceOut w n b (rotL xs s)):=by
 subst hS
 have HN:=Lib.hid hn
 have HR:=Lib.hid hr
 have k1:IntKind.i64.wrap ((n:Int) - (s:Int))=(l:Int):=by rw [show (n:Int) - (s:Int)=(l:Int) by omega];exact IntWalk.i64_in _ (by omega)
 have f0:(0:Int)≤(s:Int):=by omega
 have f1:(s:Int)≤(n:Int):=by omega
 have HS:=Lib.hid hs
 have cs:s≤n:=by omega
 obtain ⟨o2,hW,ho2⟩: ∃o2,(∀v:World,Calls Tryz.prog 50 #[.slice (some ⟨b,off,none⟩) n n, .int .i64 s, .int .i64 l] v fun e w'=>e= .returned (.slice (some ⟨b,o2,none⟩) l l)∧v=w')∧(1≤l→o2=off+s):=by
   by_cases h0:l=0
   · subst h0
     exact ⟨off,fun v=>impl_window0 b off n n s s v rfl cs (Nat.le_refl _) (by omega),fun h=>by omega⟩
   · exact ⟨off+s,fun v=>impl_window b off n n s l s l v rfl rfl (by omega) (by omega) (Nat.le_refl _) (by omega),fun _=>rfl⟩
 have HW:=Lib.hid hW
 have HO:=Lib.hid ho2
 obtain ⟨b0,q0,e0,lb,hcell⟩:=hr.at (by omega)
 have e1:=Option.some.inj e0
 simp only [Addr.mk.injEq] at e1
 obtain ⟨rfl,rfl,_⟩:=e1
 have HC:=Lib.hid hcell
 clear hn hr hs hW ho2 e0 hcell
 go_enter Tryz.func173,Tryz.ntmps173
 go_upto_region 1 with fail
 refine wp_region_held_drew (S:=fun v=>0<1) (by kernel_rfl) (by omega) ?_
 intro hHeld
 refine hTake 0 ?_
 refine hTake 1 ?_
 refine hTake 2 ?_
 refine hTake 3 ?_
 refine hTake 4 ?_
 refine hTake 5 ?_
 refine hTake 7 ?_
 refine hTake 8 ?_
 refine hTake 9 ?_
 refine hOne 6 (fun K hK=>?_)
 go_simp
 go_at_call 50
 refine (HW.out _).mono ?_
 rintro e w2 ⟨rfl,rfl⟩
 go_wp2_with fail
 refine hK.out _ _ (by omega) (fun hHeld=>?_)
 clear hK K
 refine hOne 10 (fun K hK=>?_)
 by_cases h0:s=0
 case pos=>
   have hln:l=n:=by have:=HS.out;omega
   subst h0
   refine step_append_nothing _ rfl (.tmp 11) (.tmp 14) rfl ⟨b,o2,none⟩ l l ⟨b,off,none⟩ n rfl (by rfl) (Nat.le_refl _) ?_
   (try simp only [List.getElem_toArray,List.getElem_cons_succ,List.getElem_cons_zero,Act.put,List.setIfInBounds_toArray,List.set_cons_zero,List.set_cons_succ])
   refine hK.out _ _ (by omega) (fun hHeld=>?_)
   clear hK K
   refine hTake 11 ?_
   (try simp only [List.getElem_toArray,List.getElem_cons_succ,List.getElem_cons_zero,Act.put,List.setIfInBounds_toArray,List.set_cons_zero,List.set_cons_succ])
   refine wpAnyH_done (by kernel_rfl) ?_ _
   go_wp2_with fail
   go_ret
   refine ⟨some ⟨b,o2,none⟩,n,rfl,?_,fun x hx=>Or.inl (by simpa [blockOf] using hx.symm),(Below.refl _ _).drew⟩
   rw [HO.out (by omega),Nat.add_zero]
   unfold rotL
   simp only [List.drop_zero,List.take_zero,List.append_nil]
   exact HR.out.drew
 case neg=>
   refine step_append_new _ rfl (.tmp 11) (.tmp 14) rfl b o2 l b off s n (xs.drop s) (xs.take s) rfl rfl (by rw [List.length_drop];have:=HN.out;have:=HS.out;omega) (by rw [List.length_take];have:=HN.out;omega) (by omega) (by have:=HS.out;omega) (fun j hj=>?_) (fun j hj=>?_) ?_
   · rw [HO.out (by omega),Nat.add_assoc]
     have:=HC.out (s+j) (by have:=HN.out;have:=HS.out;omega)
     refine this.trans ?_
     simp [List.getD,List.getElem?_drop]
   · have:=HC.out j (by have:=HN.out;have:=HS.out;omega)
     refine this.trans ?_
     simp [List.getD,List.getElem?_take,hj]
   · intro c5 w5 ho5 hb5
     (try simp only [List.getElem_toArray,List.getElem_cons_succ,List.getElem_cons_zero,Act.put,List.setIfInBounds_toArray,List.set_cons_zero,List.set_cons_succ])
     refine hK.out _ _ (by omega) (fun hHeld=>?_)
     clear hK K
     refine hTake 11 ?_
     (try simp only [List.getElem_toArray,List.getElem_cons_succ,List.getElem_cons_zero,Act.put,List.setIfInBounds_toArray,List.set_cons_zero,List.set_cons_succ])
     refine wpAnyH_done (by kernel_rfl) ?_ _
     have HO5:=Lib.hid ho5
     have HB5:=Lib.hid hb5
     have hln:l+s=n:=by have:=HS.out;omega
     clear ho5 hb5
     go_wp2_with fail
     go_ret
     exact ⟨some ⟨w.heap.size,0,none⟩,c5,(show Ending.returned (Value.slice (some ⟨w.heap.size,0,none⟩) (l+s) c5)=Ending.returned (Value.slice (some ⟨w.heap.size,0,none⟩) n c5) by rw [hln]),HO5.out.rd,fun x hx=>Or.inr (by simp only [blockOf,Option.some.injEq] at hx;omega),(Below.refl _ _).drew.trans HB5.out⟩
end Go.Proofs.YtanccoopbgamdaaGreatDoor
