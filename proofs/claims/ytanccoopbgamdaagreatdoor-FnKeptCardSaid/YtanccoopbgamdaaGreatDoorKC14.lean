/-
  Contracts and plain facts on which the theorem of this claim rests, text 14.
-/
import Derived.Deep.QuietTactic
import Derived.Deep.RegionHeld3
import Derived.Test.YtanccoopbgamdaaGreatDoorKC2
import Derived.Test.YtanccoopbgamdaaGreatDoorKC3
import Derived.Test.YtanccoopbgamdaaGreatDoorKC4
import Derived.Test.YtanccoopbgamdaaGreatDoorKC7
import Derived.Test.YtanccoopbgamdaaGreatDoorKC13
namespace Go.Proofs.YtanccoopbgamdaaGreatDoor
open Go.RowKit
set_option linter.unusedVariables false
set_option linter.unusedSimpArgs false
theorem within_le {xs:List Int} (h:within xs 1=true):within xs 255=true:=by
 unfold within at h⊢
 rw [List.all_eq_true] at h⊢
 intro x hx
 have:=h x hx
 simp at this⊢
 omega
theorem picOk_le {W H:Int} {xs:List Int} (h:picOk W H xs 1=true):picOk W H xs 255=true:=by
 obtain ⟨h1,h2,h3⟩:=picOk_bd rfl h
 rw [picOk_in rfl h1 h2]
 exact within_le h3
set_option maxHeartbeats 400000 in
theorem spec_IsPlate (W H:Int) (ad:Option Addr) (n cap:Nat) (xs:List Int) (w:World) (hn:xs.length=n) (ha:Rd w ad xs) (hl:n≤9223372036854775807):
   Calls Tryz.prog 61 #[.agg #[.int .i64 W, .int .i64 H, .slice ad n cap]] w fun e w'=>e= .returned (.bool (picOk W H xs 1))∧Below w.heap.size w w':=by
 have HN:=Lib.hid hn
 have HA:=Lib.hid ha
 clear hn ha
 go_enter Tryz.func61,Tryz.ntmps61
 go_wp2_with fail
 refine (spec_l1Up _ _ _ _ _ xs _ _ HN.out (HA.out.below (Joins.below_alloc1 _ _)) hl).mono ?_
 rintro e w' ⟨rfl,hb⟩
 have HB:=Lib.hid hb
 clear hb
 go_wp2_with fail
 go_ret
 exact ⟨rfl,(Joins.below_alloc1 _ _).trans (HB.out.mono (by simp))⟩
set_option maxHeartbeats 400000 in
theorem impl_IsPlate (W H:Int) (ad:Option Addr) (n cap:Nat) (xs:List Int) (w:World) (hn:xs.length=n) (ha:Rd w ad xs) (hl:n≤9223372036854775807):
   Calls Tryz.prog 29 #[.agg #[.int .i64 W, .int .i64 H, .slice ad n cap]] w fun e w'=>e= .returned (.bool (picOk W H xs 1))∧Below w.heap.size w w':=by
 have HN:=Lib.hid hn
 have HA:=Lib.hid ha
 clear hn ha
 by_cases hp:picOk W H xs 255=true
 case neg=>
   have hp2:picOk W H xs 255=false:=by simpa using hp
   have e0:picOk W H xs 1=false:=by
     cases h:picOk W H xs 1 with
     | false=>rfl
     | true=>exact absurd (picOk_le h) hp
   rw [e0]
   clear hp e0
   go_enter Tryz.func29,Tryz.ntmps29
   go_wp2_with fail
   refine (impl_IsPicture _ _ _ _ _ xs _ HN.out (by exact HA.out.alloc _) hl).mono ?_
   rintro e w1 ⟨rfl,hb⟩
   have HB1:=Lib.hid ((Joins.below_alloc1 _ _).trans (hb.mono (by simp)))
   have KP1:=Lib.hid ((Blk.new w 27 #[.int .i64 W, .int .i64 H, .slice ad n cap]).below' hb)
   obtain ⟨l1,c0,c1,c2⟩:=KP1.out.c3
   clear hb
   rw [hp2]
   go_wp2_with fail
   go_ret
   exact ⟨rfl,HB1.out⟩
 case pos=>
   obtain ⟨hs,hq,hi⟩:=picOk_bd HN.out hp
   obtain ⟨b1,b2,b3,b4,b5,b6⟩:=sizeOk_bd hs
   have HQ:=Lib.hid hq
   have HI:=Lib.hid hi
   have HS:=Lib.hid hs
   have hn1:1≤n:=by omega
   have hn2:n≤1024:=by omega
   clear hq hi hs
   have e0:picOk W H xs 1=within xs 1:=picOk_in HN.out HS.out HQ.out
   rw [e0]
   clear e0
   go_enter Tryz.func29,Tryz.ntmps29
   go_wp2_with fail
   refine (impl_IsPicture _ _ _ _ _ xs _ HN.out (by exact HA.out.alloc _) hl).mono ?_
   rintro e w1 ⟨rfl,hb⟩
   have HB1:=Lib.hid ((Joins.below_alloc1 _ _).trans (hb.mono (by simp)))
   have KP1:=Lib.hid ((Blk.new w 27 #[.int .i64 W, .int .i64 H, .slice ad n cap]).below' hb)
   obtain ⟨l1,c0,c1,c2⟩:=KP1.out.c3
   clear hb
   rw [hp]
   go_wp2_with fail
   refine (impl_allWithin _ _ _ xs _ _ HN.out (by exact HA.out.below HB1.out) hl).mono ?_
   rintro e w' ⟨rfl,rfl⟩
   go_wp2_with fail
   go_ret
   exact ⟨rfl,HB1.out⟩
def meanF (W H:Int) (xs:List Int):Int × Int:=if picOk W H xs 255=true then (isum xs/(Nat.gcd (isum xs).toNat xs.length:Nat),(xs.length:Int)/(Nat.gcd (isum xs).toNat xs.length:Nat)) else (0,0)
theorem meanF_no {W H:Int} {xs:List Int} (h: ¬picOk W H xs 255=true):meanF W H xs=(0,0):=by unfold meanF;rw [if_neg h]
theorem meanF_yes {W H:Int} {xs:List Int} {n S G:Nat} (hn:xs.length=n) (h:picOk W H xs 255=true) (hS:isum xs=(S:Int)) (hG:Nat.gcd S n=G):meanF W H xs=((S:Int)/(G:Int),(n:Int)/(G:Int)):=by
 unfold meanF;rw [if_pos h,hn,hS];simp [hG]
theorem gcd_go {a b:Nat} (hb:b≠0):Nat.gcd b (a % b)=Nat.gcd a b:=by rw [Nat.gcd_comm b,←Nat.gcd_rec,Nat.gcd_comm]
theorem cast_mod (a b:Nat):((a % b:Nat):Int)=(a:Int) % (b:Int):=by simp
set_option maxHeartbeats 800000 in
theorem impl_greatestDivisor (a b:Nat) (w:World) (ha:a≤1000000) (hb:b≤1000000):
   Calls Tryz.prog 28 #[.int .i64 a, .int .i64 b] w fun e w'=>e= .returned (.int .i64 (Nat.gcd a b:Nat))∧ ∃q,w'=w.drewN q:=by
 go_enter Tryz.func28,Tryz.ntmps28
 go_wp2_with fail
 go_loopw [0,1] (fun x y wr=> ∃a' b':Nat,a'≤1000000∧b'≤1000000∧x= .int .i64 a'∧y= .int .i64 b'∧Hid (Nat.gcd a' b'=Nat.gcd a b)∧ ∃q,wr=w.drewN q) (fun _ y _=>(intOf y).toNat)
 case atStart=>exact ⟨a,b,ha,hb,rfl,rfl,Lib.hid rfl,0,rfl⟩
 case round=>
   obtain ⟨a',b',ha',hb',rfl,rfl,HG,q,rfl⟩:=hrel
   by_cases h0:b'=0
   · subst h0
     go_wp2_with fail
     go_ret
     exact ⟨ret_int (by have:=HG.out;rw [Nat.gcd_zero_right] at this;rw [this]),q,rfl⟩
   · have h1:((b':Int) !=0)=true:=by simpa using h0
     have h2:((b':Int)==0)=false:=by simpa using h0
     have h3: ¬(b':Int)=0:=by omega
     have HR:=Lib.hid (gcd_go (a:=a') h0)
     have m1:=Nat.mod_lt a' (show 0<b' by omega)
     obtain ⟨M,hM⟩: ∃M:Nat,a' % b'=M:=⟨_,rfl⟩
     rw [hM] at m1 HR
     have t1:(a':Int).tmod (b':Int)=(M:Int):=by rw [Int.tmod_eq_emod_of_nonneg (by omega),←cast_mod,hM]
     have t2:IntKind.i64.wrap (M:Int)=(M:Int):=IntWalk.i64_in _ (by omega)
     clear h0 hM
     go_wp2_with fail
     go_quiet (fail)
     clear t1 t2
     go_wp2_with fail
     go_roundw
     case rel=>exact ⟨b',M,hb',by omega,rfl,rfl,Lib.hid (by rw [HR.out];exact HG.out),by first | exact draws1 _ _ | exact draws2 _ _ _⟩
     case measure=>simp [intOf];omega
theorem sum_nat {xs:List Int} {n:Nat} (hn:xs.length=n) (h:within xs 255=true) (hn2:n≤1024): ∃S:Nat,isum xs=(S:Int)∧S≤261120:=by
 have:=isum_take_bd h n
 rw [List.take_of_length_le (by omega)] at this
 exact ⟨(isum xs).toNat,by omega,by omega⟩
theorem gcd_facts {S n G:Nat} (hn:1≤n) (hG:Nat.gcd S n=G) (hn2:n≤1024):1≤G∧G≤1024:=by
 have h1:=Nat.gcd_pos_of_pos_right S (show 0<n by omega)
 have h2:=Nat.gcd_le_right S (show 0<n by omega)
 omega
theorem sumF_yes {W H:Int} {xs:List Int} (h:picOk W H xs 255=true):sumF W H xs=isum xs:=by unfold sumF;rw [if_pos h]
theorem quo_facts {S G:Nat} (hG:1≤G) (hS:S≤261120): ∃A:Nat,(S:Int)/(G:Int)=A∧(S:Int).tdiv (G:Int)=A∧IntKind.i64.wrap (A:Int)=A∧A≤261120:=by
 have h:=Nat.div_le_self S G
 have e:(S:Int)/(G:Int)=((S/G:Nat):Int):=by simp
 obtain ⟨A,hA⟩: ∃A,S/G=A:=⟨_,rfl⟩
 rw [hA] at h e
 exact ⟨A,e,by rw [Int.tdiv_eq_ediv_of_nonneg (by omega),e],IntWalk.i64_in _ (by omega),by omega⟩
theorem below_drewN {B:Nat} {w w':World} (h:Below B w w') (n:Nat):Below B w (w'.drewN n):=⟨h.os,h.tape,h.output,h.size,h.block⟩
set_option maxHeartbeats 1600000 in
theorem impl_MeanOf (W H:Int) (ad:Option Addr) (n cap:Nat) (xs:List Int) (w:World) (hn:xs.length=n) (ha:Rd w ad xs) (hl:n≤9223372036854775807):
   Calls Tryz.prog 10 #[.agg #[.int .i64 W, .int .i64 H, .slice ad n cap]] w fun e w'=>e= .returned (.tuple #[.int .i64 (meanF W H xs).1, .int .i64 (meanF W H xs).2])∧Below w.heap.size w w':=by
 have HN:=Lib.hid hn
 have HA:=Lib.hid ha
 clear hn ha
 by_cases hp:picOk W H xs 255=true
 case neg=>
   rw [meanF_no hp]
   have hp2:picOk W H xs 255=false:=by simpa using hp
   clear hp
   go_enter Tryz.func10,Tryz.ntmps10
   go_wp2_with fail
   refine (impl_IsPicture _ _ _ _ _ xs _ HN.out (by exact HA.out.alloc _) hl).mono ?_
   rintro e w1 ⟨rfl,hb⟩
   have HB1:=Lib.hid ((Joins.below_alloc1 _ _).trans (hb.mono (by simp)))
   have KP1:=Lib.hid ((Blk.new w 27 #[.int .i64 W, .int .i64 H, .slice ad n cap]).below' hb)
   obtain ⟨l1,c0,c1,c2⟩:=KP1.out.c3
   clear hb
   rw [hp2]
   go_wp2_with fail
   go_ret2
   exact ⟨rfl,HB1.out⟩
 case pos=>
   obtain ⟨hs,hq,hi⟩:=picOk_bd HN.out hp
   obtain ⟨b1,b2,b3,b4,b5,b6⟩:=sizeOk_bd hs
   have HQ:=Lib.hid hq
   have HI:=Lib.hid hi
   have HS:=Lib.hid hs
   have hn1:1≤n:=by omega
   have hn2:n≤1024:=by omega
   clear hq hi hs
   obtain ⟨S,hS,hS2⟩:=sum_nat HN.out HI.out hn2
   obtain ⟨G,hG⟩: ∃G,Nat.gcd S n=G:=⟨_,rfl⟩
   obtain ⟨g1,g2⟩:=gcd_facts hn1 hG hn2
   obtain ⟨A,hA1,hA2,hA3,hA4⟩:=quo_facts g1 hS2
   obtain ⟨B,hB1,hB2,hB3,hB4⟩:=quo_facts (S:=n) g1 (by omega)
   rw [meanF_yes HN.out hp hS hG]
   have z1: ¬(G:Int)=0:=by omega
   have z2:((G:Int)==0)=false:=by simp;omega
   have HP:=Lib.hid hp
   have HSS:=Lib.hid hS
   have HG:=Lib.hid hG
   have HA1:=Lib.hid hA1
   have HA2:=Lib.hid hA2
   have HA3:=Lib.hid hA3
   have HBB1:=Lib.hid hB1
   have HBB2:=Lib.hid hB2
   have HBB3:=Lib.hid hB3
   clear hS hG hA1 hA2 hA3 hB1 hB2 hB3
   go_enter Tryz.func10,Tryz.ntmps10
   go_wp2_with fail
   refine (impl_IsPicture _ _ _ _ _ xs _ HN.out (by exact HA.out.alloc _) hl).mono ?_
   rintro e w1 ⟨rfl,hb⟩
   have HB1:=Lib.hid ((Joins.below_alloc1 _ _).trans (hb.mono (by simp)))
   have KP1:=Lib.hid ((Blk.new w 27 #[.int .i64 W, .int .i64 H, .slice ad n cap]).below' hb)
   obtain ⟨l1,c0,c1,c2⟩:=KP1.out.c3
   clear hb
   rw [hp]
   clear hp
   go_wp2_with fail
   go_region_held3 (fun v=>v.cell? ⟨w.heap.size,0,none⟩=some (.int .i64 W)∧v.cell? ⟨w.heap.size,1,none⟩=some (.int .i64 H)∧v.cell? ⟨w.heap.size,2,none⟩=some (.slice ad n cap))
     (first | exact ⟨c0,c1,c2⟩ | exact ⟨(hb.cell l1).trans c0,(hb.cell l1).trans c1,(hb.cell l1).trans c2⟩)
     (first
       | (go_at_call 27;((with_reducible refine (impl_SumInk _ _ _ _ _ xs _ HN.out (by exact (HA.out.below HB1.out).of_heap rfl) hl).mono ?_);rw [sumF_yes HP.out,HSS.out];rintro e v1 ⟨rfl,hb⟩)))
   have HB2:=Lib.hid (bTrans HB1.out.drew hb)
   clear hb l1 c0 c1 c2
   go_wp2_with fail
   refine (impl_greatestDivisor S n _ (by omega) (by omega)).mono ?_
   rw [HG.out]
   rintro e w3 ⟨rfl,q,rfl⟩
   have a2:=HA2.out
   have a3:=HA3.out
   have b2:=HBB2.out
   have b3:=HBB3.out
   go_wp2_with fail
   go_quiet (fail)
   clear a2 a3 b2 b3
   go_wp2_with fail
   go_ret2
   exact ⟨by rw [HA1.out,HBB1.out];rfl,by first | exact below_drewN HB2.out _ | exact below_drewN (below_drewN HB2.out _) _⟩
end Go.Proofs.YtanccoopbgamdaaGreatDoor
namespace Go.Proofs.YtanccoopbgamdaaGreatDoor
set_option linter.unusedVariables false
set_option linter.unusedSimpArgs false
def spell (c:Int):List Int→List Int
 | []=> []
 | n::r=>List.replicate n.toNat c++spell (1 - c) r
def colR (c:Int) (j:Nat):Int:=if j % 2=0 then c else 1 - c
theorem colR_succ (c:Int) (j:Nat):colR c (j+1)=colR (1 - c) j:=by
 unfold colR
 by_cases h:j % 2=0
 · rw [if_neg (by omega),if_pos h]
 · rw [if_pos (by omega),if_neg h];omega
theorem spell_snoc (c:Int) (r:List Int) (m:Int):spell c (r++ [m])=spell c r++List.replicate m.toNat (colR c r.length):=by
 induction r generalizing c with
 | nil=>simp [spell,colR]
 | cons n r ih=>
   simp only [List.cons_append,spell,ih,List.length_cons,colR_succ,List.append_assoc]
def runsOk:List Int→Bool
 | []=>false
 | n::r=>decide (0≤n) && r.all (fun v=>decide (1≤v))
theorem spell_len {r:List Int} (h: ∀v,v ∈ r→0≤v) (c:Int):((spell c r).length:Int)=isum r:=by
 induction r generalizing c with
 | nil=>rfl
 | cons n r ih=>
   have:=h n (by simp)
   simp only [spell,List.length_append,List.length_replicate,isum]
   push_cast
   rw [ih (fun v hv=>h v (by simp [hv]))]
   omega
theorem runsOk_cons {n:Int} {r:List Int} (h:runsOk (n::r)=true):0≤n∧ ∀v,v ∈ r→1≤v:=by
 unfold runsOk at h
 simp only [Bool.and_eq_true,decide_eq_true_eq,List.all_eq_true] at h
 exact h
def runsTo (xs:List Int):Nat→List Int
 | 0=> [0]
 | k+1=>if xs.getD k 0=colR 0 ((runsTo xs k).length - 1) then (runsTo xs k).set ((runsTo xs k).length - 1) ((runsTo xs k).getD ((runsTo xs k).length - 1) 0+1) else runsTo xs k++ [1]
def runsG (xs:List Int):List Int:=runsTo xs xs.length
theorem runsOk_snoc {r:List Int} (h:runsOk r=true):runsOk (r++ [1])=true:=by
 cases r with
 | nil=>cases h
 | cons n r=>
   unfold runsOk at h⊢
   simp only [List.cons_append,Bool.and_eq_true,decide_eq_true_eq,List.all_append] at h⊢
   exact ⟨h.1,h.2,by simp⟩
theorem runsOk_last {r:List Int} {x:Int} (h:runsOk (r++ [x])=true):runsOk (r++ [x+1])=true:=by
 cases r with
 | nil=>
   unfold runsOk at h⊢
   simp only [List.nil_append,Bool.and_eq_true,decide_eq_true_eq,List.all_nil] at h⊢
   exact ⟨by omega,trivial⟩
 | cons n r=>
   unfold runsOk at h⊢
   simp only [List.cons_append,Bool.and_eq_true,decide_eq_true_eq,List.all_append,List.all_cons,List.all_nil,Bool.and_true] at h⊢
   exact ⟨h.1,h.2.1,by omega⟩
theorem runsTo_inv {xs:List Int} (hx: ∀k,k<xs.length→xs.getD k 0=0∨xs.getD k 0=1) (k:Nat) (hk:k≤xs.length):runsOk (runsTo xs k)=true∧spell 0 (runsTo xs k)=xs.take k∧(runsTo xs k).length≤k+1∧1≤(runsTo xs k).length:=by
 induction k with
 | zero=>exact ⟨by simp [runsTo,runsOk],by simp [runsTo,spell],by simp [runsTo],by simp [runsTo]⟩
 | succ k ih=>
   obtain ⟨h1,h2,h3,h4⟩:=ih (by omega)
   have ht:xs.take (k+1)=xs.take k++ [xs.getD k 0]:=by
     rw [List.take_succ_eq_append_getElem (by omega)]
     simp [List.getD,List.getElem?_eq_getElem (show k<xs.length by omega)]
   obtain ⟨r,x,hr⟩: ∃r x,runsTo xs k=r++ [x]:=by
     refine ⟨(runsTo xs k).dropLast,(runsTo xs k).getLast (by intro e;rw [e] at h4;simp at h4),?_⟩
     rw [List.dropLast_concat_getLast]
   unfold runsTo
   rw [hr] at h1 h2 h3⊢
   have hx0:0≤x:=by
     cases r with
     | nil=>unfold runsOk at h1;simp at h1;exact h1
     | cons n r=>
       have:=(runsOk_cons (n:=n) (r:=r++ [x]) (by simpa using h1)).2 x (by simp)
       omega
   simp only [List.length_append,List.length_cons,List.length_nil,Nat.zero_add,Nat.add_sub_cancel] at h3⊢
   by_cases e:xs.getD k 0=colR 0 r.length
   · rw [if_pos e]
     have hg:(r++ [x]).getD r.length 0=x:=by simp [List.getD]
     have hs:(r++ [x]).set r.length ((r++ [x]).getD r.length 0+1)=r++ [x+1]:=by
       rw [hg,List.set_append]
       simp
     rw [hs]
     refine ⟨runsOk_last h1,?_,by simp;omega,by simp⟩
     rw [spell_snoc,ht,←h2,spell_snoc,List.append_assoc,e,show (x+1).toNat=x.toNat+1 by omega,List.replicate_succ']
   · rw [if_neg e]
     refine ⟨runsOk_snoc h1,?_,by simp;omega,by simp⟩
     rw [spell_snoc,h2,ht]
     congr 1
     have hc:colR 0 (r++ [x]).length=xs.getD k 0:=by
       rw [List.length_append,List.length_singleton,colR_succ]
       unfold colR at e⊢
       have hq:=hx k (by omega)
       by_cases c:r.length % 2=0
       · rw [if_pos c] at e⊢;omega
       · rw [if_neg c] at e⊢;omega
     rw [hc]
     rfl
theorem runsG_ok {xs:List Int} (hx: ∀k,k<xs.length→xs.getD k 0=0∨xs.getD k 0=1):runsOk (runsG xs)=true∧spell 0 (runsG xs)=xs:=by
 obtain ⟨h1,h2,_⟩:=runsTo_inv hx xs.length (Nat.le_refl _)
 exact ⟨h1,by unfold runsG;rw [h2,List.take_length]⟩
def nnAll (rs:List Int):Prop:= ∀v,v ∈ rs→0≤v
theorem runsOk_nn {rs:List Int} (h:runsOk rs=true):nnAll rs:=by
 cases rs with
 | nil=>cases h
 | cons n r=>
   obtain ⟨h0,h1⟩:=runsOk_cons h
   intro v hv
   rcases List.mem_cons.1 hv with e | e
   · omega
   · have:=h1 v e;omega
theorem isum_nn {rs:List Int} (h:nnAll rs):0≤isum rs:=by
 induction rs with
 | nil=>exact Int.le_refl _
 | cons n r ih=>
   have:=h n (by simp)
   have:=ih (fun v hv=>h v (by simp [hv]))
   unfold isum;omega
theorem getD_mem {rs:List Int} {k:Nat} (h:k<rs.length):rs.getD k 0 ∈ rs:=by
 simp [List.getD,List.getElem?_eq_getElem h]
end Go.Proofs.YtanccoopbgamdaaGreatDoor
namespace Go.Proofs.YtanccoopbgamdaaGreatDoor
open Go.RowKit
set_option linter.unusedVariables false
set_option linter.unusedSimpArgs false
def IntsOutW (w:World) (xs:List Int) (e:Ending) (w':World):Prop:= ∃a n c,e= .returned (.slice a n c)∧OwnA w' w.heap.size a n c xs∧n≤1048576∧Below w.heap.size w w'
def runsF (W H:Int) (xs:List Int):List Int:=if picOk W H xs 1=true then runsG xs else []
theorem own_some {w:World} {B n cap:Nat} {ad:Option Addr} {xs:List Int} (h:OwnA w B ad n cap xs) (hn:1≤n): ∃g,ad=some ⟨g,0,none⟩∧B≤g∧Own w g n cap xs:=by
 rcases h with ⟨_,h0,_⟩ | h
 · omega
 · exact h
theorem elem_le_isum {rs:List Int} (h:nnAll rs): ∀ {q:Nat},q<rs.length→rs.getD q 0≤isum rs:=by
 induction rs with
 | nil=>intro q hq;simp at hq
 | cons a r ih=>
   intro q hq
   have h0:=h a (by simp)
   have hr:=isum_nn (rs:=r) (fun v hv=>h v (by simp [hv]))
   cases q with
   | zero=>simp [isum];omega
   | succ q=>
     have:=ih (fun v hv=>h v (by simp [hv])) (q:=q) (by simpa using hq)
     simp only [List.getD,List.getElem?_cons_succ,isum] at this⊢
     omega
theorem dots_ofR {n:Nat} {xs:List Int} (hn:xs.length=n) (h:within xs 1=true): ∀k,k<xs.length→xs.getD k 0=0∨xs.getD k 0=1:=fun k hk=>by
 have:=within_at h k hk
 simp only [List.getD_eq_getElem?_getD]
 omega
theorem runsTo_bd {xs:List Int} (hx: ∀k,k<xs.length→xs.getD k 0=0∨xs.getD k 0=1) {k q:Nat} (hk:k≤xs.length) (hq:q<(runsTo xs k).length):0≤(runsTo xs k).getD q 0∧(runsTo xs k).getD q 0≤k:=by
 obtain ⟨h1,h2,_⟩:=runsTo_inv hx k hk
 have hn:=runsOk_nn h1
 have e:=spell_len hn 0
 rw [h2,List.length_take] at e
 have:=elem_le_isum hn hq
 exact ⟨hn _ (getD_mem hq),by omega⟩
theorem colR_next (q:Nat):colR 0 (q+1)=1 - colR 0 q:=by
 rw [colR_succ]
 unfold colR
 split <;>omega
theorem colR_bd (q:Nat):0≤colR 0 q∧colR 0 q≤1:=by
 unfold colR
 split <;>omega
theorem runsTo_same {xs:List Int} {k q:Nat} (hl:(runsTo xs k).length=q+1) (h:xs.getD k 0=colR 0 q):runsTo xs (k+1)=(runsTo xs k).set q ((runsTo xs k).getD q 0+1):=by
 show (if xs.getD k 0=colR 0 ((runsTo xs k).length - 1) then (runsTo xs k).set ((runsTo xs k).length - 1) ((runsTo xs k).getD ((runsTo xs k).length - 1) 0+1) else runsTo xs k++ [1])=_
 rw [hl,Nat.add_sub_cancel,if_pos h]
theorem runsTo_turn {xs:List Int} {k q:Nat} (hl:(runsTo xs k).length=q+1) (h: ¬xs.getD k 0=colR 0 q):runsTo xs (k+1)=(runsTo xs k++ [0]).set (q+1) 1:=by
 show (if xs.getD k 0=colR 0 ((runsTo xs k).length - 1) then (runsTo xs k).set ((runsTo xs k).length - 1) ((runsTo xs k).getD ((runsTo xs k).length - 1) 0+1) else runsTo xs k++ [1])=_
 rw [hl,Nat.add_sub_cancel,if_neg h,List.set_append]
 simp [hl]
theorem app_last {r:List Int} {m:Nat} (h:r.length=m) (v:Int):(r++ [v]).getD m 0=v:=by
 subst h
 simp [List.getD]
set_option maxHeartbeats 400000 in
theorem impl_inkOfRun (q:Nat) (w:World) (hq:q≤1048576):
   Calls Tryz.prog 139 #[.int .i64 q] w fun e w'=>e= .returned (.int .i64 (colR 0 q))∧w=w':=by
 have e:(q:Int) % 2=colR 0 q:=by
   unfold colR
   split <;>omega
 have E:=Lib.hid e
 clear e
 go_enter Tryz.func139,Tryz.ntmps139
 go_wp2_with fail
 go_ret
 exact ⟨ret_int E.out,rfl⟩
theorem own_one (w:World) (v:Int):Own (w.alloc (.cells #[.int .i64 v] 3)) w.heap.size 1 1 [v]:=
 RowM.own (M:=#[.int .i64 v]) ⟨rfl,by unfold maxLen;simp,rfl,rfl⟩ w
theorem CIX (q:Nat):(∀w:World,q≤1048576→Calls Tryz.prog 139 #[.int .i64 q] w fun e w'=>e= .returned (.int .i64 (colR 0 q))∧w=w'):=fun w h=>impl_inkOfRun q w h
theorem run_after {w1 wr w5:World} {g q cp cap2:Nat} {ad2:Option Addr} {r:List Int} {O:Obj} (hw:Below w1.heap.size w1 wr) (ho:Own wr g (q+1) cp r) (hg:w1.heap.size≤g) (ho5:OwnA w5 w1.heap.size ad2 (q+1+1) cap2 (r++ [0])) (hg5:(wr.alloc O).grownBy w5 (blockOf (some ⟨g,0,none⟩))):
   ∃g5,ad2=some ⟨g5,0,none⟩∧w1.heap.size≤g5∧Own w5 g5 (q+1+1) cap2 (r++ [0])∧Below w1.heap.size w1 w5∧w5.cell? ⟨g5,q+1,none⟩=some (.int .i64 0)∧w5.frozen? ⟨g5,q+1,none⟩=false:=by
 obtain ⟨g5,rfl,h1,h2⟩:=own_some ho5 (by omega)
 refine ⟨g5,rfl,h1,h2,(hw.alloc hw.size O).grown hg5 (by have:=hw.size;simp;omega) (fun k hk=>by simp only [blockOf,Option.some.injEq] at hk;omega),?_,h2.frozen _⟩
 rw [h2.cell (by omega),app_last ho.len]
set_option maxHeartbeats 1600000 in
theorem impl_RunsOf (W H:Int) (ad:Option Addr) (n cap:Nat) (xs:List Int) (w:World) (hn:xs.length=n) (ha:Rd w ad xs) (hl:n≤9223372036854775807):
   Calls Tryz.prog 109 #[.agg #[.int .i64 W, .int .i64 H, .slice ad n cap]] w (IntsOutW w (runsF W H xs)):=by
 have HN:=Lib.hid hn
 have HA:=Lib.hid ha
 clear hn ha
 by_cases hp:picOk W H xs 1=true
 case neg=>
   have hp2:picOk W H xs 1=false:=by simpa using hp
   have e0:runsF W H xs=[]:=by unfold runsF;rw [if_neg hp]
   rw [e0]
   clear hp e0
   go_enter Tryz.func109,Tryz.ntmps109
   go_wp2_with fail
   refine (impl_IsPlate _ _ _ _ _ xs _ HN.out (by exact HA.out.alloc _) hl).mono ?_
   rintro e w1 ⟨rfl,hb⟩
   have HB1:=Lib.hid ((Joins.below_alloc1 _ _).trans (hb.mono (by simp)))
   clear hb
   rw [hp2]
   go_wp2_with fail
   go_ret
   exact ⟨none,0,0,rfl,OwnA.none _ _,by omega,HB1.out⟩
 case pos=>
   have e0:runsF W H xs=runsTo xs n:=by unfold runsF;rw [if_pos hp];unfold runsG;rw [HN.out]
   rw [e0]
   clear e0
   obtain ⟨hs,hq,hi⟩:=picOk_bd HN.out hp
   obtain ⟨b1,b2,b3,b4,b5,b6⟩:=sizeOk_bd hs
   have HQ:=Lib.hid hq
   have HI:=Lib.hid hi
   have HS:=Lib.hid hs
   have hn1:1≤n:=by omega
   have hn2:n≤1024:=by omega
   clear hq hi hs
   have HX:=Lib.hid (dots_ofR HN.out HI.out)
   go_enter Tryz.func109,Tryz.ntmps109
   go_wp2_with fail
   refine (impl_IsPlate _ _ _ _ _ xs _ HN.out (by exact HA.out.alloc _) hl).mono ?_
   rintro e w1 ⟨rfl,hb⟩
   have HB1:=Lib.hid ((Joins.below_alloc1 _ _).trans (hb.mono (by simp)))
   have KP1:=Lib.hid ((Blk.new w 27 #[.int .i64 W, .int .i64 H, .slice ad n cap]).below' hb)
   obtain ⟨l1,c0,c1,c2⟩:=KP1.out.c3
   have HA1:=Lib.hid (HA.out.below HB1.out)
   clear hb
   rw [hp]
   go_wp2_with fail
   clear c0 c1 c2 l1
   go_loopw [3,13] (fun s i wr=> ∃(k q g cp:Nat),k≤n∧q≤k∧s= .slice (some ⟨g,0,none⟩) (q+1) cp∧i= .int .i64 k∧w1.heap.size≤g∧Hid (Own wr g (q+1) cp (runsTo xs k))∧Hid (Below w1.heap.size w1 wr)) (fun _ i _=>n - (intOf i).toNat)
   case atStart=>
     exact ⟨0,0,w1.heap.size,1,Nat.zero_le _,Nat.zero_le _,rfl,rfl,Nat.le_refl _,Lib.hid (own_one w1 0),Lib.hid (Joins.below_alloc1 _ _)⟩
   case round=>
     obtain ⟨k,q,g,cp,hk,hqk,rfl,rfl,hgl,HO,HW⟩:=hrel
     have HA2:=Lib.hid (HA1.out.below HW.out)
     by_cases hlt:k<n
     · obtain ⟨ba,oa,hae,hal,hac⟩:=HA2.out.at (by have:=HN.out;omega)
       have h1:=hac k (by have:=HN.out;omega)
       subst hae
       have hv:=HX.out k (by have:=HN.out;omega)
       obtain ⟨x0,x1⟩:=runsTo_bd HX.out (k:=k) (q:=q) (by have:=HN.out;omega) (by have:=HO.out.len;omega)
       have CI:=Lib.hid (CIX q)
       have hcb:=colR_bd q
       have hcn:=colR_next q
       have hsame:=runsTo_same (xs:=xs) (k:=k) (q:=q) HO.out.len
       have hturn:=runsTo_turn (xs:=xs) (k:=k) (q:=q) HO.out.len
       obtain ⟨v,hV⟩: ∃v,xs.getD k 0=v:=⟨_,rfl⟩
       rw [hV] at h1 hv hsame hturn
       obtain ⟨C,hC⟩: ∃C,colR 0 q=C:=⟨_,rfl⟩
       rw [hC] at hcb hcn hsame hturn CI
       (try rw [hC])
       have HC:=Lib.hid hC
       have HV:=Lib.hid hV
       clear hac hV hC
       have v0:0≤v:=by omega
       have v1:v≤1:=by omega
       by_cases he:v=C
       · have HS:=Lib.hid (hsame he)
         subst he
         clear hsame hturn hcn
         have g2:=HO.out.cell (j:=q) (by omega)
         have g3:=HO.out.frozen q
         obtain ⟨X,hX⟩: ∃X,(runsTo xs k).getD q 0=X:=⟨_,rfl⟩
         rw [hX] at g2 x0 x1 HS
         have HST:=Lib.hid (HO.out.set q (X+1))
         clear hX
         have nb:(v !=v)=false:=by simp
         go_wp2_with fail
         refine (CI.out _ (by omega)).mono ?_
         rintro e w5 ⟨rfl,rfl⟩
         go_wp2_with fail
         go_roundw
         case rel=>exact ⟨k+1,q,g,cp,by omega,by omega,rfl,by go_num,hgl,Lib.hid (by rw [HS.out];first | exact HST.out | exact HST.out.drewN _),Lib.hid (by first | exact HW.out.setCell hgl _ | exact (HW.out.setCell hgl _).drewN _)⟩
         case measure=>simp [intOf];omega
       · have HS:=Lib.hid (hturn he)
         have HC2:Hid (colR 0 (q+1)=v):=Lib.hid (by rw [hcn];omega)
         have nb:(v !=C)=true:=by simpa using he
         clear hsame hturn hcn he
         go_wp2_with fail
         refine (CI.out _ (by omega)).mono ?_
         rintro e w5 ⟨rfl,rfl⟩
         go_wp2_with (at_builtin;refine wp_append _ rfl (.tmp 23) (.tmp 24) rfl w1.heap.size (q+1) cp _ (runsTo xs k) rfl ((OwnA.mk HO.out hgl).alloc _) wr.heap.size 0 rfl (by go_simp) (by omega) (by have:=HW.out.size;simp;omega) ?_;intro ad2 cap2 w5 ho5 hg5;have HX5:=Lib.hid (run_after HW.out HO.out hgl ho5 hg5);obtain ⟨g5,rfl,hgl5,HO5,HW5,h2,h3⟩:=HX5.out)
         have HO6:=Lib.hid (HO5.set (q+1) 1)
         have HW6:=Lib.hid (HW5.setCell (show w1.heap.size≤(Addr.mk g5 (q+1) none).block from hgl5) (.int .i64 1))
         clear ho5 hg5
         go_roundw
         case rel=>exact ⟨k+1,q+1,g5,cap2,by omega,by omega,rfl,by go_num,hgl5,Lib.hid (by rw [HS.out];first | exact HO6.out | exact HO6.out.drewN _),Lib.hid (by first | exact HW6.out | exact HW6.out.drewN _)⟩
         case measure=>simp [intOf];omega
     · obtain rfl:k=n:=by omega
       have HB9:=Lib.hid (bTrans HB1.out HW.out)
       have HG9:Hid (w.heap.size≤g):=Lib.hid (by have:=HB1.out.size;omega)
       go_wp2_with fail
       go_ret
       exact ⟨_,_,_,rfl,OwnA.mk HO.out HG9.out,by omega,HB9.out⟩
end Go.Proofs.YtanccoopbgamdaaGreatDoor
