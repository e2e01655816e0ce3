/-
  Contracts and plain facts on which the theorem of this claim rests, text 12.
-/
import Derived.Deep.RegionHeld3
import Derived.Lib.ItoaLen
import Derived.Test.YtanccoopbgamdaaGreatDoorKC2
import Derived.Test.YtanccoopbgamdaaGreatDoorKC3
import Derived.Test.YtanccoopbgamdaaGreatDoorKC4
import Derived.Test.YtanccoopbgamdaaGreatDoorKC5
import Derived.Test.YtanccoopbgamdaaGreatDoorKC11
namespace Go.Proofs.YtanccoopbgamdaaGreatDoor
open Go.RowKit
set_option linter.unusedVariables false
set_option linter.unusedSimpArgs false
def textI (l:List Int):List UInt8:=Lib.join (l.map Lib.itoa) [32]
theorem textI_one (v:Int):textI [v]=Lib.itoa v:=Lib.join_one _ _
theorem below_itoa (w:World) (q:Nat) (os:Array Obj):Below w.heap.size w (Sort.grow (w.drewN q) os):=
 ⟨rfl,rfl,rfl,by show w.heap.size≤(w.heap++os).size;rw [Array.size_append];omega,fun i hi=>by
   show ((w.drewN q).heap++os)[i]? =_
   rw [Array.getElem?_append_left (by show i<w.heap.size;omega)]
   rfl⟩
theorem itoa_call (n:Int) (w:World) (h0:-9223372036854775808≤n) (h1:n≤9223372036854775807) (hL:LaidW w):
   Calls Tryz.prog 92 #[.int .i64 n] w fun e w'=>e= .returned (.string ⟨(Lib.itoa n).toArray⟩)∧Below w.heap.size w w':=
 (Tryz.strconv_Itoa n h0 h1 w hL.pow).mono fun e w' ⟨he,k,os,hw⟩=>⟨he,by rw [hw];exact below_itoa w k os⟩
theorem infoStr:(Tryz.prog.info? 9).map (fun i=>(i.zero,i.size,i.bytes))=some (some (.string ⟨#[]⟩),1,16):=by kernel_rfl
theorem wp_makeStr (w:World) {ops:Array Oper} {rest:List Oper} {o:Oper} {a:Act} {Q:Exit→Act→World→Prop}
   (hg:o.guard=none) (l c:Operand) (hop:o.op=Op.makeSlice 61 l c) (kl kc:IntKind) (n:Nat) (hl:a.eval l= .int kl (n:Int)) (hc:a.eval c= .int kc (n:Int)) (hn:n≤1048576)
   (hK: ∀M:Array Value,M.size=n→wpList Tryz.prog ops Q rest (a.put o.dst (.slice (some ⟨w.heap.size,0,none⟩) n n)) (w.alloc (.cells M 9))):
   wpList Tryz.prog ops Q (o::rest) a w:=by
 obtain ⟨i,hi,hz0,hz1,hz2⟩:=info_parts infoStr
 refine wpList_plain hg fun K hK'=>?_
 have hr:=run_make (P:=Tryz.prog) w 61 9 i (.string ⟨#[]⟩) Tryz.underlying61 hi hz0 kl kc n n (by omega) (Int.le_refl _) (by rw [hz2];omega) (by omega)
 simp only [Int.toNat_natCast,hz1,Nat.mul_one] at hr
 unfold Oper.wp
 simp only [Value.cells] at hr
 simp [execOp,hop,hl,hc,hr,Result.andThen]
 exact hK' _ _ (hK _ (size_madeCells _ _))
theorem join_len (sep:List UInt8) (hs:sep.length≤1): ∀(l:List (List UInt8)),(∀x,x ∈ l→x.length≤21)→(Lib.join l sep).length≤22*l.length
 | [],_=>by simp [Lib.join,List.intercalate]
 | [x],h=>by
   rw [Lib.join_one]
   have:=h x (by simp)
   simp
   omega
 | x ::y::r,h=>by
   have ih:=join_len sep hs (y::r) (fun z hz=>h z (by simp at hz⊢;rcases hz with e | e <;>simp [e]))
   have h1:=h x (by simp)
   have e:(Lib.join (x::y::r) sep).length=x.length+sep.length+(Lib.join (y::r) sep).length:=by
     simp [Lib.join,List.intercalate]
     omega
   rw [e]
   simp only [List.length_cons] at ih⊢
   omega
set_option maxRecDepth 100000 in
set_option maxHeartbeats 1600000 in
theorem impl_textOf (ad:Option Addr) (n cap:Nat) (xs:List Int) (w:World) (hn:xs.length=n) (ha:Rd w ad xs) (hl:n≤4096) (hi: ∀x,x ∈ xs→-9223372036854775808≤x∧x≤9223372036854775807) (hL:LaidW w):
   Calls Tryz.prog 102 #[.slice ad n cap] w fun e w'=>e= .returned (.string ⟨(textI xs).toArray⟩)∧Below w.heap.size w w':=by
 have HN:=Lib.hid hn
 have HA:=Lib.hid ha
 have HI:=Lib.hid hi
 have HL:=Lib.hid hL
 clear hn ha hi hL
 go_enter Tryz.func102,Tryz.ntmps102
 go_wp2_with (at_make;refine wp_makeStr _ rfl _ _ rfl .i64 .i64 n rfl rfl (by omega) ?_;intro M hM)
 have KM:=Lib.hid (Blk.new w 9 M)
 have HB0:=Lib.hid (bAlloc (Below.refl w.heap.size w) (.cells M 9))
 have HM:=Lib.hid hM
 clear hM
 go_loopw [11] (fun i wr=> ∃(k:Nat) (cs:Array Value),k≤n∧i= .int .i64 k∧Blk wr w.heap.size 9 cs∧cs.size=n∧(∀j,j<k→cs[j]? =some (.string ⟨(Lib.itoa (xs.getD j 0)).toArray⟩))∧Below w.heap.size w wr) (fun i _=>n - (intOf i).toNat)
 case atStart=>exact ⟨0,M,Nat.zero_le _,rfl,KM.out,HM.out,fun j hj=>by omega,HB0.out⟩
 case round=>
   obtain ⟨k,cs,hk,rfl,hkb,hsz,hst,hb⟩:=hrel
   have KB:=Lib.hid hkb
   have HS:=Lib.hid hsz
   have HT:=Lib.hid hst
   have HB:=Lib.hid hb
   clear hkb hsz hst hb KM HB0 HM
   by_cases hlt:k<n
   · obtain ⟨ba,oa,hae,hal,hac⟩:=(HA.out.below HB.out).at (by have:=HN.out;omega)
     have h1:=hac k (by have:=HN.out;omega)
     subst hae
     obtain ⟨v,hgd⟩: ∃v,xs.getD k 0=v:=⟨_,rfl⟩
     rw [hgd] at h1
     have hiv:=HI.out v (by rw [←hgd];simp [List.getD,List.getElem?_eq_getElem (show k<xs.length by have:=HN.out;omega)])
     have HG:=Lib.hid hgd
     have HLw:=Lib.hid (HL.out.below HB.out)
     clear hac hgd
     have k0:(0:Int)≤(k:Int):=by omega
     have k1:(k:Int)<(n:Int):=by omega
     go_wp2_with fail
     refine (itoa_call v _ hiv.1 hiv.2 (by exact HLw.out)).mono ?_
     rintro e w1 ⟨rfl,hb⟩
     have KB1:=Lib.hid (KB.out.below' hb)
     have HB1:=Lib.hid (bTrans HB.out hb)
     clear hb
     have g2:w1.cell? ⟨w.heap.size,k,none⟩=some (cs[k]'(by rw [HS.out];exact hlt)):=by rw [KB1.out.cell];exact Array.getElem?_eq_getElem _
     have g3:=KB1.out.frozen k
     go_wp2_with fail
     go_roundw
     case rel=>exact ⟨k+1,_,by omega,by go_num,by simpa using KB1.out.set k (.string ⟨(Lib.itoa v).toArray⟩),by rw [Array.size_setIfInBounds];exact HS.out,fun j hj=>by
       rw [Array.getElem?_setIfInBounds]
       by_cases e:k=j
       · subst e;rw [if_pos rfl,if_pos (by rw [HS.out];exact hlt),HG.out]
       · rw [if_neg e];exact HT.out j (by omega),by exact HB1.out.setCell (by simp) _⟩
     case measure=>simp [intOf];omega
   · obtain rfl:k=n:=by omega
     go_wp2_with fail
     by_cases hz:k=0
     · subst hz
       have hx0:xs=[]:=List.eq_nil_of_length_eq_zero HN.out
       refine (Tryz.strings_Join_none (some ⟨w.heap.size,0,none⟩) 0 ⟨#[32]⟩ _).mono ?_
       rintro e w1 ⟨rfl,rfl⟩
       go_wp2_with fail
       go_ret
       exact ⟨by rw [hx0];rfl,HB.out⟩
     · obtain ⟨ws,hws⟩: ∃ws:List ByteArray,ws=xs.map (fun v=>(⟨(Lib.itoa v).toArray⟩:ByteArray)):=⟨_,rfl⟩
       have hwl:ws.length=k:=by rw [hws,List.length_map];exact HN.out
       have hwm:ws.map (·.data.toList)=xs.map Lib.itoa:=by rw [hws,List.map_map];simp
       have hj:=Tryz.strings_Join w.heap.size 0 k ws ⟨#[32]⟩ wr (fun j x hx=>by
         rw [Nat.zero_add,KB.out.cell]
         have hjl:j<k:=by rw [←hwl];exact (List.getElem?_eq_some_iff.1 hx).1
         rw [HT.out j hjl]
         rw [hws,List.getElem?_map] at hx
         rw [List.getElem?_eq_getElem (by rw [HN.out];exact hjl)] at hx
         simp at hx
         subst hx
         simp [List.getD,List.getElem?_eq_getElem (show j<xs.length by rw [HN.out];exact hjl)]) KB.out.lt (by omega) (by omega) (by
         rw [hwm]
         have:=join_len [32] (by simp) (xs.map Lib.itoa) (fun x hx=>by
           obtain ⟨v,hv,rfl⟩:=List.mem_map.1 hx
           have:=HI.out v hv
           exact Lib.itoa_length_le v this.1 this.2)
         rw [List.length_map,HN.out] at this
         simp at this⊢
         omega)
       rw [hwl,hwm] at hj
       refine hj.mono ?_
       rintro e w1 ⟨rfl,hb⟩
       have HB1:=Lib.hid (bTrans HB.out hb)
       go_wp2_with fail
       go_ret
       exact ⟨rfl,HB1.out⟩
end Go.Proofs.YtanccoopbgamdaaGreatDoor
namespace Go.Proofs.YtanccoopbgamdaaGreatDoor
set_option linter.unusedVariables false
set_option linter.unusedSimpArgs false
def levelG (n:Nat) (v:Int):Int:=(v*(n:Int)*2+255)/510
def levelOfF (W H:Int) (xs:List Int) (v:Int):Int:=if matOk W H xs=true∧0≤v∧v≤255 then levelG xs.length v else -1
def levelsF (W H:Int) (xs:List Int) (W' H':Int) (ys:List Int):List Int:=if matOk W H xs=true∧picOk W' H' ys 255=true then ys.map (levelG xs.length) else []
def dotG (W H:Int) (xs ls:List Int) (tw:Int) (i:Nat):Int:=if rankOf W H xs ((i:Int) % tw) ((i:Int)/tw)<ls[i]?.getD 0 then 1 else 0
def screenF (W H:Int) (xs:List Int) (W' H':Int) (ys:List Int):Pic:=
 if matOk W H xs=true∧picOk W' H' ys 255=true then ⟨W',H',gen ys.length (dotG W H xs (ys.map (levelG xs.length)) W')⟩ else noPic
def errD (xs ys:List Int) (i:Nat):Int:=255*ys[i]?.getD 0 - xs[i]?.getD 0
def errS (xs ys:List Int):Nat→Int
 | 0=>0
 | k+1=>errS xs ys k+errD xs ys k*errD xs ys k
def errF (W H:Int) (xs:List Int) (W' H':Int) (ys:List Int):Int:=if pairOk W H xs W' H' ys=true∧picOk W' H' ys 1=true then errS xs ys ys.length else -1
theorem mul_lev {n:Nat} {v:Int} (h1:0≤v) (h2:v≤255) (h3:n≤256):0≤v*(n:Int)∧v*(n:Int)≤65280:=by
 constructor
 · exact Int.mul_nonneg h1 (by omega)
 · have:=Int.mul_le_mul h2 (show (n:Int)≤256 by omega) (by omega) (by omega);omega
theorem levelG_bd {n:Nat} {v:Int} (h1:0≤v) (h2:v≤255) (h3:n≤256):0≤levelG n v∧levelG n v≤(n:Int):=by
 obtain ⟨b0,b1⟩:=mul_lev h1 h2 h3
 have e:v*(n:Int)≤255*(n:Int):=Int.mul_le_mul_of_nonneg_right h2 (by omega)
 unfold levelG
 omega
theorem levelOfF_no {W H:Int} {xs:List Int} {v:Int} (h: ¬(matOk W H xs=true∧0≤v∧v≤255)):levelOfF W H xs v=-1:=by unfold levelOfF;rw [if_neg h]
theorem levelOfF_yes {W H:Int} {xs:List Int} {n:Nat} {v:Int} (hn:xs.length=n) (h:matOk W H xs=true) (h1:0≤v) (h2:v≤255):levelOfF W H xs v=levelG n v:=by unfold levelOfF;rw [if_pos ⟨h,h1,h2⟩,hn]
theorem levelsF_no {W H:Int} {xs:List Int} {W' H':Int} {ys:List Int} (h: ¬(matOk W H xs=true∧picOk W' H' ys 255=true)):levelsF W H xs W' H' ys=[]:=by unfold levelsF;rw [if_neg h]
theorem levelsF_yes {W H:Int} {xs:List Int} {n:Nat} {W' H':Int} {ys:List Int} (hn:xs.length=n) (h:matOk W H xs=true) (h2:picOk W' H' ys 255=true):levelsF W H xs W' H' ys=ys.map (levelG n):=by unfold levelsF;rw [if_pos ⟨h,h2⟩,hn]
theorem screenF_no {W H:Int} {xs:List Int} {W' H':Int} {ys:List Int} (h: ¬(matOk W H xs=true∧picOk W' H' ys 255=true)):screenF W H xs W' H' ys=noPic:=by unfold screenF;rw [if_neg h]
theorem screenF_yes {W H:Int} {xs:List Int} {n m:Nat} {W' H':Int} {ys:List Int} (hn:xs.length=n) (hm:ys.length=m) (h:matOk W H xs=true) (h2:picOk W' H' ys 255=true):
   screenF W H xs W' H' ys=⟨W',H',gen m (dotG W H xs (ys.map (levelG n)) W')⟩:=by unfold screenF;rw [if_pos ⟨h,h2⟩,hn,hm]
theorem errF_no {W H:Int} {xs:List Int} {W' H':Int} {ys:List Int} (h: ¬(pairOk W H xs W' H' ys=true∧picOk W' H' ys 1=true)):errF W H xs W' H' ys=-1:=by unfold errF;rw [if_neg h]
theorem errF_yes {W H:Int} {xs:List Int} {W' H':Int} {ys:List Int} {n:Nat} (hn:ys.length=n) (h:pairOk W H xs W' H' ys=true) (h2:picOk W' H' ys 1=true):errF W H xs W' H' ys=errS xs ys n:=by unfold errF;rw [if_pos ⟨h,h2⟩,hn]
theorem sq_bd {d:Int} (h0:-255≤d) (h1:d≤255):0≤d*d∧d*d≤65025:=by
 by_cases h:0≤d
 · refine ⟨Int.mul_nonneg h h,?_⟩
   have:=Int.mul_le_mul h1 h1 h (by omega);omega
 · have e:d*d=(-d)*(-d):=by rw [Int.neg_mul_neg]
   rw [e]
   refine ⟨Int.mul_nonneg (by omega) (by omega),?_⟩
   have:=Int.mul_le_mul (show -d≤255 by omega) (show -d≤255 by omega) (by omega) (by omega);omega
theorem errD_bd {xs ys:List Int} (hx:within xs 255=true) (hy:within ys 1=true) {k:Nat} (h1:k<xs.length) (h2:k<ys.length):-255≤errD xs ys k∧errD xs ys k≤255:=by
 have:=within_at hx k h1
 have:=within_at hy k h2
 unfold errD
 omega
theorem errS_bd {xs ys:List Int} (hx:within xs 255=true) (hy:within ys 1=true) (hn:ys.length≤xs.length) (k:Nat) (hk:k≤ys.length):0≤errS xs ys k∧errS xs ys k≤65025*k:=by
 induction k with
 | zero=>simp [errS]
 | succ k ih=>
   have h:=ih (by omega)
   obtain ⟨d0,d1⟩:=errD_bd hx hy (k:=k) (by omega) (by omega)
   have:=sq_bd d0 d1
   simp only [errS]
   omega
end Go.Proofs.YtanccoopbgamdaaGreatDoor
namespace Go.Proofs.YtanccoopbgamdaaGreatDoor
open Go.RowKit
set_option linter.unusedVariables false
set_option linter.unusedSimpArgs false
theorem pairOk_no1 {W H W' H':Int} {xs ys:List Int} (h: ¬picOk W H xs 255=true):pairOk W H xs W' H' ys=false:=by unfold pairOk;simp [h]
theorem pairOk_no2 {W H W' H':Int} {xs ys:List Int} (h: ¬picOk W' H' ys 255=true):pairOk W H xs W' H' ys=false:=by unfold pairOk;simp [h]
set_option maxHeartbeats 400000 in
theorem impl_sidesOf (W H:Int) (ad:Option Addr) (n cap:Nat) (w:World):
   Calls Tryz.prog 42 #[.agg #[.int .i64 W, .int .i64 H, .slice ad n cap]] w fun e w'=>e= .returned (.agg #[.int .i64 W, .int .i64 H])∧Below w.heap.size w w':=by
 go_enter Tryz.func42,Tryz.ntmps42
 go_wp2_with fail
 exact bodyPost_ret (v:= .agg #[.int .i64 W, .int .i64 H]) (by simp [results,Tryz.results42,go_sem]) rfl ⟨rfl,Joins.below_alloc2 _ _ _⟩
section
variable {P : Program} (w : World)
open Op in
theorem run_equalIn_arr2 (d:Nat) (t e:TypeId) (a b a' b':Int) (i:TypeInfo) (ht:P.underlying t=some (.array 2 e)) (he:P.underlying e=some (.int .i64)) (hi:P.info? e=some i) (hs:i.size=1):
   (Op.equalIn (d+2) t (.agg #[.int .i64 a, .int .i64 b]) (.agg #[.int .i64 a', .int .i64 b'])).run P w= .ok (a==a' && b==b') w:=by
 have hone: ∀(x y:Int) (w:World),(Op.equalIn (d+1) e (.int .i64 x) (.int .i64 y)).run P w= .ok (x==y) w:=by
   intro x y w
   simp [Op.equalIn,run_underlying he]
 have hsz: ∀w:World,(sizeOf e).run P w= .ok 1 w:=by
   intro w
   simp [sizeOf,typeInfo,hi,hs]
 have hag: ∀w:World,(isAgg e).run P w= .ok false w:=by
   intro w
   simp [isAgg,run_underlying he]
 have hp: ∀(x y:Int) (j:Nat) (w:World),j<2→(part e #[.int .i64 x, .int .i64 y] (j*1)).run P w= .ok (if j=0 then .int .i64 x else .int .i64 y) w:=by
   intro x y j w hj
   match j,hj with
   | 0,_=>simp [part,hag]
   | 1,_=>simp [part,hag]
 rw [Op.equalIn]
 simp only [Sem.run_bind,run_underlying ht,Result.andThen_ok,hsz]
 have hr:List.range' (0:Nat) 2 1=[0,1]:=rfl
 simp only [Std.Legacy.Range.forIn_eq_forIn_range',Std.Legacy.Range.size,Nat.sub_zero,Nat.add_sub_cancel,Nat.div_one,hr,List.forIn_cons,List.forIn_nil,Sem.run_bind,hp a b 0 _ (by omega),hp a' b' 0 _ (by omega),Result.andThen_ok,if_true,hone]
 cases h1:(a==a') with
 | false=>simp
 | true=>
   simp only [Bool.not_true,Bool.false_eq_true,if_false,Sem.run_pure,Result.andThen_ok,Sem.run_bind,hp a b 1 _ (by omega),hp a' b' 1 _ (by omega),hone,Nat.one_ne_zero]
   cases h2:(b==b') with
   | false=>simp
   | true=>simp
end
theorem impl_IsPicture_yes (W H:Int) (ad:Option Addr) (n cap:Nat) (xs:List Int) (w:World) (hn:xs.length=n) (ha:Rd w ad xs) (hl:n≤9223372036854775807) (h:picOk W H xs 255=true):
   Calls Tryz.prog 24 #[.agg #[.int .i64 W, .int .i64 H, .slice ad n cap]] w fun e w'=>e= .returned (.bool true)∧Below w.heap.size w w':=
 (impl_IsPicture W H ad n cap xs w hn ha hl).mono fun e w' ⟨he,hw⟩=>⟨by rw [he,h],hw⟩
theorem impl_IsPicture_no (W H:Int) (ad:Option Addr) (n cap:Nat) (xs:List Int) (w:World) (hn:xs.length=n) (ha:Rd w ad xs) (hl:n≤9223372036854775807) (h: ¬picOk W H xs 255=true):
   Calls Tryz.prog 24 #[.agg #[.int .i64 W, .int .i64 H, .slice ad n cap]] w fun e w'=>e= .returned (.bool false)∧Below w.heap.size w w':=
 (impl_IsPicture W H ad n cap xs w hn ha hl).mono fun e w' ⟨he,hw⟩=>⟨by rw [he];exact ret_bool (by simpa using h),hw⟩
theorem infoIntAll:(Tryz.prog.info? 3).map (fun i=>(i.zero,i.size,i.bytes))=some (some (.int .i64 0),1,8):=by kernel_rfl
theorem arr_eq (W H W' H':Int) (b:Bool) (hb:(W==W' && H==H')=b): ∀w,(Op.equalIn 10000 76 (.agg #[.int .i64 W, .int .i64 H]) (.agg #[.int .i64 W', .int .i64 H'])).run Tryz.prog w= .ok b w:=by
 intro w
 obtain ⟨i,hi,_,hs,_⟩:=info_parts infoIntAll
 have hu:Tryz.prog.underlying 76=some (.array 2 3):=by kernel_rfl
 rw [←hb]
 exact run_equalIn_arr2 w 9998 76 3 W H W' H' i hu Tryz.underlying3 hi hs
set_option maxHeartbeats 1600000 in
theorem impl_arePictures (W H:Int) (ad:Option Addr) (n cap:Nat) (xs:List Int) (W' H':Int) (ad':Option Addr) (n' cap':Nat) (ys:List Int) (w:World)
   (hn:xs.length=n) (ha:Rd w ad xs) (hl:n≤9223372036854775807) (hn':ys.length=n') (ha':Rd w ad' ys) (hl':n'≤9223372036854775807):
   Calls Tryz.prog 142 #[.agg #[.int .i64 W, .int .i64 H, .slice ad n cap], .agg #[.int .i64 W', .int .i64 H', .slice ad' n' cap']] w fun e w'=>e= .returned (.bool (pairOk W H xs W' H' ys))∧Below w.heap.size w w':=by
 have HN:=Lib.hid hn
 have HA:=Lib.hid ha
 have HN':=Lib.hid hn'
 have HA':=Lib.hid ha'
 clear hn ha hn' ha'
 have p0:((w.alloc (.cells #[.int .i64 W, .int .i64 H, .slice ad n cap] 27)).alloc (.cells #[.int .i64 W', .int .i64 H', .slice ad' n' cap'] 27)).cell? ⟨w.heap.size,0,none⟩=some (.int .i64 W):=by go_simp
 have p1:((w.alloc (.cells #[.int .i64 W, .int .i64 H, .slice ad n cap] 27)).alloc (.cells #[.int .i64 W', .int .i64 H', .slice ad' n' cap'] 27)).cell? ⟨w.heap.size,1,none⟩=some (.int .i64 H):=by go_simp
 have p2:((w.alloc (.cells #[.int .i64 W, .int .i64 H, .slice ad n cap] 27)).alloc (.cells #[.int .i64 W', .int .i64 H', .slice ad' n' cap'] 27)).cell? ⟨w.heap.size,2,none⟩=some (.slice ad n cap):=by go_simp
 have q0:((w.alloc (.cells #[.int .i64 W, .int .i64 H, .slice ad n cap] 27)).alloc (.cells #[.int .i64 W', .int .i64 H', .slice ad' n' cap'] 27)).cell? ⟨w.heap.size+1,0,none⟩=some (.int .i64 W'):=by go_simp
 have q1:((w.alloc (.cells #[.int .i64 W, .int .i64 H, .slice ad n cap] 27)).alloc (.cells #[.int .i64 W', .int .i64 H', .slice ad' n' cap'] 27)).cell? ⟨w.heap.size+1,1,none⟩=some (.int .i64 H'):=by go_simp
 have q2:((w.alloc (.cells #[.int .i64 W, .int .i64 H, .slice ad n cap] 27)).alloc (.cells #[.int .i64 W', .int .i64 H', .slice ad' n' cap'] 27)).cell? ⟨w.heap.size+1,2,none⟩=some (.slice ad' n' cap'):=by go_simp
 have l1:w.heap.size<((w.alloc (.cells #[.int .i64 W, .int .i64 H, .slice ad n cap] 27)).alloc (.cells #[.int .i64 W', .int .i64 H', .slice ad' n' cap'] 27)).heap.size:=by simp;omega
 have m1:w.heap.size+1<((w.alloc (.cells #[.int .i64 W, .int .i64 H, .slice ad n cap] 27)).alloc (.cells #[.int .i64 W', .int .i64 H', .slice ad' n' cap'] 27)).heap.size:=by simp
 by_cases hp:picOk W H xs 255=true
 case neg=>
   rw [pairOk_no1 hp]
   go_enter Tryz.func142,Tryz.ntmps142
   go_wp2_with fail
   go_region_with (first
     | (go_simp;go_at_call 24;(with_reducible refine (impl_IsPicture_no W H ad n cap xs _ HN.out (by exact ((HA.out.alloc _).alloc _).of_heap rfl) hl hp).mono ?_);rintro e v1 ⟨rfl,hb1⟩))
   all_goals go_wp2_with fail
   all_goals go_ret
   all_goals exact ⟨rfl,(bTrans (bAlloc (bAlloc (Below.refl _ _) _) _).drew hb1)⟩
 case pos=>
   by_cases hp':picOk W' H' ys 255=true
   case neg=>
     rw [pairOk_no2 hp']
     go_enter Tryz.func142,Tryz.ntmps142
     go_wp2_with fail
     go_region_with (first
       | (go_simp;go_at_call 24;(with_reducible refine (impl_IsPicture_yes W H ad n cap xs _ HN.out (by exact ((HA.out.alloc _).alloc _).of_heap rfl) hl hp).mono ?_);rintro e v1 ⟨rfl,hb1⟩;have u0:=(hb1.cell m1).trans q0;have u1:=(hb1.cell m1).trans q1;have u2:=(hb1.cell m1).trans q2)
       | (go_simp;go_at_call 24;(with_reducible refine (impl_IsPicture_no W' H' ad' n' cap' ys _ HN'.out (by exact (((HA'.out.alloc _).alloc _).drew.below hb1)) hl' hp').mono ?_);rintro e v2 ⟨rfl,hb2⟩))
     all_goals go_wp2_with fail
     all_goals go_ret
     all_goals exact ⟨rfl,(bTrans (bTrans (bAlloc (bAlloc (Below.refl _ _) _) _).drew hb1) hb2)⟩
   case pos=>
     obtain ⟨b,hb⟩: ∃b,b=(W==W' && H==H'):=⟨_,rfl⟩
     have hpo:pairOk W H xs W' H' ys=b:=by
       rw [hb];unfold pairOk;rw [hp,hp']
       cases h1:(W==W') <;>cases h2:(H==H') <;>simp_all
     rw [hpo]
     have hae:=arr_eq W H W' H' b hb.symm
     clear hb hpo
     go_enter Tryz.func142,Tryz.ntmps142
     go_wp2_with fail
     go_region_held3 (fun v=>v.cell? ⟨w.heap.size,0,none⟩=some (.int .i64 W)∧v.cell? ⟨w.heap.size,1,none⟩=some (.int .i64 H)∧v.cell? ⟨w.heap.size,2,none⟩=some (.slice ad n cap)∧v.cell? ⟨w.heap.size+1,0,none⟩=some (.int .i64 W')∧v.cell? ⟨w.heap.size+1,1,none⟩=some (.int .i64 H')∧v.cell? ⟨w.heap.size+1,2,none⟩=some (.slice ad' n' cap'))
       (first | exact ⟨p0,p1,p2,q0,q1,q2⟩ | exact ⟨(hb1.cell l1).trans p0,(hb1.cell l1).trans p1,(hb1.cell l1).trans p2,(hb1.cell m1).trans q0,(hb1.cell m1).trans q1,(hb1.cell m1).trans q2⟩ | exact ⟨(hb2.cell (Nat.lt_of_lt_of_le l1 hb1.size)).trans ((hb1.cell l1).trans p0),(hb2.cell (Nat.lt_of_lt_of_le l1 hb1.size)).trans ((hb1.cell l1).trans p1),(hb2.cell (Nat.lt_of_lt_of_le l1 hb1.size)).trans ((hb1.cell l1).trans p2),(hb2.cell (Nat.lt_of_lt_of_le m1 hb1.size)).trans ((hb1.cell m1).trans q0),(hb2.cell (Nat.lt_of_lt_of_le m1 hb1.size)).trans ((hb1.cell m1).trans q1),(hb2.cell (Nat.lt_of_lt_of_le m1 hb1.size)).trans ((hb1.cell m1).trans q2)⟩ | exact ⟨(hb3.cell (Nat.lt_of_lt_of_le (Nat.lt_of_lt_of_le l1 hb1.size) hb2.size)).trans ((hb2.cell (Nat.lt_of_lt_of_le l1 hb1.size)).trans ((hb1.cell l1).trans p0)),(hb3.cell (Nat.lt_of_lt_of_le (Nat.lt_of_lt_of_le l1 hb1.size) hb2.size)).trans ((hb2.cell (Nat.lt_of_lt_of_le l1 hb1.size)).trans ((hb1.cell l1).trans p1)),(hb3.cell (Nat.lt_of_lt_of_le (Nat.lt_of_lt_of_le l1 hb1.size) hb2.size)).trans ((hb2.cell (Nat.lt_of_lt_of_le l1 hb1.size)).trans ((hb1.cell l1).trans p2)),(hb3.cell (Nat.lt_of_lt_of_le (Nat.lt_of_lt_of_le m1 hb1.size) hb2.size)).trans ((hb2.cell (Nat.lt_of_lt_of_le m1 hb1.size)).trans ((hb1.cell m1).trans q0)),(hb3.cell (Nat.lt_of_lt_of_le (Nat.lt_of_lt_of_le m1 hb1.size) hb2.size)).trans ((hb2.cell (Nat.lt_of_lt_of_le m1 hb1.size)).trans ((hb1.cell m1).trans q1)),(hb3.cell (Nat.lt_of_lt_of_le (Nat.lt_of_lt_of_le m1 hb1.size) hb2.size)).trans ((hb2.cell (Nat.lt_of_lt_of_le m1 hb1.size)).trans ((hb1.cell m1).trans q2))⟩ | exact ⟨(hb4.cell (Nat.lt_of_lt_of_le (Nat.lt_of_lt_of_le (Nat.lt_of_lt_of_le l1 hb1.size) hb2.size) hb3.size)).trans ((hb3.cell (Nat.lt_of_lt_of_le (Nat.lt_of_lt_of_le l1 hb1.size) hb2.size)).trans ((hb2.cell (Nat.lt_of_lt_of_le l1 hb1.size)).trans ((hb1.cell l1).trans p0))),(hb4.cell (Nat.lt_of_lt_of_le (Nat.lt_of_lt_of_le (Nat.lt_of_lt_of_le l1 hb1.size) hb2.size) hb3.size)).trans ((hb3.cell (Nat.lt_of_lt_of_le (Nat.lt_of_lt_of_le l1 hb1.size) hb2.size)).trans ((hb2.cell (Nat.lt_of_lt_of_le l1 hb1.size)).trans ((hb1.cell l1).trans p1))),(hb4.cell (Nat.lt_of_lt_of_le (Nat.lt_of_lt_of_le (Nat.lt_of_lt_of_le l1 hb1.size) hb2.size) hb3.size)).trans ((hb3.cell (Nat.lt_of_lt_of_le (Nat.lt_of_lt_of_le l1 hb1.size) hb2.size)).trans ((hb2.cell (Nat.lt_of_lt_of_le l1 hb1.size)).trans ((hb1.cell l1).trans p2))),(hb4.cell (Nat.lt_of_lt_of_le (Nat.lt_of_lt_of_le (Nat.lt_of_lt_of_le m1 hb1.size) hb2.size) hb3.size)).trans ((hb3.cell (Nat.lt_of_lt_of_le (Nat.lt_of_lt_of_le m1 hb1.size) hb2.size)).trans ((hb2.cell (Nat.lt_of_lt_of_le m1 hb1.size)).trans ((hb1.cell m1).trans q0))),(hb4.cell (Nat.lt_of_lt_of_le (Nat.lt_of_lt_of_le (Nat.lt_of_lt_of_le m1 hb1.size) hb2.size) hb3.size)).trans ((hb3.cell (Nat.lt_of_lt_of_le (Nat.lt_of_lt_of_le m1 hb1.size) hb2.size)).trans ((hb2.cell (Nat.lt_of_lt_of_le m1 hb1.size)).trans ((hb1.cell m1).trans q1))),(hb4.cell (Nat.lt_of_lt_of_le (Nat.lt_of_lt_of_le (Nat.lt_of_lt_of_le m1 hb1.size) hb2.size) hb3.size)).trans ((hb3.cell (Nat.lt_of_lt_of_le (Nat.lt_of_lt_of_le m1 hb1.size) hb2.size)).trans ((hb2.cell (Nat.lt_of_lt_of_le m1 hb1.size)).trans ((hb1.cell m1).trans q2)))⟩)
       (first
         | (go_at_call 24;(with_reducible refine (impl_IsPicture_yes W H ad n cap xs _ HN.out (by exact ((HA.out.alloc _).alloc _).of_heap rfl) hl hp).mono ?_);rintro e v1 ⟨rfl,hb1⟩)
         | (go_at_call 24;(with_reducible refine (impl_IsPicture_yes W' H' ad' n' cap' ys _ HN'.out (by exact (((HA'.out.alloc _).alloc _).drew.below hb1)) hl' hp').mono ?_);rintro e v2 ⟨rfl,hb2⟩)
         | (go_at_call 42;with_reducible refine (impl_sidesOf W H ad n cap _).mono ?_;rintro e v3 ⟨rfl,hb3⟩)
         | (go_at_call 42;with_reducible refine (impl_sidesOf W' H' ad' n' cap' _).mono ?_;rintro e v4 ⟨rfl,hb4⟩))
     go_wp2_with fail
     go_ret
     exact ⟨rfl,(bTrans (bTrans (bTrans (bTrans (bAlloc (bAlloc (Below.refl _ _) _) _).drew hb1) hb2) hb3) hb4)⟩
theorem pairOk_bd {W H W' H':Int} {xs ys:List Int} (h:pairOk W H xs W' H' ys=true):picOk W H xs 255=true∧picOk W' H' ys 255=true∧W=W'∧H=H':=by
 unfold pairOk at h
 simp only [Bool.and_eq_true,decide_eq_true_eq] at h
 exact ⟨h.1,h.2.1,h.2.2.1,h.2.2.2⟩
theorem pairOk_len {W H W' H':Int} {xs ys:List Int} {n n':Nat} (hn:xs.length=n) (hn':ys.length=n') (h:pairOk W H xs W' H' ys=true):n=n':=by
 obtain ⟨h1,h2,rfl,rfl⟩:=pairOk_bd h
 have a:=(picOk_bd hn h1).2.1
 have b:=(picOk_bd hn' h2).2.1
 omega
set_option maxHeartbeats 400000 in
theorem impl_nearest (n:Nat) (v:Int) (w:World) (h1:0≤v) (h2:v≤255) (h3:n≤256):
   Calls Tryz.prog 49 #[.int .i64 n, .int .i64 v] w fun e w'=>e= .returned (.int .i64 (levelG n v))∧w=w':=by
 obtain ⟨b0,b1⟩:=mul_lev h1 h2 h3
 go_enter Tryz.func49,Tryz.ntmps49
 go_wp2
 go_ret
 exact ⟨rfl,rfl⟩
set_option maxHeartbeats 800000 in
theorem impl_LevelOf (W H:Int) (ad:Option Addr) (n cap:Nat) (xs:List Int) (v:Int) (w:World) (hn:xs.length=n) (ha:Rd w ad xs) (hl:n≤9223372036854775807):
   Calls Tryz.prog 248 #[.agg #[.int .i64 W, .int .i64 H, .slice ad n cap], .int .i64 v] w fun e w'=>e= .returned (.int .i64 (levelOfF W H xs v))∧Below w.heap.size w w':=by
 have HN:=Lib.hid hn
 have HA:=Lib.hid ha
 clear hn ha
 by_cases hp:matOk W H xs=true
 case neg=>
   have hp2:matOk W H xs=false:=by simpa using hp
   rw [levelOfF_no (fun h=>hp h.1)]
   clear hp
   go_enter Tryz.func248,Tryz.ntmps248
   go_wp2_with fail
   refine (impl_IsMatrix _ _ _ _ _ xs _ HN.out (by exact HA.out.alloc _) hl).mono ?_
   rintro e w1 ⟨rfl,hb⟩
   have HB1:=Lib.hid ((Joins.below_alloc1 _ _).trans (hb.mono (by simp)))
   have KP1:=Lib.hid ((Blk.new w 31 #[.int .i64 W, .int .i64 H, .slice ad n cap]).below' hb)
   obtain ⟨l1,c0,c1,c2⟩:=KP1.out.c3
   clear hb
   rw [hp2]
   go_wp2_with fail
   go_ret
   exact ⟨rfl,HB1.out⟩
 case pos=>
   by_cases hv0:0≤v
   case neg=>
     rw [levelOfF_no (fun h=>hv0 h.2.1)]
     go_enter Tryz.func248,Tryz.ntmps248
     go_wp2_with fail
     refine (impl_IsMatrix _ _ _ _ _ xs _ HN.out (by exact HA.out.alloc _) hl).mono ?_
     rintro e w1 ⟨rfl,hb⟩
     have HB1:=Lib.hid ((Joins.below_alloc1 _ _).trans (hb.mono (by simp)))
     have KP1:=Lib.hid ((Blk.new w 31 #[.int .i64 W, .int .i64 H, .slice ad n cap]).below' hb)
     obtain ⟨l1,c0,c1,c2⟩:=KP1.out.c3
     clear hb
     rw [hp]
     go_wp2_with fail
     go_ret
     exact ⟨rfl,HB1.out⟩
   case pos=>
     by_cases hv1:v≤255
     case neg=>
       rw [levelOfF_no (fun h=>hv1 h.2.2)]
       go_enter Tryz.func248,Tryz.ntmps248
       go_wp2_with fail
       refine (impl_IsMatrix _ _ _ _ _ xs _ HN.out (by exact HA.out.alloc _) hl).mono ?_
       rintro e w1 ⟨rfl,hb⟩
       have HB1:=Lib.hid ((Joins.below_alloc1 _ _).trans (hb.mono (by simp)))
       have KP1:=Lib.hid ((Blk.new w 31 #[.int .i64 W, .int .i64 H, .slice ad n cap]).below' hb)
       obtain ⟨l1,c0,c1,c2⟩:=KP1.out.c3
       clear hb
       rw [hp]
       go_wp2_with fail
       go_ret
       exact ⟨rfl,HB1.out⟩
     case pos=>
       rw [levelOfF_yes HN.out hp hv0 hv1]
       obtain ⟨hs,hq,hi,hd⟩:=matOk_bd HN.out hp
       obtain ⟨b1,b2,b3,b4,b5,b6⟩:=matSize_bd hs
       have HQ:=Lib.hid hq
       have HI:=Lib.hid hi
       have HD:=Lib.hid hd
       have HS:=Lib.hid hs
       have hn1:1≤n:=by omega
       have hn2:n≤256:=by omega
       clear hq hi hs hd
       go_enter Tryz.func248,Tryz.ntmps248
       go_wp2_with fail
       refine (impl_IsMatrix _ _ _ _ _ xs _ HN.out (by exact HA.out.alloc _) hl).mono ?_
       rintro e w1 ⟨rfl,hb⟩
       have HB1:=Lib.hid ((Joins.below_alloc1 _ _).trans (hb.mono (by simp)))
       have KP1:=Lib.hid ((Blk.new w 31 #[.int .i64 W, .int .i64 H, .slice ad n cap]).below' hb)
       obtain ⟨l1,c0,c1,c2⟩:=KP1.out.c3
       clear hb
       rw [hp]
       go_wp2_with fail
       refine (impl_nearest n v _ hv0 hv1 hn2).mono ?_
       rintro e w2 ⟨rfl,rfl⟩
       go_wp2_with fail
       go_ret
       exact ⟨rfl,HB1.out⟩
end Go.Proofs.YtanccoopbgamdaaGreatDoor
