/-
  Contracts and plain facts on which the theorem of this claim rests, text 5.
-/
import Derived.Deep.RegionHeld3
import Derived.Laws.Rows
import Derived.OrdersHeld
import Derived.Outline
import Derived.StillTailTactics
import Derived.Test.YtanccoopbgamdaaGreatDoorDC4
namespace Go.Proofs.YtanccoopbgamdaaGreatDoor
open Go.RowKit
set_option linter.unusedVariables false
set_option linter.unusedSimpArgs false
theorem OwnA.toRow {w:World} {B n cap:Nat} {ad:Option Addr} {xs:List Int} (h:OwnA w B ad n cap xs):w.ownsRow B 3 1 (.slice ad n cap) n (xs.map (Value.int .i64)):=by
 rcases h with ⟨rfl,rfl,rfl,rfl⟩ | ⟨g,rfl,hB,hl,cur,hg,h1,h2,h3,h4⟩
 · exact ⟨rfl, .inl ⟨rfl,rfl⟩⟩
 · exact ⟨by simp [hl], .inr ⟨g,cap,cur,rfl,hB,hg,h1,h2,by omega,by rw [Nat.mul_one];exact h4⟩⟩
theorem OwnA.ofRow {w:World} {B n:Nat} {v:Value} {xs:List Int} (h:w.ownsRow B 3 1 v n (xs.map (Value.int .i64))): ∃ad cap,v= .slice ad n cap∧OwnA w B ad n cap xs:=by
 obtain ⟨hl,h⟩:=h
 simp at hl
 rcases h with ⟨rfl,rfl⟩ | ⟨g,cap,cur,rfl,hB,hg,h1,h2,h3,h4⟩
 · obtain rfl:xs=[]:=List.eq_nil_of_length_eq_zero hl
   exact ⟨Option.none,0,rfl,OwnA.none _ _⟩
 · exact ⟨_,cap,rfl, .inr ⟨g,rfl,hB,hl,cur,hg,h1,h2,by omega,by rw [Nat.mul_one] at h4;exact h4⟩⟩
theorem blockOf_own (ad:Option Addr) (n cap:Nat):(Value.slice ad n cap).ownBlock=blockOf ad:=by cases ad <;>rfl
theorem wp_append (w:World) {ops:Array Oper} {rest:List Oper} {o:Oper} {a:Act} {Q:Exit→Act→World→Prop}
   (hgd:o.guard=none) (s x:Operand) (hop:o.op= .call {callee:= .builtin .append,args:=#[s,x],argTypes:=#[25,25]})
   (B n cap:Nat) (ad:Option Addr) (xs:List Int) (hs:a.eval s= .slice ad n cap) (ho:OwnA w B ad n cap xs) (g:Nat) (v:Int) (hx:a.eval x= .slice (some ⟨g,0,none⟩) 1 1)
   (hc:w.cell? ⟨g,0,none⟩=some (.int .i64 v)) (hn:n≤1048576) (hB:B≤w.heap.size)
   (hK: ∀ad' cap' w',OwnA w' B ad' (n+1) cap' (xs++ [v])→w.grownBy w' (blockOf ad)→wpList Tryz.prog ops Q rest (a.put o.dst (.slice ad' (n+1) cap')) w'):
   wpList Tryz.prog ops Q (o::rest) a w:=by
 obtain ⟨i,hi,hz0,hz1,hz2⟩:=info_parts infoInt
 refine wpList_append_own w hgd s x 25 hop B 3 i (.int .i64 0) 1 8 Tryz.underlying25 hi hz0 hz1 hz2 rfl (by decide) _ n (xs.map (Value.int .i64)) hs ho.toRow ⟨g,0,none⟩ 1 1 [.int .i64 v] hx rfl ?_ ?_ (by unfold maxLen;omega) (by omega) hB ?_
 · intro j u hj
   match j,hj with
   | 0,hj=>simp at hj;subst hj;simpa [Addr.add] using hc
 · intro u hu;simp at hu;subst hu;rfl
 · intro v' w' h2 h3 _
   have h4:w'.ownsRow B 3 1 v' (n+1) ((xs++ [v]).map (Value.int .i64)):=by simpa using h2
   obtain ⟨ad',cap',rfl,h5⟩:=OwnA.ofRow h4
   rw [blockOf_own] at h3
   exact hK ad' cap' w' h5 h3
theorem OwnA.other {w:World} {B n cap:Nat} {ad:Option Addr} {xs:List Int} (h:OwnA w B ad n cap xs) {a:Addr} (ha:a.block<B) (u:Value):OwnA (w.setCell a u) B ad n cap xs:=by
 rcases h with h | ⟨g,h1,h2,h⟩
 · exact .inl h
 · exact .inr ⟨g,h1,h2,h.other (by omega) u⟩
theorem gen_snoc (n:Nat) (f:Nat→Int):gen n f++ [f n]=gen (n+1) f:=by
 simp [gen,List.range_succ]
def zeros256:Array Value:=(List.replicate 256 (Value.int .i64 0)).toArray
theorem run_alloc256 (w:World):(Instr.alloc 103 true (.tuple #[])).run Tryz.prog w= .ok (.pointer (some ⟨w.heap.size,0,none⟩)) (w.alloc (.cells zeros256 103)):=by kernel_rfl
theorem wp_alloc256 (w:World) {ops:Array Oper} {rest:List Oper} {o:Oper} {a:Act} {Q:Exit→Act→World→Prop}
   (hg:o.guard=none) (hop:o.op=Op.alloc 103)
   (hK: ∀C:Array Value,C=((List.replicate 256 0).map (Value.int .i64)).toArray→wpList Tryz.prog ops Q rest (a.put o.dst (.pointer (some ⟨w.heap.size,0,none⟩))) (w.alloc (.cells C 103))):
   wpList Tryz.prog ops Q (o::rest) a w:=by
 refine wpList_plain hg fun K hK'=>?_
 have hr:=run_alloc256 w
 unfold Oper.wp
 simp [execOp,hop,hr,Result.andThen]
 exact hK' _ _ (hK _ (by unfold zeros256;rw [List.map_replicate]))
section
variable {P : Program} (w : World)
open Op in
theorem run_equalIn_ints (d N:Nat) (t e:TypeId) (xs ys:List Int) (i:TypeInfo) (ht:P.underlying t=some (.array N e)) (he:P.underlying e=some (.int .i64)) (hi:P.info? e=some i) (hs:i.size=1)
   (hx:xs.length=N) (hy:ys.length=N):
   (Op.equalIn (d+2) t (.agg (xs.map (Value.int .i64)).toArray) (.agg (ys.map (Value.int .i64)).toArray)).run P w= .ok (decide (xs=ys)) w:=by
 have hone: ∀(x y:Int) (w:World),(Op.equalIn (d+1) e (.int .i64 x) (.int .i64 y)).run P w= .ok (x==y) w:=by
   intro x y w
   simp [Op.equalIn,run_underlying he]
 have hsz: ∀w:World,(sizeOf e).run P w= .ok 1 w:=by
   intro w
   simp [sizeOf,typeInfo,hi,hs]
 have hag: ∀w:World,(isAgg e).run P w= .ok false w:=by
   intro w
   simp [isAgg,run_underlying he]
 have hp: ∀(zs:List Int) (j:Nat) (w:World),j<zs.length→(part e (zs.map (Value.int .i64)).toArray (j*1)).run P w= .ok (.int .i64 (zs.getD j 0)) w:=by
   intro zs j w hj
   simp [part,hag,hj]
 have key: ∀(k s:Nat),s+k=N→xs.take s=ys.take s→
     (forIn (List.range' s k) ((none,()):Option Bool × Unit) (fun i (_:Option Bool × Unit)=>(do
       let a←part e (xs.map (Value.int .i64)).toArray (i*1)
       let b←part e (ys.map (Value.int .i64)).toArray (i*1)
       let c←equalIn (d+1) e a b
       if (!c)=true then pure (ForInStep.done (some false,())) else pure (ForInStep.yield (none,())):Sem (ForInStep (Option Bool × Unit))))).run P w= .ok (if xs=ys then (none,()) else (some false,())) w:=by
   intro k
   induction k with
   | zero=>
     intro s hs ht
     have e1:xs=ys:=by
       rwa [List.take_of_length_le (by omega),List.take_of_length_le (by omega)] at ht
     rw [if_pos e1]
     simp
   | succ k ih=>
     intro s hs ht
     rw [List.range'_succ,List.forIn_cons]
     simp only [Sem.run_bind,hp xs s _ (by omega),hp ys s _ (by omega),Result.andThen_ok,hone]
     by_cases h:xs.getD s 0=ys.getD s 0
     · rw [beq_iff_eq.2 h]
       simp only [Bool.not_true,Bool.false_eq_true,if_false,Sem.run_pure,Result.andThen_ok]
       exact ih (s+1) (by omega) (take_succ_eq (by omega) (by omega) ht h)
     · have h2:(xs.getD s 0==ys.getD s 0)=false:=by simpa using h
       rw [h2]
       have h3: ¬xs=ys:=fun he=>h (by rw [he])
       rw [if_neg h3]
       simp
 rw [Op.equalIn]
 simp only [Sem.run_bind,run_underlying ht,Result.andThen_ok,hsz]
 simp only [Std.Legacy.Range.forIn_eq_forIn_range',Std.Legacy.Range.size,Nat.sub_zero,Nat.add_sub_cancel,Nat.div_one]
 have hk:=key N 0 (by omega) rfl
 rw [hk]
 by_cases h:xs=ys
 · simp [h]
 · simp [h]
end
def rowA (zs:List Int):Array Value:=(zs.map (Value.int .i64)).toArray
theorem rowA_size (zs:List Int):(rowA zs).size=zs.length:=by simp [rowA]
theorem rowA_set (zs:List Int) (j:Nat) (v:Int):(rowA zs).setIfInBounds j (.int .i64 v)=rowA (zs.set j v):=by
 unfold rowA
 rw [List.setIfInBounds_toArray,List.map_set]
theorem rowA_at (zs:List Int) (j:Nat) (h:j<zs.length):(rowA zs)[j]? =some (.int .i64 (zs[j]?.getD 0)):=by
 simp [rowA,h]
theorem under256:Tryz.prog.underlying 103=some (.array 256 3):=by kernel_rfl
theorem info256:(Tryz.prog.info? 103).map (·.size)=some 256:=by kernel_rfl
theorem arr256_eq (xs ys:List Int) (hx:xs.length=256) (hy:ys.length=256) (b:Bool) (hb:decide (xs=ys)=b): ∀w,(Op.equalIn 10000 103 (.agg (rowA xs)) (.agg (rowA ys))).run Tryz.prog w= .ok b w:=by
 intro w
 obtain ⟨i,hi,_,hs,_⟩:=info_parts infoInt
 rw [←hb]
 exact run_equalIn_ints w 9998 256 103 3 xs ys i under256 Tryz.underlying3 hi hs hx hy
theorem cntRow_len (xs:List Int) (k:Nat):(cntRow xs k).length=256:=gen_len _ _
theorem onceRow_len (k:Nat):(onceRow k).length=256:=gen_len _ _
set_option maxHeartbeats 800000 in
theorem impl_once (ad:Option Addr) (n cap:Nat) (xs:List Int) (w:World) (hn:xs.length=n) (ha:Rd w ad xs) (hm:n≤256):
   Calls Tryz.prog 47 #[.slice ad n cap] w fun e w'=>e= .returned (.bool (permOk xs))∧Below w.heap.size w w':=by
 have HN:=Lib.hid hn
 have HA:=Lib.hid ha
 clear hn ha
 go_enter Tryz.func47,Tryz.ntmps47
 iterate 11 go_step
 refine wp_alloc256 _ rfl rfl ?_
 intro C1 hC1
 refine wp_alloc256 _ rfl rfl ?_
 intro C2 hC2
 have HC1:Hid (C1=rowA (cntRow xs 0)):=Lib.hid (by rw [cntRow_zero];exact hC1)
 have HC2:Hid (C2=rowA (onceRow 0)):=Lib.hid (by rw [onceRow_zero];exact hC2)
 clear hC1 hC2
 go_wp2_with fail
 go_loopw [9] (fun i wr=> ∃k:Nat,k≤n∧i= .int .i64 k∧Hid (inR (xs.take k) n=true)∧Blk wr w.heap.size 103 (rowA (cntRow xs k))∧Blk wr (w.heap.size+1) 103 (rowA (onceRow k))∧Below w.heap.size w wr) (fun i _=>n - (intOf i).toNat)
 case atStart=>exact ⟨0,Nat.zero_le _,rfl,rfl,by rw [←HC1.out];exact (Blk.new _ _ _).alloc _,by rw [←HC2.out];exact Blk.new' _ _ (by simp),Joins.below_alloc2 _ _ _⟩
 case round=>
   obtain ⟨k,hk,rfl,HT,hb1,hb2,hw⟩:=hrel
   have K1:=Lib.hid hb1
   have K2:=Lib.hid hb2
   have HW:=Lib.hid hw
   have z1:=K1.out.lt
   have z2:=K2.out.lt
   clear hb1 hb2 hw
   by_cases hlt:k<n
   · obtain ⟨ba,oa,hae,hal,hac⟩:=(HA.out.below HW.out).at (by have:=HN.out;omega)
     subst hae
     have h1:=hac k (by have:=HN.out;omega)
     clear hac
     by_cases hv:0≤xs[k]?.getD 0∧xs[k]?.getD 0<(n:Int)
     · obtain ⟨r,hr⟩: ∃r:Nat,xs[k]?.getD 0=(r:Int):=⟨(xs[k]?.getD 0).toNat,by omega⟩
       have h1r:wr.cell? ⟨ba,oa+k,none⟩=some (.int .i64 (r:Int)):=by rw [←hr];simpa [List.getD] using h1
       have HR:=Lib.hid hr
       have hrn:(r:Int)<n:=by omega
       have hr2:r<256:=by omega
       clear h1 hr hv
       have t2:=icount_take_bd (r:Int) xs k
       have c1:wr.cell? ⟨w.heap.size,r,none⟩=some (.int .i64 (icount (r:Int) (xs.take k):Int)):=by
         rw [K1.out.cell,rowA_at _ _ (by rw [cntRow_len];omega),cntRow_at _ _ _ hr2]
       have f1:=K1.out.frozen r
       have c2:wr.cell? ⟨w.heap.size+1,k,none⟩=some (.int .i64 ((onceRow k)[k]?.getD 0)):=by
         rw [K2.out.cell,rowA_at _ _ (by rw [onceRow_len];omega)]
       have f2:=K2.out.frozen k
       go_wp2_with fail
       go_roundw
       case rel=>
         refine ⟨k+1,by omega,by go_num,inR_snoc (by have:=HN.out;omega) HT.out (by rw [HR.out];omega) (by rw [HR.out];omega),?_,?_,(HW.out.setCell (by simp) _).setCell (by simp) _⟩
         · have h:=(K1.out.set r (.int .i64 ((icount (r:Int) (xs.take k):Int)+1))).other (a:=⟨w.heap.size+1,k,none⟩) (by simp) (.int .i64 1)
           rw [rowA_set,cntRow_succ _ _ _ (by have:=HN.out;omega) hr2 HR.out] at h
           exact h
         · have h:=(K2.out.other (a:=⟨w.heap.size,r,none⟩) (by simp) (.int .i64 ((icount (r:Int) (xs.take k):Int)+1))).set k (.int .i64 1)
           rw [rowA_set,onceRow_succ _ (by omega)] at h
           exact h
       case measure=>simp [intOf];omega
     · have HP:=Lib.hid (permOk_noR HN.out k hlt hv)
       go_wp2_with fail
       all_goals (go_ret;first | exact ⟨ret_bool HP.out.symm,HW.out⟩ | (exfalso;exact hv ⟨by omega,by omega⟩))
   · obtain rfl:n=k:=by omega
     have HT2:Hid (inR xs n=true):=by
       have h:=HT.out
       rw [List.take_of_length_le (by have:=HN.out;omega)] at h
       exact h
     have he:=arr256_eq (cntRow xs n) (onceRow n) (cntRow_len _ _) (onceRow_len _) _ (rows_eq HN.out hm HT2.out)
     have e1:(Tryz.prog.info? 103).map (·.size)=some (rowA (cntRow xs n)).size:=by rw [rowA_size,cntRow_len];exact info256
     have e2:(Tryz.prog.info? 103).map (·.size)=some (rowA (onceRow n)).size:=by rw [rowA_size,onceRow_len];exact info256
     have E1:=Lib.hid e1
     have E2:=Lib.hid e2
     clear e1 e2
     go_wp2_with (first | (refine wpList_load_row rfl 103 (.tmp 3) rfl w.heap.size rfl 103 _ (0,0) _ K1.out under256 rfl E1.out ?_) | (refine wpList_load_row rfl 103 (.tmp 4) rfl (w.heap.size+1) rfl 103 _ (0,0) _ K2.out under256 rfl E2.out ?_))
     go_ret
     exact ⟨rfl,HW.out⟩
set_option maxHeartbeats 400000 in
theorem impl_IsMatrix (W H:Int) (ad:Option Addr) (n cap:Nat) (xs:List Int) (w:World) (hn:xs.length=n) (ha:Rd w ad xs) (hl:n≤9223372036854775807):
   Calls Tryz.prog 23 #[.agg #[.int .i64 W, .int .i64 H, .slice ad n cap]] w fun e w'=>e= .returned (.bool (matOk W H xs))∧Below w.heap.size w w':=by
 have HN:=Lib.hid hn
 have HA:=Lib.hid ha
 clear hn ha
 by_cases hs:matSize W H=true
 case neg=>
   have hs2:matSize W H=false:=by simpa using hs
   rw [matOk_no1 hs2]
   clear hs
   go_enter Tryz.func23,Tryz.ntmps23
   go_wp2_with (go_at_call 46;refine (impl_isMatrixSize _ _ _).mono ?_;rintro e w' ⟨rfl,rfl⟩)
   go_ret
   exact ⟨rfl,Joins.below_alloc1 _ _⟩
 case pos=>
   obtain ⟨b1,b2,b3,b4,b5,b6⟩:=matSize_bd hs
   by_cases hq:(n:Int)=W*H
   case neg=>
     rw [matOk_no2 HN.out hq]
     have hq2:((n:Int)==W*H)=false:=by simpa using hq
     clear hq
     go_enter Tryz.func23,Tryz.ntmps23
     go_wp2_with (go_at_call 46;refine (impl_isMatrixSize _ _ _).mono ?_;rintro e w' ⟨rfl,rfl⟩)
     go_ret
     exact ⟨rfl,Joins.below_alloc1 _ _⟩
   case pos=>
     rw [matOk_in HN.out hs hq]
     have hn2:n≤256:=by omega
     have hq2:((n:Int)==W*H)=true:=by simpa using hq
     clear hq
     go_enter Tryz.func23,Tryz.ntmps23
     go_wp2_with (go_at_call 46;refine (impl_isMatrixSize _ _ _).mono ?_;rintro e w' ⟨rfl,rfl⟩)
     refine (impl_once _ _ _ xs _ HN.out (HA.out.below (Joins.below_alloc1 _ _)) hn2).mono ?_
     rintro e w1 ⟨rfl,hb⟩
     have HB:=Lib.hid (bTrans (Joins.below_alloc1 _ _) hb)
     clear hb
     go_wp2_with fail
     go_ret
     exact ⟨rfl,HB.out⟩
set_option maxHeartbeats 800000 in
theorem impl_ReverseMatrix (W H:Int) (ad:Option Addr) (n cap:Nat) (xs:List Int) (w:World) (hn:xs.length=n) (ha:Rd w ad xs) (hl:n≤9223372036854775807):
   Calls Tryz.prog 75 #[.agg #[.int .i64 W, .int .i64 H, .slice ad n cap]] w (MatOut w (revF W H xs)):=by
 have HN:=Lib.hid hn
 have HA:=Lib.hid ha
 clear hn ha
 by_cases hp:matOk W H xs=true
 case neg=>
   have hp2:matOk W H xs=false:=by simpa using hp
   rw [revF_no hp]
   clear hp
   go_enter Tryz.func75,Tryz.ntmps75
   go_wp2_with fail
   refine (impl_IsMatrix _ _ _ _ _ xs _ HN.out (by exact (HA.out.alloc _).alloc _) hl).mono ?_
   rintro e w1 ⟨rfl,hb⟩
   have HB1:=Lib.hid ((Joins.below_alloc2 _ _ _).trans (hb.mono (by simp;omega)))
   have KP1:=Lib.hid (((Blk.new w 31 #[.int .i64 W, .int .i64 H, .slice ad n cap]).alloc _).below' hb)
   have KR1:Hid (Blk w1 (w.heap.size+1) 31 #[.int .i64 0, .int .i64 0, .slice none 0 0]):=by
     have h:=(Blk.new (w.alloc (.cells #[.int .i64 W, .int .i64 H, .slice ad n cap] 31)) 31 #[.int .i64 0, .int .i64 0, .slice none 0 0]).below' hb
     exact Lib.hid (by simpa using h)
   obtain ⟨l1,c0,c1,c2⟩:=KP1.out.c3
   obtain ⟨m1,d0,d1,d2⟩:=KR1.out.c3
   obtain ⟨f0,f1,f2⟩:=KR1.out.f3
   clear hb
   rw [hp2]
   go_wp2_with fail
   exact bodyPost_ret (v:= .agg #[.int .i64 0, .int .i64 0, .slice none 0 0]) (by simp [results,Tryz.results75,go_sem,d0,d1,d2]) rfl ⟨none,0,0,rfl,OwnA.none _ _,by omega,
     ((HB1.out.setCell (by first | (simp;done) | (simp;omega)) _).setCell (by first | (simp;done) | (simp;omega)) _).setCell (by first | (simp;done) | (simp;omega)) _⟩
 case pos=>
   rw [revF_yes HN.out hp]
   obtain ⟨hs,hq,hi,hd⟩:=matOk_bd HN.out hp
   obtain ⟨b1,b2,b3,b4,b5,b6⟩:=matSize_bd hs
   have HQ:=Lib.hid hq
   have HI:=Lib.hid hi
   have HD:=Lib.hid hd
   have HS:=Lib.hid hs
   have hn1:1≤n:=by omega
   have hn2:n≤256:=by omega
   clear hq hi hs hd
   go_enter Tryz.func75,Tryz.ntmps75
   go_wp2_with fail
   refine (impl_IsMatrix _ _ _ _ _ xs _ HN.out (by exact (HA.out.alloc _).alloc _) hl).mono ?_
   rintro e w1 ⟨rfl,hb⟩
   have HB1:=Lib.hid ((Joins.below_alloc2 _ _ _).trans (hb.mono (by simp;omega)))
   have KP1:=Lib.hid (((Blk.new w 31 #[.int .i64 W, .int .i64 H, .slice ad n cap]).alloc _).below' hb)
   have KR1:Hid (Blk w1 (w.heap.size+1) 31 #[.int .i64 0, .int .i64 0, .slice none 0 0]):=by
     have h:=(Blk.new (w.alloc (.cells #[.int .i64 W, .int .i64 H, .slice ad n cap] 31)) 31 #[.int .i64 0, .int .i64 0, .slice none 0 0]).below' hb
     exact Lib.hid (by simpa using h)
   obtain ⟨l1,c0,c1,c2⟩:=KP1.out.c3
   obtain ⟨m1,d0,d1,d2⟩:=KR1.out.c3
   obtain ⟨f0,f1,f2⟩:=KR1.out.f3
   clear hb
   rw [hp]
   go_wp2_with fail
   refine (impl_blankM W H n _ HS.out HQ.out).mono ?_
   rintro e w2 ⟨g,rfl,hg,ho,hb⟩
   have HB2:=Lib.hid (HB1.out.trans (hb.mono HB1.out.size))
   have KP2:=Lib.hid (KP1.out.below' hb)
   have KR2:=Lib.hid (KR1.out.below' hb)
   have HO:=Lib.hid ho
   have HG:Hid (w1.heap.size≤g):=Lib.hid hg
   clear hb hg ho c0 c1 c2 d0 d1 d2 f0 f1 f2
   obtain ⟨l2,c0,c1,c2⟩:=KP2.out.c3
   go_wp2_with fail
   go_loopw [18] (fun i wr=> ∃k:Nat,k≤n∧i= .int .i64 k∧Own wr g n n (filled (xs.map (fun v=>(n:Int) - 1 - v)) (List.replicate n 0) k)∧(w2.alloc (.cells #[.int .i64 W, .int .i64 H, .slice (some ⟨g,0,none⟩) n n] 31)).grownBy wr (some g)) (fun i _=>n - (intOf i).toNat)
   case atStart=>exact ⟨0,Nat.zero_le _,rfl,by rw [filled_zero];exact HO.out.alloc _,grown_refl _ _⟩
   case round=>
     obtain ⟨k,hk,rfl,ho,hg⟩:=hrel
     have HBr:=Lib.hid ((HB2.out.alloc HB2.out.size _).grown hg (by have:=HB2.out.size;simp;omega) (by intro k hk;cases hk;have:=HG.out;omega))
     have KO:=Lib.hid ((Blk.new w2 31 #[.int .i64 W, .int .i64 H, .slice (some ⟨g,0,none⟩) n n]).grown hg (by have:=HO.out.lt;simp;omega))
     obtain ⟨l0,o0,o1,o2⟩:=KO.out.c3
     have KP:=Lib.hid ((KP2.out.alloc _).grown hg (by have:=HG.out;have:=KP1.out.lt;simp;omega))
     obtain ⟨l9,p0,p1,p2⟩:=KP.out.c3
     by_cases hlt:k<n
     · obtain ⟨ba,oa,hae,hal,hac⟩:=(HA.out.below HBr.out).at (by have:=HN.out;omega)
       have h1:=hac (k) (by have:=HN.out;omega)
       subst hae
       clear hac
       obtain ⟨v1,v2⟩:=inR_at HI.out k (by have:=HN.out;omega)
       have g2:wr.cell? ⟨g,k,none⟩=some (.int .i64 ((filled (xs.map (fun v=>(n:Int) - 1 - v)) (List.replicate n 0) k).getD k 0)):=ho.cell hlt
       have g3:wr.frozen? ⟨g,k,none⟩=false:=ho.frozen k
       have hs:=ho.set k ((n:Int) - 1 - xs[k]?.getD 0)
       rw [filled_succ (xs.map (fun v=>(n:Int) - 1 - v)) _ k _ (by have:=HN.out;simp;omega) (by simp;omega) (map_get _ _ _ (by have:=HN.out;omega))] at hs
       have HSt:=Lib.hid hs
       clear hs ho
       go_wp2_with fail
       go_roundw
       case rel=>exact ⟨k+1,by omega,by go_num,by simpa using HSt.out,grown_set hg _⟩
       case measure=>simp [intOf];omega
     · obtain rfl:n=k:=by omega
       have KR:=Lib.hid ((KR2.out.alloc _).grown hg (by have:=HG.out;have:=KR2.out.lt;simp;omega))
       obtain ⟨r0,r1,r2,r3⟩:=KR.out.c3
       obtain ⟨q0,q1,q2⟩:=KR.out.f3
       rw [filled_at (xs.map (fun v=>(n:Int) - 1 - v)) _ n (by simp [HN.out]) (by simp)] at ho
       have HO3:=Lib.hid ho
       clear ho
       go_wp2_with fail
       exact bodyPost_ret (v:= .agg #[.int .i64 W, .int .i64 H, .slice (some ⟨g,0,none⟩) n n]) (by simp [results,Tryz.results75,go_sem,r1,r2,r3]) rfl
         ⟨_,_,_,rfl,OwnA.mk (((HO3.out.other (by have:=HG.out;simp;omega) _).other (by have:=HG.out;simp;omega) _).other (by have:=HG.out;simp;omega) _) (by have:=HG.out;omega),by omega,
           ((HBr.out.setCell (by first | (simp;done) | (simp;omega)) _).setCell (by first | (simp;done) | (simp;omega)) _).setCell (by first | (simp;done) | (simp;omega)) _⟩
theorem filled_skip (ys xs:List Int) (k:Nat) (hk:k<ys.length) (hx:k<xs.length) (hv:ys.getD k 0=xs.getD k 0):filled ys xs k=filled ys xs (k+1):=by
 rw [←filled_succ ys xs k _ hk hx rfl,hv]
 apply List.ext_getElem?
 intro i
 rw [List.getElem?_set]
 by_cases h:k=i
 · subst h
   have e:(filled ys xs k)[k]? =some (xs.getD k 0):=by
     simp only [filled]
     rw [List.getElem?_append_right (by simp;omega),List.getElem?_drop]
     simp only [List.length_take]
     rw [Nat.min_eq_left (by omega),Nat.sub_self,Nat.add_zero]
     simp [List.getD,hx]
   have e2:k<(filled ys xs k).length:=(List.getElem?_eq_some_iff.1 e).1
   rw [if_pos rfl,if_pos e2,e]
 · rw [if_neg h]
end Go.Proofs.YtanccoopbgamdaaGreatDoor
namespace Go.Proofs.YtanccoopbgamdaaGreatDoor
open Go
set_option linter.unusedVariables false
set_option linter.unusedSimpArgs false
section
variable {P : Program} {ops : Array Oper} {Q : Exit → Act → World → Prop} {md : Region.Mode} {S : World → Prop} {n : Nat}
def wpAnyT (P:Program) (md:Region.Mode) (ops:Array Oper) (Q:Exit→Act→World→Prop) (S:World→Prop) (n:Nat):Nat→Array Bool→Act→World→Prop
 | 0,listed,a,w=>Region.ready md ops listed=[]∧Q .normal a w
 | fuel+1,listed,a,w=>
   (Region.ready md ops listed=[]→Q .normal a w)∧
   ∀i ∈ Region.ready md ops listed,wpOp P ops Q i (fun a' w'=>(i<n→S w')∧wpAnyT P md ops Q S n fuel (listed.setIfInBounds i true) a' w') a w
theorem wpAny_of_T: ∀(fuel:Nat) (listed:Array Bool) (a:Act) (w:World),wpAnyT P md ops Q S n fuel listed a w→wpAny P md ops Q fuel listed a w
 | 0,_,_,_,h=>h
 | fuel+1,_,_,_,h=>⟨h.1,fun i hi=>wpOp_mono (fun a' w' h'=>wpAny_of_T fuel _ a' w' h'.2) (h.2 i hi)⟩
theorem wpAnyT_first {i:Nat} {oi:Oper} {v:Value} (hi:ops[i]? =some oi) (hsel: ∀(j:Nat) (o:Oper) cs b,ops[j]? =some o→o.op≠ .select cs b)
   (hQ: ∀c a w,Q (.panic c) (a.put oi.dst v) w→Q (.panic c) a w) (hin:i<n) (hs:Region.sinkB md ops n=true) (hc:Region.chainB md ops n=true) (hn:n<ops.size):
   ∀ (fuel:Nat) (listed:Array Bool) (a:Act) (w:World),
     (∀j oj,ops[j]? =some oj→j≠i→listed.getD j true=false→(∀e ∈ oj.after,Region.binds md e=true→e.on≠i)→oi.apart ops oj=true)→HeadInv md ops n listed→
     i ∈ Region.ready md ops listed→YieldsIf P ops S oi v a→S w→
     wpAnyT P md ops Q S n fuel (listed.setIfInBounds i true) (a.put oi.dst v) w→wpAnyT P md ops Q S n (fuel+1) listed a w:=by
 intro fuel
 induction fuel with
 | zero=>
   intro listed a w _ _ hr hy hS H
   refine ⟨fun h=>(by rw [h] at hr;cases hr),fun j hj=>?_⟩
   by_cases hji:j=i
   · subst hji;exact hy.wpOp hi hS ⟨fun _=>hS,H⟩
   · have:=ready_mono hj hji
     rw [H.1] at this
     cases this
 | succ fuel ih=>
   intro listed a w hfree inv hr hy hS H
   refine ⟨fun h=>(by rw [h] at hr;cases hr),fun j hj=>?_⟩
   by_cases hji:j=i
   · subst hji;exact hy.wpOp hi hS ⟨fun _=>hS,H⟩
   · have h1:=H.2 j (ready_mono hj hji)
     obtain ⟨hjun,oj,hoj,hall⟩:=mem_ready.1 hj
     have hiun:=(mem_ready.1 hr).1
     have hjn:j<n:=by
       by_cases h:j<n
       · exact h
       · exact absurd hj (tail_waits hs hc hn inv (n - i) i rfl hin hiun j (by omega))
     have hnot: ∀e ∈ oj.after,Region.binds md e=true→e.on≠i:=fun e he hb heq=>by
       have h1:=hall e he hb
       rw [heq,getD_both hiun] at h1
       cases h1
     have h2:=wpOp_putIf hoj (hfree j oj hoj hji hjun hnot) (fun cs b=>hsel i oi cs b hi) (fun cs b=>hsel j oj cs b hoj) hQ hy h1
     have hfree': ∀k ok,ops[k]? =some ok→k≠i→(listed.setIfInBounds j true).getD k true=false→
         (∀e ∈ ok.after,Region.binds md e=true→e.on≠i)→oi.apart ops ok=true:=fun k ok hk hki hun hno=>by
       refine hfree k ok hk hki ?_ hno
       by_cases hjk:j=k
       · subst hjk;exact hjun
       · rw [getD_set_ne true hjk] at hun;exact hun
     refine wpOp_mono (fun a' w' h3=>⟨h3.2.1,ih (listed.setIfInBounds j true) a' w' hfree' (inv.set hj hjn) (ready_mono hr (Ne.symm hji)) h3.1 (h3.2.1 hjn) ?_⟩) h2
     rw [Array.setIfInBounds_comm _ _ hji]
     exact h3.2.2
def headB (md:Region.Mode) (ops:Array Oper) (n:Nat) (listed:Array Bool):Bool:=
 decide (listed.size=ops.size) &&
 (List.range ops.size).all (fun j=>!listed.getD j false || (match ops[j]? with | some oj=>oj.after.all (fun e=>!Region.binds md e || listed.getD e.on false) | none=>true)) &&
 (List.range ops.size).all (fun t=>decide (t<n) || !listed.getD t true)
theorem headB_spec {listed:Array Bool} (h:headB md ops n listed=true):HeadInv md ops n listed:=by
 unfold headB at h
 simp only [Bool.and_eq_true,decide_eq_true_eq,List.all_eq_true,List.mem_range,Bool.or_eq_true,Bool.not_eq_true'] at h
 obtain ⟨⟨h1,h2⟩,h3⟩:=h
 refine ⟨h1,fun j oj hj hl e he hb=>?_,fun t ht ht'=>?_⟩
 · have:=h2 j (Array.getElem?_eq_some_iff.1 hj).1
   rw [hl,hj] at this
   rcases this with h | h
   · cases h
   · simp only at h
     have h5:=Array.all_eq_true_iff_forall_mem.1 h e he
     rw [hb] at h5
     simpa using h5
 · rcases h3 t ht' with h | h
   · omega
   · exact h
theorem wpAnyT_take {i:Nat} {oi:Oper} {v:Value} {fuel:Nat} {listed:Array Bool} {a:Act} {w:World} (hi:ops[i]? =some oi)
   (hs:Region.noSelect ops=true) (hf:Region.free md ops listed i=true) (hr:(Region.ready md ops listed).contains i=true)
   (ht:(decide (i<n) && Region.sinkB md ops n && Region.chainB md ops n && decide (n<ops.size) && headB md ops n listed)=true)
   (hQ: ∀c a w,Q (.panic c) (a.put oi.dst v) w→Q (.panic c) a w) (hy:YieldsIf P ops S oi v a) (hS:S w)
   (h:wpAnyT P md ops Q S n fuel (listed.setIfInBounds i true) (a.put oi.dst v) w):wpAnyT P md ops Q S n (fuel+1) listed a w:=by
 simp only [Bool.and_eq_true,decide_eq_true_eq] at ht
 obtain ⟨⟨⟨⟨t1,t2⟩,t3⟩,t4⟩,t5⟩:=ht
 exact wpAnyT_first hi (Region.noSelect_spec hs) hQ t1 t2 t3 t4 fuel listed a w (Region.free_spec hi hf) (headB_spec t5) (by simpa using hr) hy hS h
theorem wpAnyT_all {rs:List Nat} {fuel:Nat} {listed:Array Bool} {a:Act} {w:World} (hr:Region.ready md ops listed=rs) (hne:rs≠ [])
   (h: ∀i ∈ rs,wpOp P ops Q i (fun a' w'=>(i<n→S w')∧wpAnyT P md ops Q S n fuel (listed.setIfInBounds i true) a' w') a w):wpAnyT P md ops Q S n (fuel+1) listed a w:=
 ⟨fun h0=>absurd (hr ▸ h0) hne,hr ▸ h⟩
theorem wpAnyT_done {listed:Array Bool} {a:Act} {w:World} (hr:Region.ready md ops listed=[]) (h:Q .normal a w): ∀fuel,wpAnyT P md ops Q S n fuel listed a w
 | 0=>⟨hr,h⟩
 | _+1=>⟨fun _=>h,by rw [hr];simp⟩
theorem wpAnyT_one {i:Nat} {o:Oper} {fuel:Nat} {listed:Array Bool} {a:Act} {w:World} (hr:Region.ready md ops listed=[i]) (ho:ops[i]? =some o)
   (h: ∀K':Act→World→Prop,Shut (∀a w,(i<n→S w)→((i<n→S w)→wpAnyT P md ops Q S n fuel (listed.setIfInBounds i true) a w)→K' a w)→if Region.wanted o (yielded ops a.tmps)=true then Oper.wp P o a w K' Q else K' (a.put o.dst undef) w):
   wpAnyT P md ops Q S n (fuel+1) listed a w:=
 wpAnyT_all hr (by simp) (fun j hj=>by
   obtain rfl:j=i:=by simpa using hj
   exact wpOp_step ho (fun K' hK=>h K' (fun a w hS hW=>hK a w ⟨hS,hW hS⟩)))
theorem wp_region_T (n:Nat) {id:Nat} {a:Act} {w:World} (S:World→Prop) (hm:P.follows .mixedOrders=true) (hS:S w.drew)
   (h:S w.drew→wpAnyT P .any ops Q S n ops.size (Array.replicate ops.size false) a w.drew):(Code.region id ops true).wp P Q a w:=
 wp_region_any hm (wpAny_of_T _ _ _ _ (h hS))
end
end Go.Proofs.YtanccoopbgamdaaGreatDoor
