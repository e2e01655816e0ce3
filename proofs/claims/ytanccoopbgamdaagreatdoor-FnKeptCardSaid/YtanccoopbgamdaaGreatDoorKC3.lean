/-
  Contracts and plain facts on which the theorem of this claim rests, text 3.
-/
import Derived.BigQuiet
import Derived.Deep.QuietTactic
import Derived.Laws.Rows
import Derived.Outline
import Derived.Test.YtanccoopbgamdaaGreatDoorKC2
namespace Go.Proofs.YtanccoopbgamdaaGreatDoor
open Go.RowKit
set_option linter.unusedVariables false
set_option linter.unusedSimpArgs false
set_option maxHeartbeats 400000 in
theorem impl_blankM (W H:Int) (n:Nat) (w:World) (hs:matSize W H=true) (hn:(n:Int)=W*H):
   Calls Tryz.prog 21 #[.int .i64 W, .int .i64 H] w fun e w'=> ∃g,e= .returned (.agg #[.int .i64 W, .int .i64 H, .slice (some ⟨g,0,none⟩) n n])∧w.heap.size≤g∧Own w' g n n (List.replicate n 0)∧Below w.heap.size w w':=by
 obtain ⟨b1,b2,b3,b4,b5,b6⟩:=matSize_bd hs
 have HN:=Lib.hid hn
 have hn2:n≤256:=by omega
 clear hn
 go_enter Tryz.func21,Tryz.ntmps21
 go_wp2_with (at_make;refine wp_make _ rfl _ _ rfl .i64 .i64 (W*H) (W*H) n rfl rfl HN.out.symm HN.out.symm (by omega) ?_;intro M hM)
 have HM:=Lib.hid hM
 clear hM
 refine bodyPost_ret (v:= .agg #[.int .i64 W, .int .i64 H, .slice (some ⟨w.heap.size+1,0,none⟩) n n]) (by simp [results,Tryz.results21,go_sem]) rfl ⟨w.heap.size+1,rfl,by omega,?_,?_⟩
 · exact HM.out.own' _ (by simp)
 · exact Joins.below_alloc2 _ _ _
set_option maxHeartbeats 400000 in
theorem impl_wrappedRank (W H:Int) (ad:Option Addr) (n cap:Nat) (xs:List Int) (x y:Int) (w:World) (hl:xs.length=n) (ha:Rd w ad xs) (hn:(n:Int)=W*H) (hW:1≤W) (hH:1≤H) (hm:n≤256) (hW2:W≤256) (hH2:H≤256):
   Calls Tryz.prog 44 #[.agg #[.int .i64 W, .int .i64 H, .slice ad n cap], .int .i64 x, .int .i64 y] w fun e w'=>e= .returned (.int .i64 (rankOf W H xs x y))∧Below w.heap.size w w':=by
 obtain ⟨i1,i2,i3,i4⟩:=rank_idx hn hW hH x y
 obtain ⟨x0,x1⟩:=mod_bd x hW
 obtain ⟨y0,y1⟩:=mod_bd y hH
 obtain ⟨ba,oa,hae,hal,hac⟩:=(ha.alloc (.cells #[.int .i64 W, .int .i64 H, .slice ad n cap] 31)).at (by omega)
 have hc:=hac (y % H*W+x % W).toNat (by omega)
 have hal2:ba<w.heap.size+1:=by simpa using hal
 subst hae
 have HN:=Lib.hid hn
 have HL:=Lib.hid hl
 clear hac ha hn hl hal
 go_enter Tryz.func44,Tryz.ntmps44
 go_wp2_with fail
 go_quiet ((refine Calls.quiet_of_same ((impl_remainder _ _ _ ?_ ?_).mono (fun e w' h=>⟨h.1,h.2.symm⟩)) <;>omega))
 go_wp2_with fail
 go_ret
 exact ⟨rfl,(Joins.below_alloc1 _ _).trans (Joins.below_draws _ _ _)⟩
set_option maxHeartbeats 400000 in
theorem spec_l2Rank (W H:Int) (ad:Option Addr) (n cap:Nat) (xs:List Int) (x y:Int) (w:World) (hl:xs.length=n) (ha:Rd w ad xs) (hn:(n:Int)=W*H) (hW:1≤W) (hH:1≤H) (hm:n≤256) (hW2:W≤256) (hH2:H≤256):
   Calls Tryz.prog 132 #[.agg #[.int .i64 W, .int .i64 H, .slice ad n cap], .int .i64 x, .int .i64 y] w fun e w'=>e= .returned (.int .i64 (rankOf W H xs x y))∧Below w.heap.size w w':=by
 obtain ⟨i1,i2,i3,i4⟩:=rank_idx hn hW hH x y
 obtain ⟨x0,x1⟩:=mod_bd x hW
 obtain ⟨y0,y1⟩:=mod_bd y hH
 obtain ⟨ba,oa,hae,hal,hac⟩:=(ha.alloc (.cells #[.int .i64 W, .int .i64 H, .slice ad n cap] 31)).at (by omega)
 have hc:=hac (y % H*W+x % W).toNat (by omega)
 have hal2:ba<w.heap.size+1:=by simpa using hal
 subst hae
 have HN:=Lib.hid hn
 have HL:=Lib.hid hl
 clear hac ha hn hl hal
 go_enter Tryz.func132,Tryz.ntmps132
 go_wp2_with fail
 go_quiet ((refine Calls.quiet_of_same ((spec_l2Mod _ _ _ ?_ ?_).mono (fun e w' h=>⟨h.1,h.2.symm⟩)) <;>omega))
 go_wp2_with fail
 go_ret
 exact ⟨rfl,(Joins.below_alloc1 _ _).trans (Joins.below_draws _ _ _)⟩
theorem OwnA.toRow {w:World} {B n cap:Nat} {ad:Option Addr} {xs:List Int} (h:OwnA w B ad n cap xs):w.ownsRow B 3 1 (.slice ad n cap) n (xs.map (Value.int .i64)):=by
 rcases h with ⟨rfl,rfl,rfl,rfl⟩ | ⟨g,rfl,hB,hl,cur,hg,h1,h2,h3,h4⟩
 · exact ⟨rfl, .inl ⟨rfl,rfl⟩⟩
 · exact ⟨by simp [hl], .inr ⟨g,cap,cur,rfl,hB,hg,h1,h2,by omega,by rw [Nat.mul_one];exact h4⟩⟩
theorem OwnA.ofRow {w:World} {B n:Nat} {v:Value} {xs:List Int} (h:w.ownsRow B 3 1 v n (xs.map (Value.int .i64))): ∃ad cap,v= .slice ad n cap∧OwnA w B ad n cap xs:=by
 obtain ⟨hl,h⟩:=h
 simp at hl
 rcases h with ⟨rfl,rfl⟩ | ⟨g,cap,cur,rfl,hB,hg,h1,h2,h3,h4⟩
 · obtain rfl:xs=[]:=List.eq_nil_of_length_eq_zero hl
   exact ⟨Option.none,0,rfl,OwnA.none _ _⟩
 · exact ⟨_,cap,rfl, .inr ⟨g,rfl,hB,hl,cur,hg,h1,h2,by omega,by rw [Nat.mul_one] at h4;exact h4⟩⟩
theorem blockOf_own (ad:Option Addr) (n cap:Nat):(Value.slice ad n cap).ownBlock=blockOf ad:=by cases ad <;>rfl
theorem wp_append (w:World) {ops:Array Oper} {rest:List Oper} {o:Oper} {a:Act} {Q:Exit→Act→World→Prop}
   (hgd:o.guard=none) (s x:Operand) (hop:o.op= .call {callee:= .builtin .append,args:=#[s,x],argTypes:=#[25,25]})
   (B n cap:Nat) (ad:Option Addr) (xs:List Int) (hs:a.eval s= .slice ad n cap) (ho:OwnA w B ad n cap xs) (g:Nat) (v:Int) (hx:a.eval x= .slice (some ⟨g,0,none⟩) 1 1)
   (hc:w.cell? ⟨g,0,none⟩=some (.int .i64 v)) (hn:n≤1048576) (hB:B≤w.heap.size)
   (hK: ∀ad' cap' w',OwnA w' B ad' (n+1) cap' (xs++ [v])→w.grownBy w' (blockOf ad)→wpList Tryz.prog ops Q rest (a.put o.dst (.slice ad' (n+1) cap')) w'):
   wpList Tryz.prog ops Q (o::rest) a w:=by
 obtain ⟨i,hi,hz0,hz1,hz2⟩:=info_parts infoInt
 refine wpList_append_own w hgd s x 25 hop B 3 i (.int .i64 0) 1 8 Tryz.underlying25 hi hz0 hz1 hz2 rfl (by decide) _ n (xs.map (Value.int .i64)) hs ho.toRow ⟨g,0,none⟩ 1 1 [.int .i64 v] hx rfl ?_ ?_ (by unfold maxLen;omega) (by omega) hB ?_
 · intro j u hj
   match j,hj with
   | 0,hj=>simp at hj;subst hj;simpa [Addr.add] using hc
 · intro u hu;simp at hu;subst hu;rfl
 · intro v' w' h2 h3 _
   have h4:w'.ownsRow B 3 1 v' (n+1) ((xs++ [v]).map (Value.int .i64)):=by simpa using h2
   obtain ⟨ad',cap',rfl,h5⟩:=OwnA.ofRow h4
   rw [blockOf_own] at h3
   exact hK ad' cap' w' h5 h3
theorem OwnA.other {w:World} {B n cap:Nat} {ad:Option Addr} {xs:List Int} (h:OwnA w B ad n cap xs) {a:Addr} (ha:a.block<B) (u:Value):OwnA (w.setCell a u) B ad n cap xs:=by
 rcases h with h | ⟨g,h1,h2,h⟩
 · exact .inl h
 · exact .inr ⟨g,h1,h2,h.other (by omega) u⟩
theorem app_blk {wr w1:World} {B n cap g T:Nat} {ad:Option Addr} {xs:List Int} {cs:Array Value} {O:Obj} (ho:OwnA wr B ad n cap xs) (hg:(wr.alloc O).grownBy w1 (blockOf ad)) (hb:Blk wr g T cs) (h:g<B):Blk w1 g T cs:=
 (hb.alloc O).grownS hg (fun b hb1=>by have:=ho.bd b hb1;omega)
theorem app_below {w0 wr w1:World} {B C n cap:Nat} {ad:Option Addr} {xs:List Int} {O:Obj} (ho:OwnA wr B ad n cap xs) (hg:(wr.alloc O).grownBy w1 (blockOf ad)) (hb:Below C w0 wr) (h:C<B) (hC:C≤wr.heap.size):Below C w0 w1:=
 (hb.alloc hC O).grown hg (by simp;omega) (fun k hk=>by have:=ho.bd k hk;omega)
theorem gen_snoc (n:Nat) (f:Nat→Int):gen n f++ [f n]=gen (n+1) f:=by
 simp [gen,List.range_succ]
set_option maxHeartbeats 400000 in
theorem spec_RowMatrix (W H:Int) (w:World):Calls Tryz.prog 72 #[.int .i64 W, .int .i64 H] w (MatOut2 w (rowF W H)):=by
 by_cases hs:matSize W H=true
 case neg=>
   rw [rowF_no hs]
   go_enter Tryz.func72,Tryz.ntmps72
   go_wp2_with (go_at_call 59;refine (spec_l2Shape_no _ _ _ hs).mono ?_;rintro e w' ⟨rfl,rfl⟩)
   exact bodyPost_ret (v:= .tuple #[.agg #[.int .i64 0, .int .i64 0, .slice none 0 0], .bool false]) (by simp [results,Tryz.results72,go_sem]) rfl ⟨none,0,0,rfl,OwnA.none _ _,by omega,Joins.below_alloc1 _ _⟩
 case pos=>
   obtain ⟨n,hq⟩: ∃n:Nat,(n:Int)=W*H:=⟨_,(toNat_mulM hs).1⟩
   obtain ⟨b1,b2,b3,b4,b5,b6⟩:=matSize_bd hs
   have hn1:1≤n:=by omega
   have hn2:n≤256:=by omega
   rw [rowF_yes hs hq]
   have HQ:=Lib.hid hq
   clear hq
   go_enter Tryz.func72,Tryz.ntmps72
   go_wp2_with (go_at_call 59;refine (spec_l2Shape_yes _ _ _ hs).mono ?_;rintro e w' ⟨rfl,rfl⟩)
   go_loopw [7] (fun i wr=> ∃(k:Nat) (ad':Option Addr) (cap':Nat),k≤n∧i= .int .i64 k∧OwnA wr (w.heap.size+1+1) ad' k cap' (gen k ((fun i=>(i:Int))))∧Blk wr (w.heap.size+1) 31 #[.int .i64 (W), .int .i64 (H), .slice ad' k cap']∧Below (w.heap.size+1) (w.alloc (.cells #[.int .i64 0, .int .i64 0, .slice none 0 0] 31)) wr) (fun i _=>n - (intOf i).toNat)
   case atStart=>exact ⟨0,none,0,Nat.zero_le _,rfl,OwnA.none _ _,by first | exact Blk.new _ _ _ | exact Blk.new' _ _ (by simp),by first | exact Joins.below_alloc1 _ _ | exact (Below.refl _ _).alloc (by simp) _⟩
   case round=>
     obtain ⟨k,ad',cap',hk,rfl,ho,hb',hw'⟩:=hrel
     have HO:=Lib.hid ho
     have KB:=Lib.hid hb'
     have HW:=Lib.hid hw'
     obtain ⟨l0,o0,o1,o2⟩:=KB.out.c3
     clear ho hb' hw'
     by_cases hlt:k<n
     · have hlt2:(k:Int)<W*H:=by have:=HQ.out;omega
       go_wp2_with (at_builtin;refine wp_append _ rfl (.tmp 24) (.tmp 26) rfl (w.heap.size+1+1) k cap' ad' _ rfl (HO.out.alloc _) wr.heap.size ((k:Int)) rfl (by go_simp) (by omega) (by have:=KB.out.lt;simp;omega) ?_;intro ad2 cap2 w5 ho5 hg5;have KB5:=Lib.hid (app_blk HO.out hg5 KB.out (by omega));obtain ⟨l5,p0,p1,p2⟩:=KB5.out.c3;obtain ⟨f0,f1,f2⟩:=KB5.out.f3)
       have HW5:=Lib.hid (app_below HO.out hg5 HW.out (by omega) (by have:=KB.out.lt;omega))
       have HO5:=Lib.hid ho5
       clear ho5 hg5
       go_roundw
       case rel=>exact ⟨k+1,ad2,cap2,by omega,by go_num,(by rw [←gen_snoc];exact HO5.out.other (by simp) _),by first | exact KB5.out.set 2 _ | (have h:=KB5.out.set 2 (.slice ad2 (k+1) cap2);simpa using h),HW5.out.setCell (by simp) _⟩
       case measure=>simp [intOf];omega
     · have hlt2: ¬(k:Int)<W*H:=by have:=HQ.out;omega
       obtain rfl:n=k:=by omega
       have KR:=Lib.hid ((Blk.new w 31 #[.int .i64 0, .int .i64 0, .slice none 0 0]).below HW.out (by simp))
       have HBr:=Lib.hid ((Joins.below_alloc1 w _).trans (HW.out.mono (by simp)))
       obtain ⟨r0,r1,r2,r3⟩:=KR.out.c3
       obtain ⟨q0,q1,q2⟩:=KR.out.f3
       go_wp2_with fail
       exact bodyPost_ret (v:= .tuple #[.agg #[.int .i64 (W), .int .i64 (H), .slice ad' _ cap'], .bool true]) (by simp [results,Tryz.results72,go_sem,r1,r2,r3]) rfl
         ⟨_,_,_,rfl,(((HO.out.other (by simp;try omega) _).other (by simp;try omega) _).other (by simp;try omega) _).mono (by have:=HBr.out.size;try simp;omega),by omega,
           ((HBr.out.setCell (by first | (simp;done) | (simp;omega)) _).setCell (by first | (simp;done) | (simp;omega)) _).setCell (by first | (simp;done) | (simp;omega)) _⟩
def zeros256:Array Value:=(List.replicate 256 (Value.int .i64 0)).toArray
theorem run_alloc256 (w:World):(Instr.alloc 103 true (.tuple #[])).run Tryz.prog w= .ok (.pointer (some ⟨w.heap.size,0,none⟩)) (w.alloc (.cells zeros256 103)):=by kernel_rfl
theorem wp_alloc256 (w:World) {ops:Array Oper} {rest:List Oper} {o:Oper} {a:Act} {Q:Exit→Act→World→Prop}
   (hg:o.guard=none) (hop:o.op=Op.alloc 103)
   (hK: ∀C:Array Value,C=((List.replicate 256 0).map (Value.int .i64)).toArray→wpList Tryz.prog ops Q rest (a.put o.dst (.pointer (some ⟨w.heap.size,0,none⟩))) (w.alloc (.cells C 103))):
   wpList Tryz.prog ops Q (o::rest) a w:=by
 refine wpList_plain hg fun K hK'=>?_
 have hr:=run_alloc256 w
 unfold Oper.wp
 simp [execOp,hop,hr,Result.andThen]
 exact hK' _ _ (hK _ (by unfold zeros256;rw [List.map_replicate]))
section
variable {P : Program} (w : World)
open Op in
theorem run_equalIn_ints (d N:Nat) (t e:TypeId) (xs ys:List Int) (i:TypeInfo) (ht:P.underlying t=some (.array N e)) (he:P.underlying e=some (.int .i64)) (hi:P.info? e=some i) (hs:i.size=1)
   (hx:xs.length=N) (hy:ys.length=N):
   (Op.equalIn (d+2) t (.agg (xs.map (Value.int .i64)).toArray) (.agg (ys.map (Value.int .i64)).toArray)).run P w= .ok (decide (xs=ys)) w:=by
 have hone: ∀(x y:Int) (w:World),(Op.equalIn (d+1) e (.int .i64 x) (.int .i64 y)).run P w= .ok (x==y) w:=by
   intro x y w
   simp [Op.equalIn,run_underlying he]
 have hsz: ∀w:World,(sizeOf e).run P w= .ok 1 w:=by
   intro w
   simp [sizeOf,typeInfo,hi,hs]
 have hag: ∀w:World,(isAgg e).run P w= .ok false w:=by
   intro w
   simp [isAgg,run_underlying he]
 have hp: ∀(zs:List Int) (j:Nat) (w:World),j<zs.length→(part e (zs.map (Value.int .i64)).toArray (j*1)).run P w= .ok (.int .i64 (zs.getD j 0)) w:=by
   intro zs j w hj
   simp [part,hag,hj]
 have key: ∀(k s:Nat),s+k=N→xs.take s=ys.take s→
     (forIn (List.range' s k) ((none,()):Option Bool × Unit) (fun i (_:Option Bool × Unit)=>(do
       let a←part e (xs.map (Value.int .i64)).toArray (i*1)
       let b←part e (ys.map (Value.int .i64)).toArray (i*1)
       let c←equalIn (d+1) e a b
       if (!c)=true then pure (ForInStep.done (some false,())) else pure (ForInStep.yield (none,())):Sem (ForInStep (Option Bool × Unit))))).run P w= .ok (if xs=ys then (none,()) else (some false,())) w:=by
   intro k
   induction k with
   | zero=>
     intro s hs ht
     have e1:xs=ys:=by
       rwa [List.take_of_length_le (by omega),List.take_of_length_le (by omega)] at ht
     rw [if_pos e1]
     simp
   | succ k ih=>
     intro s hs ht
     rw [List.range'_succ,List.forIn_cons]
     simp only [Sem.run_bind,hp xs s _ (by omega),hp ys s _ (by omega),Result.andThen_ok,hone]
     by_cases h:xs.getD s 0=ys.getD s 0
     · rw [beq_iff_eq.2 h]
       simp only [Bool.not_true,Bool.false_eq_true,if_false,Sem.run_pure,Result.andThen_ok]
       exact ih (s+1) (by omega) (take_succ_eq (by omega) (by omega) ht h)
     · have h2:(xs.getD s 0==ys.getD s 0)=false:=by simpa using h
       rw [h2]
       have h3: ¬xs=ys:=fun he=>h (by rw [he])
       rw [if_neg h3]
       simp
 rw [Op.equalIn]
 simp only [Sem.run_bind,run_underlying ht,Result.andThen_ok,hsz]
 simp only [Std.Legacy.Range.forIn_eq_forIn_range',Std.Legacy.Range.size,Nat.sub_zero,Nat.add_sub_cancel,Nat.div_one]
 have hk:=key N 0 (by omega) rfl
 rw [hk]
 by_cases h:xs=ys
 · simp [h]
 · simp [h]
end
def rowA (zs:List Int):Array Value:=(zs.map (Value.int .i64)).toArray
theorem rowA_size (zs:List Int):(rowA zs).size=zs.length:=by simp [rowA]
theorem rowA_set (zs:List Int) (j:Nat) (v:Int):(rowA zs).setIfInBounds j (.int .i64 v)=rowA (zs.set j v):=by
 unfold rowA
 rw [List.setIfInBounds_toArray,List.map_set]
theorem rowA_at (zs:List Int) (j:Nat) (h:j<zs.length):(rowA zs)[j]? =some (.int .i64 (zs[j]?.getD 0)):=by
 simp [rowA,h]
theorem under256:Tryz.prog.underlying 103=some (.array 256 3):=by kernel_rfl
theorem info256:(Tryz.prog.info? 103).map (·.size)=some 256:=by kernel_rfl
theorem arr256_eq (xs ys:List Int) (hx:xs.length=256) (hy:ys.length=256) (b:Bool) (hb:decide (xs=ys)=b): ∀w,(Op.equalIn 10000 103 (.agg (rowA xs)) (.agg (rowA ys))).run Tryz.prog w= .ok b w:=by
 intro w
 obtain ⟨i,hi,_,hs,_⟩:=info_parts infoInt
 rw [←hb]
 exact run_equalIn_ints w 9998 256 103 3 xs ys i under256 Tryz.underlying3 hi hs hx hy
theorem cntRow_len (xs:List Int) (k:Nat):(cntRow xs k).length=256:=gen_len _ _
theorem onceRow_len (k:Nat):(onceRow k).length=256:=gen_len _ _
set_option maxHeartbeats 800000 in
theorem impl_once (ad:Option Addr) (n cap:Nat) (xs:List Int) (w:World) (hn:xs.length=n) (ha:Rd w ad xs) (hm:n≤256):
   Calls Tryz.prog 47 #[.slice ad n cap] w fun e w'=>e= .returned (.bool (permOk xs))∧Below w.heap.size w w':=by
 have HN:=Lib.hid hn
 have HA:=Lib.hid ha
 clear hn ha
 go_enter Tryz.func47,Tryz.ntmps47
 iterate 11 go_step
 refine wp_alloc256 _ rfl rfl ?_
 intro C1 hC1
 refine wp_alloc256 _ rfl rfl ?_
 intro C2 hC2
 have HC1:Hid (C1=rowA (cntRow xs 0)):=Lib.hid (by rw [cntRow_zero];exact hC1)
 have HC2:Hid (C2=rowA (onceRow 0)):=Lib.hid (by rw [onceRow_zero];exact hC2)
 clear hC1 hC2
 go_wp2_with fail
 go_loopw [9] (fun i wr=> ∃k:Nat,k≤n∧i= .int .i64 k∧Hid (inR (xs.take k) n=true)∧Blk wr w.heap.size 103 (rowA (cntRow xs k))∧Blk wr (w.heap.size+1) 103 (rowA (onceRow k))∧Below w.heap.size w wr) (fun i _=>n - (intOf i).toNat)
 case atStart=>exact ⟨0,Nat.zero_le _,rfl,rfl,by rw [←HC1.out];exact (Blk.new _ _ _).alloc _,by rw [←HC2.out];exact Blk.new' _ _ (by simp),Joins.below_alloc2 _ _ _⟩
 case round=>
   obtain ⟨k,hk,rfl,HT,hb1,hb2,hw⟩:=hrel
   have K1:=Lib.hid hb1
   have K2:=Lib.hid hb2
   have HW:=Lib.hid hw
   have z1:=K1.out.lt
   have z2:=K2.out.lt
   clear hb1 hb2 hw
   by_cases hlt:k<n
   · obtain ⟨ba,oa,hae,hal,hac⟩:=(HA.out.below HW.out).at (by have:=HN.out;omega)
     subst hae
     have h1:=hac k (by have:=HN.out;omega)
     clear hac
     by_cases hv:0≤xs[k]?.getD 0∧xs[k]?.getD 0<(n:Int)
     · obtain ⟨r,hr⟩: ∃r:Nat,xs[k]?.getD 0=(r:Int):=⟨(xs[k]?.getD 0).toNat,by omega⟩
       have h1r:wr.cell? ⟨ba,oa+k,none⟩=some (.int .i64 (r:Int)):=by rw [←hr];simpa [List.getD] using h1
       have HR:=Lib.hid hr
       have hrn:(r:Int)<n:=by omega
       have hr2:r<256:=by omega
       clear h1 hr hv
       have t2:=icount_take_bd (r:Int) xs k
       have c1:wr.cell? ⟨w.heap.size,r,none⟩=some (.int .i64 (icount (r:Int) (xs.take k):Int)):=by
         rw [K1.out.cell,rowA_at _ _ (by rw [cntRow_len];omega),cntRow_at _ _ _ hr2]
       have f1:=K1.out.frozen r
       have c2:wr.cell? ⟨w.heap.size+1,k,none⟩=some (.int .i64 ((onceRow k)[k]?.getD 0)):=by
         rw [K2.out.cell,rowA_at _ _ (by rw [onceRow_len];omega)]
       have f2:=K2.out.frozen k
       go_wp2_with fail
       go_roundw
       case rel=>
         refine ⟨k+1,by omega,by go_num,inR_snoc (by have:=HN.out;omega) HT.out (by rw [HR.out];omega) (by rw [HR.out];omega),?_,?_,(HW.out.setCell (by simp) _).setCell (by simp) _⟩
         · have h:=(K1.out.set r (.int .i64 ((icount (r:Int) (xs.take k):Int)+1))).other (a:=⟨w.heap.size+1,k,none⟩) (by simp) (.int .i64 1)
           rw [rowA_set,cntRow_succ _ _ _ (by have:=HN.out;omega) hr2 HR.out] at h
           exact h
         · have h:=(K2.out.other (a:=⟨w.heap.size,r,none⟩) (by simp) (.int .i64 ((icount (r:Int) (xs.take k):Int)+1))).set k (.int .i64 1)
           rw [rowA_set,onceRow_succ _ (by omega)] at h
           exact h
       case measure=>simp [intOf];omega
     · have HP:=Lib.hid (permOk_noR HN.out k hlt hv)
       go_wp2_with fail
       all_goals (go_ret;first | exact ⟨ret_bool HP.out.symm,HW.out⟩ | (exfalso;exact hv ⟨by omega,by omega⟩))
   · obtain rfl:n=k:=by omega
     have HT2:Hid (inR xs n=true):=by
       have h:=HT.out
       rw [List.take_of_length_le (by have:=HN.out;omega)] at h
       exact h
     have he:=arr256_eq (cntRow xs n) (onceRow n) (cntRow_len _ _) (onceRow_len _) _ (rows_eq HN.out hm HT2.out)
     have e1:(Tryz.prog.info? 103).map (·.size)=some (rowA (cntRow xs n)).size:=by rw [rowA_size,cntRow_len];exact info256
     have e2:(Tryz.prog.info? 103).map (·.size)=some (rowA (onceRow n)).size:=by rw [rowA_size,onceRow_len];exact info256
     have E1:=Lib.hid e1
     have E2:=Lib.hid e2
     clear e1 e2
     go_wp2_with (first | (refine wpList_load_row rfl 103 (.tmp 3) rfl w.heap.size rfl 103 _ (0,0) _ K1.out under256 rfl E1.out ?_) | (refine wpList_load_row rfl 103 (.tmp 4) rfl (w.heap.size+1) rfl 103 _ (0,0) _ K2.out under256 rfl E2.out ?_))
     go_ret
     exact ⟨rfl,HW.out⟩
set_option maxHeartbeats 400000 in
theorem impl_IsMatrix (W H:Int) (ad:Option Addr) (n cap:Nat) (xs:List Int) (w:World) (hn:xs.length=n) (ha:Rd w ad xs) (hl:n≤9223372036854775807):
   Calls Tryz.prog 23 #[.agg #[.int .i64 W, .int .i64 H, .slice ad n cap]] w fun e w'=>e= .returned (.bool (matOk W H xs))∧Below w.heap.size w w':=by
 have HN:=Lib.hid hn
 have HA:=Lib.hid ha
 clear hn ha
 by_cases hs:matSize W H=true
 case neg=>
   have hs2:matSize W H=false:=by simpa using hs
   rw [matOk_no1 hs2]
   clear hs
   go_enter Tryz.func23,Tryz.ntmps23
   go_wp2_with (go_at_call 46;refine (impl_isMatrixSize _ _ _).mono ?_;rintro e w' ⟨rfl,rfl⟩)
   go_ret
   exact ⟨rfl,Joins.below_alloc1 _ _⟩
 case pos=>
   obtain ⟨b1,b2,b3,b4,b5,b6⟩:=matSize_bd hs
   by_cases hq:(n:Int)=W*H
   case neg=>
     rw [matOk_no2 HN.out hq]
     have hq2:((n:Int)==W*H)=false:=by simpa using hq
     clear hq
     go_enter Tryz.func23,Tryz.ntmps23
     go_wp2_with (go_at_call 46;refine (impl_isMatrixSize _ _ _).mono ?_;rintro e w' ⟨rfl,rfl⟩)
     go_ret
     exact ⟨rfl,Joins.below_alloc1 _ _⟩
   case pos=>
     rw [matOk_in HN.out hs hq]
     have hn2:n≤256:=by omega
     have hq2:((n:Int)==W*H)=true:=by simpa using hq
     clear hq
     go_enter Tryz.func23,Tryz.ntmps23
     go_wp2_with (go_at_call 46;refine (impl_isMatrixSize _ _ _).mono ?_;rintro e w' ⟨rfl,rfl⟩)
     refine (impl_once _ _ _ xs _ HN.out (HA.out.below (Joins.below_alloc1 _ _)) hn2).mono ?_
     rintro e w1 ⟨rfl,hb⟩
     have HB:=Lib.hid (bTrans (Joins.below_alloc1 _ _) hb)
     clear hb
     go_wp2_with fail
     go_ret
     exact ⟨rfl,HB.out⟩
def rowB (bs:List Bool):Array Value:=(bs.map Value.bool).toArray
theorem rowB_set (zs:List Bool) (j:Nat) (v:Bool):(rowB zs).setIfInBounds j (.bool v)=rowB (zs.set j v):=by
 unfold rowB
 rw [List.setIfInBounds_toArray,List.map_set]
theorem infoBool:(Tryz.prog.info? 4).map (fun i=>(i.zero,i.size,i.bytes))=some (some (.bool false),1,1):=by kernel_rfl
theorem wp_makeB (w:World) {ops:Array Oper} {rest:List Oper} {o:Oper} {a:Act} {Q:Exit→Act→World→Prop}
   (hg:o.guard=none) (l c:Operand) (hop:o.op=Op.makeSlice 93 l c) (kl kc:IntKind) (L C:Int) (n:Nat) (hl:a.eval l= .int kl L) (hc:a.eval c= .int kc C) (hL:L=(n:Int)) (hC:C=(n:Int)) (hn:n≤17592186044416)
   (hK: ∀M:Array Value,M=rowB (List.replicate n false)→wpList Tryz.prog ops Q rest (a.put o.dst (.slice (some ⟨w.heap.size,0,none⟩) n n)) (w.alloc (.cells M 4))):
   wpList Tryz.prog ops Q (o::rest) a w:=by
 obtain ⟨i,hi,hz0,hz1,hz2⟩:=info_parts infoBool
 refine wpList_plain hg fun K hK'=>?_
 subst hL
 subst hC
 have hr:=run_make (P:=Tryz.prog) w 93 4 i (.bool false) Tryz.underlying93 hi hz0 kl kc n n (by omega) (Int.le_refl _) (by rw [hz2];omega) (by omega)
 simp only [Int.toNat_natCast,hz1,Nat.mul_one] at hr
 have hm:madeCells #[.bool false] n=rowB (List.replicate n false):=by
   apply Array.ext'
   rw [toList_madeCells_one]
   simp [rowB]
 unfold Oper.wp
 simp only [Value.cells] at hr
 simp [execOp,hop,hl,hc,hr,Result.andThen]
 exact hK' _ _ (hK _ hm)
def seenRow (xs:List Int) (n k:Nat):List Bool:=(List.range n).map (fun (r:Nat)=>decide ((r:Int) ∈ xs.take k))
theorem seenRow_zero (xs:List Int) (n:Nat):seenRow xs n 0=List.replicate n false:=by
 unfold seenRow
 apply List.ext_getElem?
 intro i
 by_cases h:i<n
 · simp [h]
 · simp [h]
theorem seenRow_at (xs:List Int) (n k r:Nat) (h:r<n):(rowB (seenRow xs n k))[r]? =some (.bool (decide ((r:Int) ∈ xs.take k))):=by
 simp [rowB,seenRow,h]
theorem seenRow_succ (xs:List Int) (n k r:Nat) (hk:k<xs.length) (he:xs[k]?.getD 0=(r:Int)):(seenRow xs n k).set r true=seenRow xs n (k+1):=by
 simp only [List.getElem?_eq_getElem hk,Option.getD_some] at he
 unfold seenRow
 apply List.ext_getElem?
 intro i
 rw [List.getElem?_set,List.take_succ_eq_append_getElem hk,he]
 by_cases h:r=i
 · subst h
   by_cases h2:r<n
   · simp [h2]
   · simp [h2]
 · rw [if_neg h]
   by_cases h2:i<n
   · have: ¬(i:Int)=(r:Int):=by omega
     simp [h2,this]
   · simp [h2]
set_option maxHeartbeats 800000 in
theorem spec_IsMatrix (W H:Int) (ad:Option Addr) (n cap:Nat) (xs:List Int) (w:World) (hn:xs.length=n) (ha:Rd w ad xs) (hl:n≤9223372036854775807):
   Calls Tryz.prog 37 #[.agg #[.int .i64 W, .int .i64 H, .slice ad n cap]] w fun e w'=>e= .returned (.bool (matOk W H xs))∧Below w.heap.size w w':=by
 have HN:=Lib.hid hn
 have HA:=Lib.hid ha
 clear hn ha
 by_cases hs:matSize W H=true
 case neg=>
   have hs2:matSize W H=false:=by simpa using hs
   rw [matOk_no1 hs2]
   go_enter Tryz.func37,Tryz.ntmps37
   go_wp2_with (go_at_call 59;refine (spec_l2Shape_no _ _ _ hs).mono ?_;rintro e w' ⟨rfl,rfl⟩)
   go_ret
   exact ⟨rfl,Joins.below_alloc1 _ _⟩
 case pos=>
   obtain ⟨b1,b2,b3,b4,b5,b6⟩:=matSize_bd hs
   by_cases hq:(n:Int)=W*H
   case neg=>
     rw [matOk_no2 HN.out hq]
     have hq2:((n:Int) !=W*H)=true:=by simpa using hq
     clear hq
     go_enter Tryz.func37,Tryz.ntmps37
     go_wp2_with (go_at_call 59;refine (spec_l2Shape_yes _ _ _ hs).mono ?_;rintro e w' ⟨rfl,rfl⟩)
     go_ret
     exact ⟨rfl,Joins.below_alloc1 _ _⟩
   case pos=>
     rw [matOk_in HN.out hs hq]
     have hn2:n≤256:=by omega
     have hn1:1≤n:=by omega
     have hq2:((n:Int) !=W*H)=false:=by simpa using hq
     clear hq
     go_enter Tryz.func37,Tryz.ntmps37
     go_wp2_with (first | (go_at_call 59;refine (spec_l2Shape_yes _ _ _ hs).mono ?_;rintro e w' ⟨rfl,rfl⟩) | (at_make;refine wp_makeB _ rfl _ _ rfl .i64 .i64 n n n rfl rfl rfl rfl (by omega) ?_;intro M hM))
     go_loopw [30] (fun i wr=> ∃k:Nat,k≤n∧i= .int .i64 k∧Hid (inR (xs.take k) n=true)∧Hid ((xs.take k).Nodup)∧Blk wr (w.heap.size+1) 4 (rowB (seenRow xs n k))∧Below (w.heap.size+1) (w.alloc (.cells #[.int .i64 W, .int .i64 H, .slice ad n cap] 31)) wr) (fun i _=>n - (intOf i).toNat)
     case atStart=>exact ⟨0,Nat.zero_le _,rfl,rfl,List.nodup_nil,by rw [seenRow_zero];exact Blk.new' _ _ (by simp),by exact (Below.refl _ _).alloc (by first | exact Nat.le_refl _ | simp) _⟩
     case round=>
       obtain ⟨k,hk,rfl,HT,HD,hb1,hw⟩:=hrel
       have K1:=Lib.hid hb1
       have HW:=Lib.hid hw
       have z1:=K1.out.lt
       have KP:=Lib.hid ((Blk.new w 31 #[.int .i64 W, .int .i64 H, .slice ad n cap]).below HW.out (by simp))
       obtain ⟨l1,c0,c1,c2⟩:=KP.out.c3
       have HBr:=Lib.hid ((Joins.below_alloc1 w _).trans (HW.out.mono (by simp)))
       clear hb1 hw
       by_cases hlt:k<n
       · obtain ⟨ba,oa,hae,hal,hac⟩:=(HA.out.below HBr.out).at (by have:=HN.out;omega)
         subst hae
         have h1:=hac k (by have:=HN.out;omega)
         clear hac
         by_cases hv:0≤xs[k]?.getD 0∧xs[k]?.getD 0<(n:Int)
         · obtain ⟨r,hr⟩: ∃r:Nat,xs[k]?.getD 0=(r:Int):=⟨(xs[k]?.getD 0).toNat,by omega⟩
           have h1r:wr.cell? ⟨ba,oa+k,none⟩=some (.int .i64 (r:Int)):=by rw [←hr];simpa [List.getD] using h1
           have HR:=Lib.hid hr
           have hrn:(r:Int)<n:=by omega
           have hrn2:r<n:=by omega
           have hv2:decide (0≤(r:Int)∧(r:Int)≤(n:Int) - 1)=true:=by rw [decide_eq_true_iff];omega
           clear h1 hr hv
           have d1:=(K1.out.cell r).trans (seenRow_at xs n k r hrn2)
           have f1:=K1.out.frozen r
           by_cases hm:(r:Int) ∈ xs.take k
           · have hm2:decide ((r:Int) ∈ xs.take k)=true:=by simpa using hm
             rw [hm2] at d1
             have HM2:=Lib.hid hm
             clear hm hm2
             go_wp2_with fail
             refine (spec_l1In _ _ _ _).mono ?_
             rintro e w' ⟨rfl,rfl⟩
             rw [hv2]
             clear hv2
             go_wp2_with fail
             go_ret
             exact ⟨ret_bool (permOk_noD (nodup_take_no (k:=k) (by have:=HN.out;omega) (by rw [HR.out];exact HM2.out))).symm,HBr.out⟩
           · have hm2:decide ((r:Int) ∈ xs.take k)=false:=by simpa using hm
             rw [hm2] at d1
             have HM2:=Lib.hid hm
             clear hm hm2
             go_wp2_with fail
             refine (spec_l1In _ _ _ _).mono ?_
             rintro e w' ⟨rfl,rfl⟩
             rw [hv2]
             clear hv2
             go_wp2_with fail
             go_roundw
             case rel=>
               refine ⟨k+1,by omega,by go_num,inR_snoc (by have:=HN.out;omega) HT.out (by rw [HR.out];omega) (by rw [HR.out];omega),nodup_take_succ (by have:=HN.out;omega) HD.out (by rw [HR.out];exact HM2.out),?_,HW.out.setCell (by simp) _⟩
               have h:=K1.out.set r (.bool true)
               rw [rowB_set,seenRow_succ _ _ _ _ (by have:=HN.out;omega) HR.out] at h
               exact h
             case measure=>simp [intOf];omega
         · have HP:=Lib.hid (permOk_noR HN.out k hlt hv)
           have hv2:decide (0≤xs[k]?.getD 0∧xs[k]?.getD 0≤(n:Int) - 1)=false:=by rw [decide_eq_false_iff_not];omega
           clear hv
           go_wp2_with fail
           refine (spec_l1In _ _ _ _).mono ?_
           rintro e w' ⟨rfl,rfl⟩
           rw [hv2]
           clear hv2
           go_wp2_with fail
           go_ret
           exact ⟨ret_bool HP.out.symm,HBr.out⟩
       · obtain rfl:n=k:=by omega
         have HP:Hid (permOk xs=true):=by
           have h:=HT.out
           have h2:=HD.out
           rw [List.take_of_length_le (by have:=HN.out;omega)] at h h2
           exact Lib.hid (permOk_mk HN.out h h2)
         go_wp2_with fail
         go_ret
         exact ⟨ret_bool HP.out.symm,HBr.out⟩
end Go.Proofs.YtanccoopbgamdaaGreatDoor
