/-
  Contracts and plain facts on which the theorem of this claim rests, text 4.
-/
import Derived.BigGuardPart
import Derived.BigQuiet
import Derived.Deep.QuietTactic
import Derived.StillTailTactics
import Derived.Test.YtanccoopbgamdaaGreatDoorRows
import Derived.Test.YtanccoopbgamdaaGreatDoorDC1
import Derived.Test.YtanccoopbgamdaaGreatDoorDC3
namespace Go.Proofs.YtanccoopbgamdaaGreatDoor
open Go.RowKit
set_option linter.unusedVariables false
set_option linter.unusedSimpArgs false
theorem infoInt:(Tryz.prog.info? 3).map (fun i=>(i.zero,i.size,i.bytes))=some (some (.int .i64 0),1,8):=by kernel_rfl
theorem wp_make (w:World) {ops:Array Oper} {rest:List Oper} {o:Oper} {a:Act} {Q:Exit→Act→World→Prop}
   (hg:o.guard=none) (l c:Operand) (hop:o.op=Op.makeSlice 25 l c) (kl kc:IntKind) (L C:Int) (n:Nat) (hl:a.eval l= .int kl L) (hc:a.eval c= .int kc C) (hL:L=(n:Int)) (hC:C=(n:Int)) (hn:n≤17592186044416)
   (hK: ∀M:Array Value,RowM M n (List.replicate n 0)→wpList Tryz.prog ops Q rest (a.put o.dst (.slice (some ⟨w.heap.size,0,none⟩) n n)) (w.alloc (.cells M 3))):
   wpList Tryz.prog ops Q (o::rest) a w:=by
 obtain ⟨i,hi,hz0,hz1,hz2⟩:=info_parts infoInt
 refine wpList_plain hg fun K hK'=>?_
 subst hL
 subst hC
 have hr:=run_make (P:=Tryz.prog) w 25 3 i (.int .i64 0) Tryz.underlying25 hi hz0 kl kc n n (by omega) (Int.le_refl _) (by rw [hz2];omega) (by omega)
 simp only [Int.toNat_natCast,hz1,Nat.mul_one] at hr
 have hm:=RowM.zero n (by unfold maxLen;omega)
 unfold Oper.wp
 simp only [Value.cells] at hr
 simp [execOp,hop,hl,hc,hr,Result.andThen]
 exact hK' _ _ (hK _ hm)
set_option maxHeartbeats 400000 in
theorem impl_isSize (W H:Int) (w:World):
   Calls Tryz.prog 19 #[.int .i64 W, .int .i64 H] w fun e w'=>e= .returned (.bool (sizeOk W H))∧w=w':=by
 by_cases c:1≤W∧W≤64∧1≤H∧H≤64
 · obtain ⟨h1,h2,h3,h4⟩:=c
   rw [sizeOk_in h1 h2 h3 h4]
   obtain ⟨m1,m2⟩:=mul_bd W H h1 h2 h3 h4
   go_enter Tryz.func19,Tryz.ntmps19
   go_wp2
   all_goals (go_ret;exact ⟨rfl,rfl⟩)
 · rw [sizeOk_out c]
   go_enter Tryz.func19,Tryz.ntmps19
   go_wp2
   all_goals (go_ret;first | exact ⟨rfl,rfl⟩ | (exfalso;exact c ⟨by omega,by omega,by omega,by omega⟩))
set_option maxHeartbeats 400000 in
theorem impl_allWithin (ad:Option Addr) (n cap:Nat) (xs:List Int) (m:Int) (w:World) (hn:xs.length=n) (ha:Rd w ad xs) (hl:n≤9223372036854775807):
   Calls Tryz.prog 48 #[.slice ad n cap, .int .i64 m] w fun e w'=>e= .returned (.bool (within xs m))∧w=w':=by
 have HN:=Lib.hid hn
 have HA:=Lib.hid ha
 clear hn ha
 go_enter Tryz.func48,Tryz.ntmps48
 go_wp2
 go_loop [9] (fun i=> ∃k:Nat,k≤n∧i= .int .i64 k∧Hid (within (xs.take k) m=true)) (fun i=>n - (intOf i).toNat)
 case atStart=>exact ⟨0,Nat.zero_le _,rfl,rfl⟩
 case round=>
   obtain ⟨k,hk,rfl,HT⟩:=hrel
   by_cases hlt:k<n
   · obtain ⟨ba,oa,hae,hal,hac⟩:=HA.out.at (by have:=HN.out;omega)
     subst hae
     have h1:w.cell? ⟨ba,oa+k,none⟩=some (.int .i64 (xs.getD k 0)):=hac k (by have:=HN.out;omega)
     clear hac
     go_wp2
     iterate 2
       · go_ret
         exact ⟨ret_bool (within_no xs k m (by have:=HN.out;omega) (by omega)).symm,rfl⟩
     · go_round
       case rel=>exact ⟨k+1,by omega,by go_num,by rw [within_snoc _ _ _ (by have:=HN.out;omega),HT.out,Bool.true_and,decide_eq_true_iff];exact ⟨by omega,by omega⟩⟩
       case measure=>simp [intOf];omega
   · go_wp2
     go_ret
     obtain rfl:k=n:=by omega
     have h:=HT.out
     rw [List.take_of_length_le (by have:=HN.out;omega)] at h
     exact ⟨ret_bool h.symm,rfl⟩
set_option maxHeartbeats 400000 in
theorem impl_IsPicture (W H:Int) (ad:Option Addr) (n cap:Nat) (xs:List Int) (w:World) (hn:xs.length=n) (ha:Rd w ad xs) (hl:n≤9223372036854775807):
   Calls Tryz.prog 24 #[.agg #[.int .i64 W, .int .i64 H, .slice ad n cap]] w fun e w'=>e= .returned (.bool (picOk W H xs 255))∧Below w.heap.size w w':=by
 have HN:=Lib.hid hn
 have HA:=Lib.hid ha
 clear hn ha
 by_cases hs:sizeOk W H=true
 case neg=>
   have hs2:sizeOk W H=false:=by simpa using hs
   rw [picOk_no1 hs2]
   clear hs
   go_enter Tryz.func24,Tryz.ntmps24
   go_wp2_with (go_at_call 19;refine (impl_isSize _ _ _).mono ?_;rintro e w' ⟨rfl,rfl⟩)
   go_ret
   exact ⟨rfl,Joins.below_alloc1 _ _⟩
 case pos=>
   obtain ⟨b1,b2,b3,b4,b5,b6⟩:=sizeOk_bd hs
   by_cases hq:(n:Int)=W*H
   case neg=>
     rw [picOk_no2 HN.out hq]
     have hq2:((n:Int)==W*H)=false:=by simpa using hq
     clear hq
     go_enter Tryz.func24,Tryz.ntmps24
     go_wp2_with (go_at_call 19;refine (impl_isSize _ _ _).mono ?_;rintro e w' ⟨rfl,rfl⟩)
     go_ret
     exact ⟨rfl,Joins.below_alloc1 _ _⟩
   case pos=>
     rw [picOk_in HN.out hs hq]
     have hq2:((n:Int)==W*H)=true:=by simpa using hq
     clear hq
     go_enter Tryz.func24,Tryz.ntmps24
     go_wp2_with (go_at_call 19;refine (impl_isSize _ _ _).mono ?_;rintro e w' ⟨rfl,rfl⟩)
     refine (impl_allWithin _ _ _ xs _ _ HN.out (HA.out.below (Joins.below_alloc1 _ _)) hl).mono ?_
     rintro e w' ⟨rfl,rfl⟩
     go_wp2_with fail
     go_ret
     exact ⟨rfl,Joins.below_alloc1 _ _⟩
set_option maxHeartbeats 400000 in
theorem impl_partFits (s l side:Int) (w:World) (h1:1≤side) (h2:side≤64) (h3:l≤9223372036854775807):
   Calls Tryz.prog 120 #[.int .i64 s, .int .i64 l, .int .i64 side] w fun e w'=>e= .returned (.bool (decide (1≤l∧0≤s∧s≤side - l)))∧w=w':=by
 by_cases c:1≤l
 · go_enter Tryz.func120,Tryz.ntmps120
   go_wp2
   all_goals (go_ret;exact ⟨ret_bool (by first | (simp [*];done) | (simp [*];omega) | (simp;intros;omega)),rfl⟩)
 · go_enter Tryz.func120,Tryz.ntmps120
   go_wp2
   all_goals (go_ret;exact ⟨ret_bool (by first | (simp [*];done) | (simp [*];omega) | (simp;intros;omega)),rfl⟩)
theorem impl_partFits_yes (s l side:Int) (w:World) (h1:1≤side) (h2:side≤64) (h3:1≤l) (h4:0≤s) (h5:s≤side - l):
   Calls Tryz.prog 120 #[.int .i64 s, .int .i64 l, .int .i64 side] w fun e w'=>e= .returned (.bool true)∧w=w':=
 (impl_partFits s l side w h1 h2 (by omega)).mono fun e w' ⟨he,hw⟩=>⟨by rw [he];exact ret_bool (by simp [h3,h4,h5]),hw⟩
theorem impl_partFits_no (s l side:Int) (w:World) (h1:1≤side) (h2:side≤64) (h3:l≤9223372036854775807) (h4: ¬(1≤l∧0≤s∧s≤side - l)):
   Calls Tryz.prog 120 #[.int .i64 s, .int .i64 l, .int .i64 side] w fun e w'=>e= .returned (.bool false)∧w=w':=
 (impl_partFits s l side w h1 h2 h3).mono fun e w' ⟨he,hw⟩=>⟨by rw [he];exact ret_bool (by simpa using h4),hw⟩
theorem toNat_mul {W H:Int} (h:sizeOk W H=true):((W*H).toNat:Int)=W*H∧(W*H).toNat≤1024∧1≤(W*H).toNat:=by
 obtain ⟨_,_,_,_,b5,b6⟩:=sizeOk_bd h
 omega
set_option maxHeartbeats 400000 in
theorem impl_blank (W H:Int) (n:Nat) (w:World) (hs:sizeOk W H=true) (hn:(n:Int)=W*H):
   Calls Tryz.prog 20 #[.int .i64 W, .int .i64 H] w fun e w'=> ∃g,e= .returned (.agg #[.int .i64 W, .int .i64 H, .slice (some ⟨g,0,none⟩) n n])∧w.heap.size≤g∧Own w' g n n (List.replicate n 0)∧Below w.heap.size w w':=by
 obtain ⟨b1,b2,b3,b4,b5,b6⟩:=sizeOk_bd hs
 have HN:=Lib.hid hn
 have hn2:n≤1024:=by omega
 clear hn
 go_enter Tryz.func20,Tryz.ntmps20
 go_wp2_with (at_make;refine wp_make _ rfl _ _ rfl .i64 .i64 (W*H) (W*H) n rfl rfl HN.out.symm HN.out.symm (by omega) ?_;intro M hM)
 have HM:=Lib.hid hM
 clear hM
 refine bodyPost_ret (v:= .agg #[.int .i64 W, .int .i64 H, .slice (some ⟨w.heap.size+1,0,none⟩) n n]) (by simp [results,Tryz.results20,go_sem]) rfl ⟨w.heap.size+1,rfl,by omega,?_,?_⟩
 · exact HM.out.own' _ (by simp)
 · exact Joins.below_alloc2 _ _ _
theorem flatF_no {W H v:Int} (h: ¬(sizeOk W H=true∧0≤v∧v≤255)):flatF W H v=(noPic,false):=by unfold flatF;rw [if_neg h]
theorem flatF_yes {W H v:Int} {n:Nat} (h:sizeOk W H=true) (h2:0≤v) (h3:v≤255) (hn:(n:Int)=W*H):flatF W H v=(⟨W,H,List.replicate n v⟩,true):=by
 unfold flatF;rw [if_pos ⟨h,h2,h3⟩,←hn];simp
set_option maxHeartbeats 400000 in
theorem impl_FlatPicture (W H v:Int) (w:World):Calls Tryz.prog 51 #[.int .i64 W, .int .i64 H, .int .i64 v] w (PicOut2 w (flatF W H v)):=by
 by_cases hc:sizeOk W H=true∧0≤v∧v≤255
 case neg=>
   rw [flatF_no hc]
   by_cases hs:sizeOk W H=true
   · go_enter Tryz.func51,Tryz.ntmps51
     go_wp2_with (go_at_call 19;refine (impl_isSize _ _ _).mono ?_;rintro e w' ⟨rfl,rfl⟩)
     all_goals first | (exfalso;exact hc ⟨hs,by omega,by omega⟩) | skip
     all_goals (
       skip
       exact bodyPost_ret (v:= .tuple #[.agg #[.int .i64 0, .int .i64 0, .slice none 0 0], .bool false]) (by simp [results,Tryz.results51,go_sem]) rfl ⟨none,0,0,rfl,OwnA.none _ _,by omega,Joins.below_alloc1 _ _⟩
       )
   · have hs2:sizeOk W H=false:=by simpa using hs
     clear hs hc
     go_enter Tryz.func51,Tryz.ntmps51
     go_wp2_with (go_at_call 19;refine (impl_isSize _ _ _).mono ?_;rintro e w' ⟨rfl,rfl⟩)
     exact bodyPost_ret (v:= .tuple #[.agg #[.int .i64 0, .int .i64 0, .slice none 0 0], .bool false]) (by simp [results,Tryz.results51,go_sem]) rfl ⟨none,0,0,rfl,OwnA.none _ _,by omega,Joins.below_alloc1 _ _⟩
 case pos=>
   obtain ⟨hs,v1,v2⟩:=hc
   obtain ⟨n,hq⟩: ∃n:Nat,(n:Int)=W*H:=⟨_,(toNat_mul hs).1⟩
   obtain ⟨b1,b2,b3,b4,b5,b6⟩:=sizeOk_bd hs
   have hn1:1≤n:=by omega
   have hn2:n≤1024:=by omega
   rw [flatF_yes hs v1 v2 hq]
   have HQ:=Lib.hid hq
   clear hq
   go_enter Tryz.func51,Tryz.ntmps51
   go_wp2_with (go_at_call 19;refine (impl_isSize _ _ _).mono ?_;rintro e w' ⟨rfl,rfl⟩)
   refine (impl_blank W H n _ hs HQ.out).mono ?_
   rintro e w2 ⟨g,rfl,hg,ho,hb⟩
   have HB2:=Lib.hid ((Joins.below_alloc1 _ _).trans (hb.mono (by simp)))
   have KR2:=Lib.hid ((Blk.new w 27 #[.int .i64 0, .int .i64 0, .slice none 0 0]).below' hb)
   have HO:=Lib.hid ho
   have HG:Hid (w.heap.size+1≤g):=Lib.hid (by simpa using hg)
   clear hb ho hg
   go_wp2_with fail
   go_loopw [29] (fun i wr=> ∃k:Nat,k≤n∧i= .int .i64 k∧Own wr g n n (filled (List.replicate n v) (List.replicate n 0) k)∧(w2.alloc (.cells #[.int .i64 W, .int .i64 H, .slice (some ⟨g,0,none⟩) n n] 27)).grownBy wr (some g)) (fun i _=>n - (intOf i).toNat)
   case atStart=>exact ⟨0,Nat.zero_le _,rfl,by rw [filled_zero];exact HO.out.alloc _,grown_refl _ _⟩
   case round=>
     obtain ⟨k,hk,rfl,ho,hg⟩:=hrel
     have HBr:=Lib.hid ((HB2.out.alloc HB2.out.size _).grown hg (by have:=HB2.out.size;simp;omega) (by intro k hk;cases hk;have:=HG.out;omega))
     have KO:=Lib.hid ((Blk.new w2 27 #[.int .i64 W, .int .i64 H, .slice (some ⟨g,0,none⟩) n n]).grown hg (by have:=HO.out.lt;simp;omega))
     obtain ⟨l0,o0,o1,o2⟩:=KO.out.c3
     by_cases hlt:k<n
     · have g2:wr.cell? ⟨g,k,none⟩=some (.int .i64 ((filled (List.replicate n v) (List.replicate n 0) k).getD k 0)):=ho.cell hlt
       have g3:wr.frozen? ⟨g,k,none⟩=false:=ho.frozen k
       have hs:=ho.set k (v)
       rw [filled_succ (List.replicate n v) _ k _ (by simp;omega) (by simp;omega) (by simp [List.getD,hlt])] at hs
       have HSt:=Lib.hid hs
       clear hs ho
       go_wp2_with fail
       go_roundw
       case rel=>exact ⟨k+1,by omega,by go_num,by simpa using HSt.out,grown_set hg _⟩
       case measure=>simp [intOf];omega
     · obtain rfl:n=k:=by omega
       have KR:=Lib.hid ((KR2.out.alloc _).grown hg (by have:=HG.out;have:=KR2.out.lt;simp;omega))
       obtain ⟨r0,r1,r2,r3⟩:=KR.out.c3
       obtain ⟨q0,q1,q2⟩:=KR.out.f3
       rw [filled_at (List.replicate n v) _ n (by simp) (by simp)] at ho
       have HO3:=Lib.hid ho
       clear ho
       go_wp2_with fail
       exact bodyPost_ret (v:= .tuple #[.agg #[.int .i64 W, .int .i64 H, .slice (some ⟨g,0,none⟩) n n], .bool true]) (by simp [results,Tryz.results51,go_sem,r1,r2,r3]) rfl
         ⟨_,_,_,rfl,OwnA.mk (((HO3.out.other (by have:=HG.out;simp;omega) _).other (by have:=HG.out;simp;omega) _).other (by have:=HG.out;simp;omega) _) (by have:=HG.out;omega),by omega,
           ((HBr.out.setCell (by first | (simp;done) | (simp;omega)) _).setCell (by first | (simp;done) | (simp;omega)) _).setCell (by first | (simp;done) | (simp;omega)) _⟩
theorem impl_isSize_yes (W H:Int) (w:World) (h:sizeOk W H=true):
   Calls Tryz.prog 19 #[.int .i64 W, .int .i64 H] w fun e w'=>e= .returned (.bool true)∧w=w':=
 (impl_isSize W H w).mono fun e w' ⟨he,hw⟩=>⟨by rw [he,h],hw⟩
theorem impl_isSize_no (W H:Int) (w:World) (h: ¬sizeOk W H=true):
   Calls Tryz.prog 19 #[.int .i64 W, .int .i64 H] w fun e w'=>e= .returned (.bool false)∧w=w':=
 (impl_isSize W H w).mono fun e w' ⟨he,hw⟩=>⟨by rw [he];exact ret_bool (by simpa using h),hw⟩
theorem rampF_no {W H:Int} (h: ¬sizeOk W H=true):rampF W H=(noPic,false):=by unfold rampF;rw [if_neg h]
def rampG (W:Int) (i:Nat):Int:=if 1<W then (i:Int) % W*255/(W - 1) else 0
theorem rampF_yes {W H:Int} {n:Nat} (h:sizeOk W H=true) (hn:(n:Int)=W*H):rampF W H=(⟨W,H,gen n (rampG W)⟩,true):=by
 unfold rampF;rw [if_pos h,←hn];simp;rfl
theorem ramp1 {W:Int} {k:Nat} (h:1<W):(k:Int) % W*255/(W - 1)=rampG W k:=by unfold rampG;rw [if_pos h]
theorem ramp0 {W:Int} {k:Nat} (h: ¬1<W):rampG W k=0:=by unfold rampG;rw [if_neg h]
set_option maxHeartbeats 400000 in
theorem impl_RampPicture (W H:Int) (w:World):Calls Tryz.prog 7 #[.int .i64 W, .int .i64 H] w (PicOut2 w (rampF W H)):=by
 by_cases hs:sizeOk W H=true
 case neg=>
   rw [rampF_no hs]
   go_enter Tryz.func7,Tryz.ntmps7
   go_wp2_with (go_at_call 19;refine (impl_isSize_no _ _ _ hs).mono ?_;rintro e w' ⟨rfl,rfl⟩)
   exact bodyPost_ret (v:= .tuple #[.agg #[.int .i64 0, .int .i64 0, .slice none 0 0], .bool false]) (by simp [results,Tryz.results7,go_sem]) rfl ⟨none,0,0,rfl,OwnA.none _ _,by omega,Joins.below_alloc1 _ _⟩
 case pos=>
   obtain ⟨n,hq⟩: ∃n:Nat,(n:Int)=W*H:=⟨_,(toNat_mul hs).1⟩
   obtain ⟨b1,b2,b3,b4,b5,b6⟩:=sizeOk_bd hs
   have hn1:1≤n:=by omega
   have hn2:n≤1024:=by omega
   rw [rampF_yes hs hq]
   have HQ:=Lib.hid hq
   clear hq
   by_cases hW:1<W
   · go_enter Tryz.func7,Tryz.ntmps7
     go_wp2_with (go_at_call 19;refine (impl_isSize_yes _ _ _ hs).mono ?_;rintro e w' ⟨rfl,rfl⟩)
     refine (impl_blank W H n _ hs HQ.out).mono ?_
     rintro e w2 ⟨g,rfl,hg,ho,hb⟩
     have HB2:=Lib.hid ((Joins.below_alloc1 _ _).trans (hb.mono (by simp)))
     have KR2:=Lib.hid ((Blk.new w 27 #[.int .i64 0, .int .i64 0, .slice none 0 0]).below' hb)
     have HO:=Lib.hid ho
     have HG:Hid (w.heap.size+1≤g):=Lib.hid (by simpa using hg)
     clear hb ho hg
     go_wp2_with fail
     go_loopw [23] (fun i wr=> ∃k:Nat,k≤n∧i= .int .i64 k∧Own wr g n n (filled (gen n (rampG W)) (List.replicate n 0) k)∧(w2.alloc (.cells #[.int .i64 W, .int .i64 H, .slice (some ⟨g,0,none⟩) n n] 27)).grownBy wr (some g)) (fun i _=>n - (intOf i).toNat)
     case atStart=>exact ⟨0,Nat.zero_le _,rfl,by rw [filled_zero];exact HO.out.alloc _,grown_refl _ _⟩
     case round=>
       obtain ⟨k,hk,rfl,ho,hg⟩:=hrel
       have HBr:=Lib.hid ((HB2.out.alloc HB2.out.size _).grown hg (by have:=HB2.out.size;simp;omega) (by intro k hk;cases hk;have:=HG.out;omega))
       have KO:=Lib.hid ((Blk.new w2 27 #[.int .i64 W, .int .i64 H, .slice (some ⟨g,0,none⟩) n n]).grown hg (by have:=HO.out.lt;simp;omega))
       obtain ⟨l0,o0,o1,o2⟩:=KO.out.c3
       by_cases hlt:k<n
       · have e1:0≤(k:Int) % W:=Int.emod_nonneg _ (by omega)
         have e2:(k:Int) % W<W:=Int.emod_lt_of_pos _ (by omega)
         have g2:wr.cell? ⟨g,k,none⟩=some (.int .i64 ((filled (gen n (rampG W)) (List.replicate n 0) k).getD k 0)):=ho.cell hlt
         have g3:wr.frozen? ⟨g,k,none⟩=false:=ho.frozen k
         have hs:=ho.set k ((k:Int) % W*255/(W - 1))
         rw [filled_succ (gen n (rampG W)) _ k _ (by rw [gen_len];exact hlt) (by simp;omega) (by rw [gen_get _ _ _ hlt,ramp1 hW])] at hs
         have HSt:=Lib.hid hs
         clear hs ho
         go_wp2_with fail
         go_region
         go_wp2_with fail
         go_roundw
         case rel=>exact ⟨k+1,by omega,by go_num,(by first | exact HSt.out.drewN 1 | exact HSt.out.drewN _ | (have h:=HSt.out;simp at h;exact h.drewN 1)),(by first | exact grown_drewN (grown_set hg _) 1 | exact grown_drewN (grown_set hg _) _)⟩
         case measure=>simp [intOf];omega
       · obtain rfl:n=k:=by omega
         have KR:=Lib.hid ((KR2.out.alloc _).grown hg (by have:=HG.out;have:=KR2.out.lt;simp;omega))
         obtain ⟨r0,r1,r2,r3⟩:=KR.out.c3
         obtain ⟨q0,q1,q2⟩:=KR.out.f3
         rw [filled_at (gen n (rampG W)) _ n (by rw [gen_len]) (by simp)] at ho
         have HO3:=Lib.hid ho
         clear ho
         go_wp2_with fail
         exact bodyPost_ret (v:= .tuple #[.agg #[.int .i64 W, .int .i64 H, .slice (some ⟨g,0,none⟩) n n], .bool true]) (by simp [results,Tryz.results7,go_sem,r1,r2,r3]) rfl
           ⟨_,_,_,rfl,OwnA.mk (((HO3.out.other (by have:=HG.out;simp;omega) _).other (by have:=HG.out;simp;omega) _).other (by have:=HG.out;simp;omega) _) (by have:=HG.out;omega),by omega,
             ((HBr.out.setCell (by first | (simp;done) | (simp;omega)) _).setCell (by first | (simp;done) | (simp;omega)) _).setCell (by first | (simp;done) | (simp;omega)) _⟩
   · obtain rfl:W=1:=by omega
     go_enter Tryz.func7,Tryz.ntmps7
     go_wp2_with (go_at_call 19;refine (impl_isSize_yes _ _ _ hs).mono ?_;rintro e w' ⟨rfl,rfl⟩)
     refine (impl_blank 1 H n _ hs HQ.out).mono ?_
     rintro e w2 ⟨g,rfl,hg,ho,hb⟩
     have HB2:=Lib.hid ((Joins.below_alloc1 _ _).trans (hb.mono (by simp)))
     have KR2:=Lib.hid ((Blk.new w 27 #[.int .i64 0, .int .i64 0, .slice none 0 0]).below' hb)
     have HO:=Lib.hid ho
     have HG:Hid (w.heap.size+1≤g):=Lib.hid (by simpa using hg)
     clear hb ho hg
     go_wp2_with fail
     go_loopw [23] (fun i wr=> ∃k:Nat,k≤n∧i= .int .i64 k∧Own wr g n n (filled (gen n (rampG 1)) (List.replicate n 0) k)∧(w2.alloc (.cells #[.int .i64 1, .int .i64 H, .slice (some ⟨g,0,none⟩) n n] 27)).grownBy wr (some g)) (fun i _=>n - (intOf i).toNat)
     case atStart=>exact ⟨0,Nat.zero_le _,rfl,by rw [filled_zero];exact HO.out.alloc _,grown_refl _ _⟩
     case round=>
       obtain ⟨k,hk,rfl,ho,hg⟩:=hrel
       have HBr:=Lib.hid ((HB2.out.alloc HB2.out.size _).grown hg (by have:=HB2.out.size;simp;omega) (by intro k hk;cases hk;have:=HG.out;omega))
       have KO:=Lib.hid ((Blk.new w2 27 #[.int .i64 1, .int .i64 H, .slice (some ⟨g,0,none⟩) n n]).grown hg (by have:=HO.out.lt;simp;omega))
       obtain ⟨l0,o0,o1,o2⟩:=KO.out.c3
       by_cases hlt:k<n
       · have e1:0≤(k:Int) % 1:=Int.emod_nonneg _ (by omega)
         have e2:(k:Int) % 1<1:=Int.emod_lt_of_pos _ (by omega)
         have g2:wr.cell? ⟨g,k,none⟩=some (.int .i64 ((filled (gen n (rampG 1)) (List.replicate n 0) k).getD k 0)):=ho.cell hlt
         have g3:wr.frozen? ⟨g,k,none⟩=false:=ho.frozen k
         have hs:=ho.set k (0)
         rw [filled_succ (gen n (rampG 1)) _ k _ (by rw [gen_len];exact hlt) (by simp;omega) (by rw [gen_get _ _ _ hlt,ramp0 (by omega)])] at hs
         have HSt:=Lib.hid hs
         clear hs ho
         go_wp2_with fail
         go_region
         go_wp2_with fail
         go_roundw
         case rel=>exact ⟨k+1,by omega,by go_num,(by first | exact HSt.out.drewN 1 | exact HSt.out.drewN _ | (have h:=HSt.out;simp at h;exact h.drewN 1)),(by first | exact grown_drewN (grown_set hg _) 1 | exact grown_drewN (grown_set hg _) _)⟩
         case measure=>simp [intOf];omega
       · obtain rfl:n=k:=by omega
         have KR:=Lib.hid ((KR2.out.alloc _).grown hg (by have:=HG.out;have:=KR2.out.lt;simp;omega))
         obtain ⟨r0,r1,r2,r3⟩:=KR.out.c3
         obtain ⟨q0,q1,q2⟩:=KR.out.f3
         rw [filled_at (gen n (rampG 1)) _ n (by rw [gen_len]) (by simp)] at ho
         have HO3:=Lib.hid ho
         clear ho
         go_wp2_with fail
         exact bodyPost_ret (v:= .tuple #[.agg #[.int .i64 1, .int .i64 H, .slice (some ⟨g,0,none⟩) n n], .bool true]) (by simp [results,Tryz.results7,go_sem,r1,r2,r3]) rfl
           ⟨_,_,_,rfl,OwnA.mk (((HO3.out.other (by have:=HG.out;simp;omega) _).other (by have:=HG.out;simp;omega) _).other (by have:=HG.out;simp;omega) _) (by have:=HG.out;omega),by omega,
             ((HBr.out.setCell (by first | (simp;done) | (simp;omega)) _).setCell (by first | (simp;done) | (simp;omega)) _).setCell (by first | (simp;done) | (simp;omega)) _⟩
set_option maxHeartbeats 400000 in
theorem impl_isMatrixSize (W H:Int) (w:World):
   Calls Tryz.prog 46 #[.int .i64 W, .int .i64 H] w fun e w'=>e= .returned (.bool (matSize W H))∧w=w':=by
 by_cases c:1≤W∧W≤256∧1≤H∧H≤256
 · obtain ⟨h1,h2,h3,h4⟩:=c
   rw [matSize_in h1 h2 h3 h4]
   obtain ⟨m1,m2⟩:=mul_bdM W H h1 h2 h3 h4
   go_enter Tryz.func46,Tryz.ntmps46
   go_wp2
   all_goals (go_ret;exact ⟨rfl,rfl⟩)
 · rw [matSize_out c]
   go_enter Tryz.func46,Tryz.ntmps46
   go_wp2
   all_goals (go_ret;first | exact ⟨rfl,rfl⟩ | (exfalso;exact c ⟨by omega,by omega,by omega,by omega⟩))
theorem impl_isMatrixSize_yes (W H:Int) (w:World) (h:matSize W H=true):
   Calls Tryz.prog 46 #[.int .i64 W, .int .i64 H] w fun e w'=>e= .returned (.bool true)∧w=w':=
 (impl_isMatrixSize W H w).mono fun e w' ⟨he,hw⟩=>⟨by rw [he,h],hw⟩
theorem impl_isMatrixSize_no (W H:Int) (w:World) (h: ¬matSize W H=true):
   Calls Tryz.prog 46 #[.int .i64 W, .int .i64 H] w fun e w'=>e= .returned (.bool false)∧w=w':=
 (impl_isMatrixSize W H w).mono fun e w' ⟨he,hw⟩=>⟨by rw [he];exact ret_bool (by simpa using h),hw⟩
theorem tmod_neg {a n:Int} (h:a<0) (hn:1≤n):-n<a.tmod n∧a.tmod n≤0∧(a.tmod n<0→a.tmod n+n=a % n)∧(¬a.tmod n<0→a.tmod n=a % n):=by
 obtain ⟨b,rfl⟩: ∃b:Int,a=-b:=⟨-a,by omega⟩
 have e0:(-b).tmod n=-(b % n):=by rw [Int.neg_tmod,Int.tmod_eq_emod_of_nonneg (by omega)]
 have e1:0≤b % n:=Int.emod_nonneg _ (by omega)
 have e2:b % n<n:=Int.emod_lt_of_pos _ (by omega)
 rw [e0]
 refine ⟨by omega,by omega,fun h1=>?_,fun h1=>?_⟩
 · have e3:-b=(n - b % n)+n*(-(b/n) - 1):=by
     have:=Int.mul_ediv_add_emod b n
     rw [Int.mul_sub,Int.mul_neg]
     omega
   have e4:(-b) % n=n - b % n:=by
     rw [e3,Int.add_mul_emod_self_left,Int.emod_eq_of_lt (by omega) (by omega)]
   rw [e4];omega
 · have e5:b % n=0:=by omega
   have e6:(-b) % n=0:=Int.emod_eq_zero_of_dvd (Int.dvd_neg.2 (Int.dvd_of_emod_eq_zero e5))
   omega
set_option maxHeartbeats 400000 in
theorem impl_remainder (a n:Int) (w:World) (h:1≤n) (h2:n≤9223372036854775807):
   Calls Tryz.prog 68 #[.int .i64 a, .int .i64 n] w fun e w'=>e= .returned (.int .i64 (a % n))∧w=w':=by
 by_cases ha:0≤a
 · have e1:0≤a % n:=Int.emod_nonneg _ (by omega)
   have e2:a % n<n:=Int.emod_lt_of_pos _ (by omega)
   go_enter Tryz.func68,Tryz.ntmps68
   go_wp2
   go_ret
   exact ⟨rfl,rfl⟩
 · obtain ⟨t1,t2,t3,t4⟩:=tmod_neg (a:=a) (n:=n) (by omega) h
   have H3:=Lib.hid t3
   have H4:=Lib.hid t4
   clear t3 t4
   by_cases hr:a.tmod n<0
   · go_enter Tryz.func68,Tryz.ntmps68
     go_wp2
     go_ret
     exact ⟨ret_int (H3.out hr),rfl⟩
   · go_enter Tryz.func68,Tryz.ntmps68
     go_wp2
     go_ret
     exact ⟨ret_int (H4.out hr),rfl⟩
set_option maxHeartbeats 400000 in
theorem impl_blankM (W H:Int) (n:Nat) (w:World) (hs:matSize W H=true) (hn:(n:Int)=W*H):
   Calls Tryz.prog 21 #[.int .i64 W, .int .i64 H] w fun e w'=> ∃g,e= .returned (.agg #[.int .i64 W, .int .i64 H, .slice (some ⟨g,0,none⟩) n n])∧w.heap.size≤g∧Own w' g n n (List.replicate n 0)∧Below w.heap.size w w':=by
 obtain ⟨b1,b2,b3,b4,b5,b6⟩:=matSize_bd hs
 have HN:=Lib.hid hn
 have hn2:n≤256:=by omega
 clear hn
 go_enter Tryz.func21,Tryz.ntmps21
 go_wp2_with (at_make;refine wp_make _ rfl _ _ rfl .i64 .i64 (W*H) (W*H) n rfl rfl HN.out.symm HN.out.symm (by omega) ?_;intro M hM)
 have HM:=Lib.hid hM
 clear hM
 refine bodyPost_ret (v:= .agg #[.int .i64 W, .int .i64 H, .slice (some ⟨w.heap.size+1,0,none⟩) n n]) (by simp [results,Tryz.results21,go_sem]) rfl ⟨w.heap.size+1,rfl,by omega,?_,?_⟩
 · exact HM.out.own' _ (by simp)
 · exact Joins.below_alloc2 _ _ _
set_option maxHeartbeats 400000 in
theorem impl_wrappedRank (W H:Int) (ad:Option Addr) (n cap:Nat) (xs:List Int) (x y:Int) (w:World) (hl:xs.length=n) (ha:Rd w ad xs) (hn:(n:Int)=W*H) (hW:1≤W) (hH:1≤H) (hm:n≤256) (hW2:W≤256) (hH2:H≤256):
   Calls Tryz.prog 44 #[.agg #[.int .i64 W, .int .i64 H, .slice ad n cap], .int .i64 x, .int .i64 y] w fun e w'=>e= .returned (.int .i64 (rankOf W H xs x y))∧Below w.heap.size w w':=by
 obtain ⟨i1,i2,i3,i4⟩:=rank_idx hn hW hH x y
 obtain ⟨x0,x1⟩:=mod_bd x hW
 obtain ⟨y0,y1⟩:=mod_bd y hH
 obtain ⟨ba,oa,hae,hal,hac⟩:=(ha.alloc (.cells #[.int .i64 W, .int .i64 H, .slice ad n cap] 31)).at (by omega)
 have hc:=hac (y % H*W+x % W).toNat (by omega)
 have hal2:ba<w.heap.size+1:=by simpa using hal
 subst hae
 have HN:=Lib.hid hn
 have HL:=Lib.hid hl
 clear hac ha hn hl hal
 go_enter Tryz.func44,Tryz.ntmps44
 go_wp2_with fail
 go_quiet ((refine Calls.quiet_of_same ((impl_remainder _ _ _ ?_ ?_).mono (fun e w' h=>⟨h.1,h.2.symm⟩)) <;>omega))
 go_wp2_with fail
 go_ret
 exact ⟨rfl,(Joins.below_alloc1 _ _).trans (Joins.below_draws _ _ _)⟩
end Go.Proofs.YtanccoopbgamdaaGreatDoor
