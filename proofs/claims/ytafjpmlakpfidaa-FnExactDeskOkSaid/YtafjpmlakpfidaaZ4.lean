/-
  The laws' own helpers over desks: sizes, copies, equality, marks.
-/
import Derived.Test.YtafjpmlakpfidaaZ1
import Derived.Test.YtafjpmlakpfidaaPic
import Derived.Test.YtafjpmlakpfidaaMat
import Derived.Test.YtafjpmlakpfidaaW12
import Derived.Test.YtafjpmlakpfidaaFrameP
namespace Go.Proofs.Ytafjpmlakpfidaa
open Go.RowKit
set_option linter.unusedVariables false
set_option linter.unusedSimpArgs false

set_option maxRecDepth 100000 in
set_option maxHeartbeats 800000 in
theorem szDesk_ok (D : Dsk) (L : Int) (w : World) (hr : RdD w D) (h1 : (D.P.n : Int) + D.M.n + D.n + (inkV D.ps : Int) ≤ L) (h2 : L ≤ 1048576) :
    Calls Try.prog 10 #[D.val, .int .i64 L] w fun e w' => e = .returned (.int .i64 (L - D.P.n - D.M.n - D.n - inkV D.ps)) ∧ Below w.heap.size w w' := by
  obtain ⟨r1, r2, r3, r4, r5, r6⟩ := hr
  obtain ⟨⟨W, H, pa, pn, pc, xs⟩, ⟨mW, mH, ma, mn, mc, ys⟩, a, n, c, ps⟩ := D
  dsimp only at *
  have R5 := Lib.hid r5
  have R6 := Lib.hid r6
  have KB := Lib.hid (Blk.new w 38 #[.int .i64 W, .int .i64 H, .slice pa pn pc, .int .i64 mW, .int .i64 mH, .slice ma mn mc, .slice a n c])
  have HB0 := Lib.hid (bAlloc (Below.refl w.heap.size w) (.cells #[.int .i64 W, .int .i64 H, .slice pa pn pc, .int .i64 mW, .int .i64 mH, .slice ma mn mc, .slice a n c] 38))
  clear r1 r2 r3 r4 r5 r6
  show Calls Try.prog 10 #[.agg #[.int .i64 W, .int .i64 H, .slice pa pn pc, .int .i64 mW, .int .i64 mH, .slice ma mn mc, .slice a n c], .int .i64 L] w _
  go_enter Try.func10, Try.ntmps10
  go_wp2_with fail
  refine (szPic_ok W H pa pn pc L _ (by omega) h2).mono ?_
  rintro e w1 ⟨rfl, hb⟩
  have HB1 := Lib.hid (bTrans HB0.out hb)
  have KB1 := Lib.hid (KB.out.below' hb)
  clear hb
  obtain ⟨l0, c0, c1, c2, c3, c4, c5, c6⟩ := KB1.out.c7
  go_wp2_with fail
  refine (szMat_ok mW mH ma mn mc _ _ (by omega) (by omega)).mono ?_
  rintro e w2 ⟨rfl, hb⟩
  have HB2 := Lib.hid (bTrans HB1.out hb)
  have KB2 := Lib.hid (KB1.out.below' hb)
  clear hb l0 c0 c1 c2 c3 c4 c5 c6
  obtain ⟨l0, c0, c1, c2, c3, c4, c5, c6⟩ := KB2.out.c7
  go_wp2_with fail
  refine (szPicS_ok a n c ps _ _ R5.out (by exact R6.out.below HB2.out) (by omega) (by omega)).mono ?_
  rintro e w3 ⟨rfl, hb⟩
  have HB3 := Lib.hid (bTrans HB2.out hb)
  go_wp2_with fail
  go_ret
  exact ⟨ret_int (by omega), HB3.out⟩

set_option maxRecDepth 100000 in
set_option maxHeartbeats 1600000 in
theorem szDesk_no (D : Dsk) (L : Int) (w : World) (hr : RdD w D) (h0 : 0 ≤ L) (h1 : L < (D.P.n : Int) + D.M.n + D.n + (inkV D.ps : Int)) (h2 : L ≤ 1048576) (h3 : D.P.n ≤ 9223372036854775807) (h4 : D.M.n ≤ 9223372036854775807) (h5 : D.n ≤ 9223372036854775807) (h6 : LenV D.ps 9223372036854775807) :
    Calls Try.prog 10 #[D.val, .int .i64 L] w fun e w' => e = .returned (.int .i64 (-1)) ∧ Below w.heap.size w w' := by
  obtain ⟨r1, r2, r3, r4, r5, r6⟩ := hr
  obtain ⟨⟨W, H, pa, pn, pc, xs⟩, ⟨mW, mH, ma, mn, mc, ys⟩, a, n, c, ps⟩ := D
  dsimp only at *
  have R5 := Lib.hid r5
  have R6 := Lib.hid r6
  have H6 := Lib.hid h6
  have KB := Lib.hid (Blk.new w 38 #[.int .i64 W, .int .i64 H, .slice pa pn pc, .int .i64 mW, .int .i64 mH, .slice ma mn mc, .slice a n c])
  have HB0 := Lib.hid (bAlloc (Below.refl w.heap.size w) (.cells #[.int .i64 W, .int .i64 H, .slice pa pn pc, .int .i64 mW, .int .i64 mH, .slice ma mn mc, .slice a n c] 38))
  clear r1 r2 r3 r4 r5 r6 h6
  show Calls Try.prog 10 #[.agg #[.int .i64 W, .int .i64 H, .slice pa pn pc, .int .i64 mW, .int .i64 mH, .slice ma mn mc, .slice a n c], .int .i64 L] w _
  go_enter Try.func10, Try.ntmps10
  go_wp2_with fail
  by_cases q1 : (pn : Int) ≤ L
  case neg =>
    refine (szPic_no W H pa pn pc L _ (by omega) h0 h2 h3).mono ?_
    rintro e w1 ⟨rfl, hb⟩
    have HB1 := Lib.hid (bTrans HB0.out hb)
    go_wp2_with fail
    go_ret
    exact ⟨rfl, HB1.out⟩
  refine (szPic_ok W H pa pn pc L _ q1 h2).mono ?_
  rintro e w1 ⟨rfl, hb⟩
  have HB1 := Lib.hid (bTrans HB0.out hb)
  have KB1 := Lib.hid (KB.out.below' hb)
  clear hb
  obtain ⟨l0, c0, c1, c2, c3, c4, c5, c6⟩ := KB1.out.c7
  go_wp2_with fail
  by_cases q2 : (mn : Int) ≤ L - pn
  case neg =>
    refine (szMat_no mW mH ma mn mc _ _ (by omega) (by omega) (by omega) h4).mono ?_
    rintro e w2 ⟨rfl, hb⟩
    have HB2 := Lib.hid (bTrans HB1.out hb)
    go_wp2_with fail
    go_ret
    exact ⟨rfl, HB2.out⟩
  refine (szMat_ok mW mH ma mn mc _ _ q2 (by omega)).mono ?_
  rintro e w2 ⟨rfl, hb⟩
  have HB2 := Lib.hid (bTrans HB1.out hb)
  have KB2 := Lib.hid (KB1.out.below' hb)
  clear hb l0 c0 c1 c2 c3 c4 c5 c6
  obtain ⟨l0, c0, c1, c2, c3, c4, c5, c6⟩ := KB2.out.c7
  go_wp2_with fail
  refine (szPicS_no a n c ps _ _ R5.out (by exact R6.out.below HB2.out) (by omega) (by omega) (by omega) h5 H6.out).mono ?_
  rintro e w3 ⟨rfl, hb⟩
  have HB3 := Lib.hid (bTrans HB2.out hb)
  go_wp2_with fail
  go_ret
  exact ⟨rfl, HB3.out⟩

set_option maxRecDepth 100000 in
set_option maxHeartbeats 800000 in
theorem eqDesk_yes (D E : Dsk) (w : World) (hd : RdD w D) (he : RdD w E) (sd : SmallD D) (se : SmallD E) (h : D.dat = E.dat) :
    Calls Try.prog 7 #[D.val, E.val] w fun e w' => e = .returned (.bool true) ∧ Below w.heap.size w w' := by
  have h1 : D.P.pic = E.P.pic := congrArg (fun x => x.1) h
  have h2 : D.M.pic = E.M.pic := congrArg (fun x => x.2.1) h
  have h3 : picsV D.ps = picsV E.ps := congrArg (fun x => x.2.2) h
  have HD := Lib.hid hd
  have HE := Lib.hid he
  have SD := Lib.hid sd
  have SE := Lib.hid se
  have H3 := Lib.hid h3
  obtain ⟨⟨W, H, pa, pn, pc, xs⟩, ⟨mW, mH, ma, mn, mc, ys⟩, a, n, c, ps⟩ := D
  obtain ⟨⟨W', H', pa', pn', pc', xs'⟩, ⟨mW', mH', ma', mn', mc', ys'⟩, a', n', c', ps'⟩ := E
  simp only [PV.pic, Pic.mk.injEq] at h1 h2
  obtain ⟨rfl, rfl, rfl⟩ := h1
  obtain ⟨rfl, rfl, rfl⟩ := h2
  have KA := Lib.hid ((Blk.new w 29 #[.int .i64 W, .int .i64 H, .slice pa pn pc, .int .i64 mW, .int .i64 mH, .slice ma mn mc, .slice a n c]).alloc (.cells #[.int .i64 W, .int .i64 H, .slice pa' pn' pc', .int .i64 mW, .int .i64 mH, .slice ma' mn' mc', .slice a' n' c'] 29))
  have KB := Lib.hid (Blk.new' (g := w.heap.size + 1) (w := w.alloc (.cells #[.int .i64 W, .int .i64 H, .slice pa pn pc, .int .i64 mW, .int .i64 mH, .slice ma mn mc, .slice a n c] 29)) 29 #[.int .i64 W, .int .i64 H, .slice pa' pn' pc', .int .i64 mW, .int .i64 mH, .slice ma' mn' mc', .slice a' n' c'] (by simp))
  have HB0 := Lib.hid (bAlloc (bAlloc (Below.refl w.heap.size w) (.cells #[.int .i64 W, .int .i64 H, .slice pa pn pc, .int .i64 mW, .int .i64 mH, .slice ma mn mc, .slice a n c] 29)) (.cells #[.int .i64 W, .int .i64 H, .slice pa' pn' pc', .int .i64 mW, .int .i64 mH, .slice ma' mn' mc', .slice a' n' c'] 29))
  clear hd he h h3 sd se
  show Calls Try.prog 7 #[.agg #[.int .i64 W, .int .i64 H, .slice pa pn pc, .int .i64 mW, .int .i64 mH, .slice ma mn mc, .slice a n c], .agg #[.int .i64 W, .int .i64 H, .slice pa' pn' pc', .int .i64 mW, .int .i64 mH, .slice ma' mn' mc', .slice a' n' c']] w _
  go_enter Try.func7, Try.ntmps7
  go_wp2_with fail
  refine (eqPic W H W H pa pa' pn pn' pc pc' xs xs _ HD.out.pl HE.out.pl (by exact HD.out.pr.below HB0.out) (by exact HE.out.pr.below HB0.out) (by have := SD.out.p; dsimp only at this; omega) (by have := SE.out.p; dsimp only at this; omega)).mono ?_
  rw [decide_eq_true (⟨rfl, rfl, rfl⟩ : W = W ∧ H = H ∧ xs = xs)]
  rintro e w1 ⟨rfl, hb⟩
  have HB1 := Lib.hid (bTrans HB0.out hb)
  have KA1 := Lib.hid (KA.out.below' hb)
  have KB1 := Lib.hid (KB.out.below' hb)
  clear hb KA KB
  obtain ⟨l0, c0, c1, c2, c3, c4, c5, c6⟩ := KA1.out.c7
  obtain ⟨m0, d0, d1, d2, d3, d4, d5, d6⟩ := KB1.out.c7
  go_wp2_with fail
  refine (eqMat mW mH mW mH ma ma' mn mn' mc mc' ys ys _ HD.out.ml HE.out.ml (by exact HD.out.mr.below HB1.out) (by exact HE.out.mr.below HB1.out) (by have := SD.out.m; dsimp only at this; omega) (by have := SE.out.m; dsimp only at this; omega)).mono ?_
  rw [decide_eq_true (⟨rfl, rfl, rfl⟩ : mW = mW ∧ mH = mH ∧ ys = ys)]
  rintro e w2 ⟨rfl, hb⟩
  have HB2 := Lib.hid (bTrans HB1.out hb)
  have KA2 := Lib.hid (KA1.out.below' hb)
  have KB2 := Lib.hid (KB1.out.below' hb)
  clear hb l0 c0 c1 c2 c3 c4 c5 c6 m0 d0 d1 d2 d3 d4 d5 d6 KA1 KB1
  obtain ⟨l0, c0, c1, c2, c3, c4, c5, c6⟩ := KA2.out.c7
  obtain ⟨m0, d0, d1, d2, d3, d4, d5, d6⟩ := KB2.out.c7
  go_wp2_with fail
  refine (eqPicS a a' n n' c c' ps ps' _ HD.out.sl HE.out.sl (by exact HD.out.sr.below HB2.out) (by exact HE.out.sr.below HB2.out) SD.out.n SE.out.n SD.out.s SE.out.s).mono ?_
  rw [decide_eq_true H3.out]
  rintro e w3 ⟨rfl, hb⟩
  have HB3 := Lib.hid (bTrans HB2.out hb)
  go_wp2_with fail
  go_ret
  exact ⟨rfl, HB3.out⟩

end Go.Proofs.Ytafjpmlakpfidaa
