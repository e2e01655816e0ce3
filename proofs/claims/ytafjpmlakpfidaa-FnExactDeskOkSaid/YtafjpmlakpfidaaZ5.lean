/-
  The laws' own helpers over desks: copies.
-/
import Derived.Test.YtafjpmlakpfidaaZ4
import Derived.Test.YtafjpmlakpfidaaT5
import Derived.Test.YtafjpmlakpfidaaW11
namespace Go.Proofs.Ytafjpmlakpfidaa
open Go.RowKit
set_option linter.unusedVariables false
set_option linter.unusedSimpArgs false

/-- A copy of a desk, of the call's own. -/
def DeskCopy (w : World) (D : Dsk) (e : Ending) (w' : World) : Prop :=
  ∃ E : Dsk, e = .returned E.val ∧ OwnD w' w.heap.size E ∧ E.dat = D.dat ∧ E.P.n = D.P.n ∧ E.M.n = D.M.n ∧ E.n = D.n ∧ inkV E.ps = inkV D.ps ∧ SmallD E ∧ Below w.heap.size w w'

set_option maxRecDepth 100000 in
set_option maxHeartbeats 1600000 in
theorem toDesk (D : Dsk) (w : World) (hr : RdD w D) (hs : SmallD D) : Calls Try.prog 12 #[D.val] w (DeskCopy w D) := by
  obtain ⟨r1, r2, r3, r4, r5, r6⟩ := hr
  obtain ⟨s1, s2, s3, s4⟩ := hs
  obtain ⟨⟨W, H, pa, pn, pc, xs⟩, ⟨mW, mH, ma, mn, mc, ys⟩, a, n, c, ps⟩ := D
  dsimp only at *
  have R1 := Lib.hid r1
  have R2 := Lib.hid r2
  have R3 := Lib.hid r3
  have R4 := Lib.hid r4
  have R5 := Lib.hid r5
  have R6 := Lib.hid r6
  have S4 := Lib.hid s4
  have KA := Lib.hid (((Blk.new w 38 #[.int .i64 W, .int .i64 H, .slice pa pn pc, .int .i64 mW, .int .i64 mH, .slice ma mn mc, .slice a n c]).alloc (.cells #[.int .i64 0, .int .i64 0, .slice none 0 0, .int .i64 0, .int .i64 0, .slice none 0 0, .slice none 0 0] 29)).alloc (.cells #[.int .i64 0, .int .i64 0, .slice none 0 0, .int .i64 0, .int .i64 0, .slice none 0 0, .slice none 0 0] 29))
  have KR := Lib.hid ((Blk.new' (g := w.heap.size + 1) (w := w.alloc (.cells #[.int .i64 W, .int .i64 H, .slice pa pn pc, .int .i64 mW, .int .i64 mH, .slice ma mn mc, .slice a n c] 38)) 29 #[.int .i64 0, .int .i64 0, .slice none 0 0, .int .i64 0, .int .i64 0, .slice none 0 0, .slice none 0 0] (by simp)).alloc (.cells #[.int .i64 0, .int .i64 0, .slice none 0 0, .int .i64 0, .int .i64 0, .slice none 0 0, .slice none 0 0] 29))
  have KT := Lib.hid (Blk.new' (g := w.heap.size + 2) (w := (w.alloc (.cells #[.int .i64 W, .int .i64 H, .slice pa pn pc, .int .i64 mW, .int .i64 mH, .slice ma mn mc, .slice a n c] 38)).alloc (.cells #[.int .i64 0, .int .i64 0, .slice none 0 0, .int .i64 0, .int .i64 0, .slice none 0 0, .slice none 0 0] 29)) 29 #[.int .i64 0, .int .i64 0, .slice none 0 0, .int .i64 0, .int .i64 0, .slice none 0 0, .slice none 0 0] (by simp))
  have HB0 := Lib.hid (bAlloc (bAlloc (bAlloc (Below.refl w.heap.size w) (.cells #[.int .i64 W, .int .i64 H, .slice pa pn pc, .int .i64 mW, .int .i64 mH, .slice ma mn mc, .slice a n c] 38)) (.cells #[.int .i64 0, .int .i64 0, .slice none 0 0, .int .i64 0, .int .i64 0, .slice none 0 0, .slice none 0 0] 29)) (.cells #[.int .i64 0, .int .i64 0, .slice none 0 0, .int .i64 0, .int .i64 0, .slice none 0 0, .slice none 0 0] 29))
  clear r1 r2 r3 r4 r5 r6 s4
  show Calls Try.prog 12 #[.agg #[.int .i64 W, .int .i64 H, .slice pa pn pc, .int .i64 mW, .int .i64 mH, .slice ma mn mc, .slice a n c]] w _
  go_enter Try.func12, Try.ntmps12
  go_wp2_with fail
  refine (toPic W H pa pn pc xs _ R1.out (by exact R2.out.below HB0.out) (by omega)).mono ?_
  rintro e w1 ⟨g1, rfl, hg, ho, hb⟩
  have HG1 : Hid (w.heap.size + 3 ≤ g1) := Lib.hid (by simpa using hg)
  have HB1 := Lib.hid (bTrans HB0.out hb)
  have KA1 := Lib.hid (KA.out.below' hb)
  have KR1 := Lib.hid (KR.out.below' hb)
  have KT1 := Lib.hid (KT.out.below' hb)
  have HO1 := Lib.hid ho
  clear hb ho hg KA KR KT
  obtain ⟨m0, d0, d1, d2, d3, d4, d5, d6⟩ := KT1.out.c7
  obtain ⟨f0, f1, f2, f3, f4, f5, f6⟩ := KT1.out.f7
  obtain ⟨l0, c0, c1, c2, c3, c4, c5, c6⟩ := KA1.out.c7
  go_wp2_with fail
  obtain ⟨v1, hv1⟩ : ∃ x, x = (((w1.setCell ⟨w.heap.size + 1 + 1, 0, none⟩ (.int .i64 W)).setCell ⟨w.heap.size + 1 + 1, 1, none⟩ (.int .i64 H)).setCell ⟨w.heap.size + 1 + 1, 2, none⟩ (.slice (some ⟨g1, 0, none⟩) pn pn)) := ⟨_, rfl⟩
  have HV1 : Hid (Below w.heap.size w v1) := Lib.hid (by rw [hv1]; exact ((HB1.out.setCell (by simp; omega) _).setCell (by simp; omega) _).setCell (by simp; omega) _)
  have KA1' : Hid (Blk v1 w.heap.size 38 #[.int .i64 W, .int .i64 H, .slice pa pn pc, .int .i64 mW, .int .i64 mH, .slice ma mn mc, .slice a n c]) := Lib.hid (by rw [hv1]; exact ((KA1.out.other (by simp; omega) _).other (by simp; omega) _).other (by simp; omega) _)
  have KR1' : Hid (Blk v1 (w.heap.size + 1) 29 #[.int .i64 0, .int .i64 0, .slice none 0 0, .int .i64 0, .int .i64 0, .slice none 0 0, .slice none 0 0]) := Lib.hid (by rw [hv1]; exact ((KR1.out.other (by simp) _).other (by simp) _).other (by simp) _)
  have KT1' : Hid (Blk v1 (w.heap.size + 2) 29 #[.int .i64 W, .int .i64 H, .slice (some ⟨g1, 0, none⟩) pn pn, .int .i64 0, .int .i64 0, .slice none 0 0, .slice none 0 0]) := Lib.hid (by rw [hv1]; exact KT1.out.putP _ _ _)
  have HO1' : Hid (Own v1 g1 pn pn xs) := Lib.hid (by rw [hv1]; have := HG1.out; exact ((HO1.out.other (by simp; omega) _).other (by simp; omega) _).other (by simp; omega) _)
  have HZ1 : Hid (v1.heap.size = w1.heap.size) := Lib.hid (by rw [hv1]; simp)
  have HL1 := Lib.hid HO1.out.lt
  rw [← hv1]
  clear hv1 HB1 KA1 KR1 KT1 HO1 m0 d0 d1 d2 d3 d4 d5 d6 f0 f1 f2 f3 f4 f5 f6 l0 c0 c1 c2 c3 c4 c5 c6
  refine (toMat mW mH ma mn mc ys _ R3.out (by exact R4.out.below HV1.out) (by omega)).mono ?_
  rintro e w2 ⟨g2, rfl, hg, ho, hb⟩
  have HG2 : Hid (w1.heap.size ≤ g2) := Lib.hid (by rw [← HZ1.out]; exact hg)
  have HB2 := Lib.hid (bTrans HV1.out hb)
  have KA2 := Lib.hid (KA1'.out.below' hb)
  have KR2 := Lib.hid (KR1'.out.below' hb)
  have KT2 := Lib.hid (KT1'.out.below' hb)
  have HP2 := Lib.hid (HO1'.out.below hb HO1'.out.lt)
  have HO2 := Lib.hid ho
  clear hb ho hg KA1' KR1' KT1' HO1' HV1
  obtain ⟨m0, d0, d1, d2, d3, d4, d5, d6⟩ := KT2.out.c7
  obtain ⟨f0, f1, f2, f3, f4, f5, f6⟩ := KT2.out.f7
  obtain ⟨l0, c0, c1, c2, c3, c4, c5, c6⟩ := KA2.out.c7
  go_wp2_with fail
  obtain ⟨v2, hv2⟩ : ∃ x, x = (((w2.setCell ⟨w.heap.size + 1 + 1, 3, none⟩ (.int .i64 mW)).setCell ⟨w.heap.size + 1 + 1, 4, none⟩ (.int .i64 mH)).setCell ⟨w.heap.size + 1 + 1, 5, none⟩ (.slice (some ⟨g2, 0, none⟩) mn mn)) := ⟨_, rfl⟩
  have HV2 : Hid (Below w.heap.size w v2) := Lib.hid (by rw [hv2]; exact ((HB2.out.setCell (by simp; omega) _).setCell (by simp; omega) _).setCell (by simp; omega) _)
  have KA2' : Hid (Blk v2 w.heap.size 38 #[.int .i64 W, .int .i64 H, .slice pa pn pc, .int .i64 mW, .int .i64 mH, .slice ma mn mc, .slice a n c]) := Lib.hid (by rw [hv2]; exact ((KA2.out.other (by simp; omega) _).other (by simp; omega) _).other (by simp; omega) _)
  have KR2' : Hid (Blk v2 (w.heap.size + 1) 29 #[.int .i64 0, .int .i64 0, .slice none 0 0, .int .i64 0, .int .i64 0, .slice none 0 0, .slice none 0 0]) := Lib.hid (by rw [hv2]; exact ((KR2.out.other (by simp) _).other (by simp) _).other (by simp) _)
  have KT2' : Hid (Blk v2 (w.heap.size + 2) 29 #[.int .i64 W, .int .i64 H, .slice (some ⟨g1, 0, none⟩) pn pn, .int .i64 mW, .int .i64 mH, .slice (some ⟨g2, 0, none⟩) mn mn, .slice none 0 0]) := Lib.hid (by rw [hv2]; exact KT2.out.putM _ _ _)
  have HP2' : Hid (Own v2 g1 pn pn xs) := Lib.hid (by rw [hv2]; have := HG1.out; exact ((HP2.out.other (by simp; omega) _).other (by simp; omega) _).other (by simp; omega) _)
  have HO2' : Hid (Own v2 g2 mn mn ys) := Lib.hid (by rw [hv2]; have := HG1.out; have := HG2.out; have := HL1.out; exact ((HO2.out.other (by simp; omega) _).other (by simp; omega) _).other (by simp; omega) _)
  have HZ2 : Hid (v2.heap.size = w2.heap.size) := Lib.hid (by rw [hv2]; simp)
  have HL2 := Lib.hid HO2.out.lt
  rw [← hv2]
  clear hv2 HB2 KA2 KR2 KT2 HO2 HP2 m0 d0 d1 d2 d3 d4 d5 d6 f0 f1 f2 f3 f4 f5 f6 l0 c0 c1 c2 c3 c4 c5 c6
  refine (toPicS a n c ps _ R5.out (by exact R6.out.below HV2.out) (by omega) (by exact S4.out)).mono ?_
  rintro e w3 ⟨g3, Q, rfl, ho, hq, hb⟩
  have HB3 := Lib.hid (bTrans HV2.out hb)
  have KR3 := Lib.hid (KR2'.out.below' hb)
  have KT3 := Lib.hid (KT2'.out.below' hb)
  have HP3 := Lib.hid (HP2'.out.below hb HP2'.out.lt)
  have HM3 := Lib.hid (HO2'.out.below hb HO2'.out.lt)
  have HO3 := Lib.hid ho
  have HQ3 := Lib.hid hq
  clear hb ho hq KA2' KR2' KT2' HP2' HO2' HV2
  obtain ⟨m0, d0, d1, d2, d3, d4, d5, d6⟩ := KT3.out.c7
  obtain ⟨f0, f1, f2, f3, f4, f5, f6⟩ := KT3.out.f7
  obtain ⟨l0, c0, c1, c2, c3, c4, c5, c6⟩ := KR3.out.c7
  obtain ⟨q0, q1, q2, q3, q4, q5, q6⟩ := KR3.out.f7
  go_wp2_with fail
  have hz2 := HZ2.out
  have hz1 := HZ1.out
  have hg1 := HG1.out
  have hg2 := HG2.out
  have hl1 := HL1.out
  have hl2 := HL2.out
  refine bodyPost_ret (v := (⟨⟨W, H, some ⟨g1, 0, none⟩, pn, pn, xs⟩, ⟨mW, mH, some ⟨g2, 0, none⟩, mn, mn, ys⟩, some ⟨g3, 0, none⟩, n, n, Q⟩ : Dsk).val) (by simp [results, Try.results12, go_sem, Dsk.val, c0, c1, c2, c3, c4, c5, c6]) rfl ⟨_, rfl, ?_, ?_, rfl, rfl, rfl, ?_, ?_, ?_⟩
  · have o1 : w.heap.size + 2 < g1 := by omega
    have o2 : g1 < g2 := by omega
    have o3 : g2 < v2.heap.size := by omega
    have hb3 := HO3.out.bd
    refine ⟨OwnA.mk ?_ (by show w.heap.size ≤ g1; omega), OwnA.mk ?_ (by show w.heap.size ≤ g2; omega), ?_, ?_, ?_, ?_⟩
    · exact (((((((HP3.out.other (by simp; omega) _).other (by simp; omega) _).other (by simp; omega) _).other (by simp; omega) _).other (by simp; omega) _).other (by simp; omega) _).other (by simp; omega) _).other (by simp; omega) _
    · exact (((((((HM3.out.other (by simp; omega) _).other (by simp; omega) _).other (by simp; omega) _).other (by simp; omega) _).other (by simp; omega) _).other (by simp; omega) _).other (by simp; omega) _).other (by simp; omega) _
    · refine OwnV.mono (B := v2.heap.size) ?_ (by omega)
      exact (((((((HO3.out.other (by simp; omega) _).other (by simp; omega) _).other (by simp; omega) _).other (by simp; omega) _).other (by simp; omega) _).other (by simp; omega) _).other (by simp; omega) _).other (by simp; omega) _
    · intro b hb e
      simp only [blockOf, Option.some.injEq] at hb e
      omega
    · intro b hb e
      have := (hb3 b hb).1
      simp only [blockOf, Option.some.injEq] at e
      omega
    · intro b hb e
      have := (hb3 b hb).1
      simp only [blockOf, Option.some.injEq] at e
      omega
  · show ((⟨W, H, xs⟩, ⟨mW, mH, ys⟩, picsV Q) : Pic × Pic × List Pic) = (⟨W, H, xs⟩, ⟨mW, mH, ys⟩, picsV ps)
    rw [HQ3.out.pics]
  · exact HQ3.out.ink
  · exact ⟨by omega, by omega, by omega, fun k hk => by
      have e := HQ3.out.2 k (by rw [← HQ3.out.1]; exact hk)
      show (pv Q k).n ≤ 1048576
      rw [e.2.2.2.1]
      exact S4.out k (by rw [← HQ3.out.1]; exact hk)⟩
  · exact (((((((HB3.out.setCell (by first | (simp; done) | (simp; omega)) _).setCell (by first | (simp; done) | (simp; omega)) _).setCell (by first | (simp; done) | (simp; omega)) _).setCell (by first | (simp; done) | (simp; omega)) _).setCell (by first | (simp; done) | (simp; omega)) _).setCell (by first | (simp; done) | (simp; omega)) _).setCell (by first | (simp; done) | (simp; omega)) _).setCell (by first | (simp; done) | (simp; omega)) _

end Go.Proofs.Ytafjpmlakpfidaa
