/-
  Contracts of chapter 9: NewDesk (program and model).
-/
import Derived.Test.YtafjpmlakpfidaaZ1
import Derived.Test.YtafjpmlakpfidaaC3
import Derived.Test.YtafjpmlakpfidaaD7b
import Derived.Test.YtafjpmlakpfidaaD3
namespace Go.Proofs.Ytafjpmlakpfidaa
open Go.RowKit
set_option linter.unusedVariables false
set_option linter.unusedSimpArgs false

/-- A new desk as data. -/
def newDat : Pic × Pic × List Pic := (⟨1, 1, [0]⟩, ⟨1, 1, [0]⟩, [])

/-- A desk of the call's own that reads as d. -/
def DeskOut (w : World) (d : Pic × Pic × List Pic) (e : Ending) (w' : World) : Prop :=
  ∃ E : Dsk, e = .returned E.val ∧ OwnD w' w.heap.size E ∧ E.dat = d ∧ SmallD E ∧ Below w.heap.size w w'

theorem flat110 : flatF 1 1 0 = (⟨1, 1, [0]⟩, true) := by decide
theorem bayer0 : bayerF 0 = (⟨1, 1, [0]⟩, true) := by rfl

set_option maxRecDepth 100000 in
set_option maxHeartbeats 800000 in
theorem impl_NewDesk (w : World) : Calls Try.prog 6 #[] w (DeskOut w newDat) := by
  have KR := Lib.hid (Blk.new w 29 #[.int .i64 0, .int .i64 0, .slice none 0 0, .int .i64 0, .int .i64 0, .slice none 0 0, .slice none 0 0])
  have HB0 := Lib.hid (bAlloc (Below.refl w.heap.size w) (.cells #[.int .i64 0, .int .i64 0, .slice none 0 0, .int .i64 0, .int .i64 0, .slice none 0 0, .slice none 0 0] 29))
  go_enter Try.func6, Try.ntmps6
  go_wp2_with fail
  refine (impl_FlatPicture 1 1 0 _).mono ?_
  rw [flat110]
  rintro e w1 ⟨a, n, c, rfl, ho, hn, hb⟩
  have HP1 := Lib.hid (ho.alloc (.cells #[.int .i64 1, .int .i64 1, .slice a n c] 24))
  have HZ1 : Hid (w.heap.size + 1 ≤ w1.heap.size) := Lib.hid (by have := hb.size; simpa using this)
  have HB1 := Lib.hid (bAlloc (bTrans HB0.out hb) (.cells #[.int .i64 1, .int .i64 1, .slice a n c] 24))
  have KR1 := Lib.hid ((KR.out.below' hb).alloc (.cells #[.int .i64 1, .int .i64 1, .slice a n c] 24))
  have KP1 := Lib.hid (Blk.new w1 24 #[.int .i64 1, .int .i64 1, .slice a n c])
  have HBD := Lib.hid ho.bd
  clear hb ho KR
  go_wp2_with fail
  refine (impl_BayerMatrix 0 _).mono ?_
  rw [bayer0]
  rintro e w2 ⟨a2, n2, c2, rfl, ho, hn2, hb⟩
  have HP2 := Lib.hid ((HP1.out.below' hb).alloc (.cells #[.int .i64 1, .int .i64 1, .slice a2 n2 c2] 26))
  have HM2 := Lib.hid (ho.alloc (.cells #[.int .i64 1, .int .i64 1, .slice a2 n2 c2] 26))
  have HB2 := Lib.hid (bAlloc (bTrans HB1.out hb) (.cells #[.int .i64 1, .int .i64 1, .slice a2 n2 c2] 26))
  have KR2 := Lib.hid ((KR1.out.below' hb).alloc (.cells #[.int .i64 1, .int .i64 1, .slice a2 n2 c2] 26))
  have KP2 := Lib.hid ((KP1.out.below' hb).alloc (.cells #[.int .i64 1, .int .i64 1, .slice a2 n2 c2] 26))
  have KM2 := Lib.hid (Blk.new w2 26 #[.int .i64 1, .int .i64 1, .slice a2 n2 c2])
  have HBM := Lib.hid ho.bd
  have HZ2 : Hid (w1.heap.size + 1 ≤ w2.heap.size) := Lib.hid (by have := hb.size; simpa using this)
  clear hb ho KR1 KP1 HP1
  obtain ⟨l0, c0, c1, c2', c3, c4, c5, c6⟩ := KR2.out.c7
  obtain ⟨f0, f1, f2, f3, f4, f5, f6⟩ := KR2.out.f7
  obtain ⟨m0, d0, d1, d2⟩ := KP2.out.c3
  obtain ⟨o0, g0, g1, g2⟩ := KM2.out.c3
  go_wp2_with fail
  have hz1 := HZ1.out
  have hz2 := HZ2.out
  have hbd := HBD.out
  have hbm := HBM.out
  refine bodyPost_ret (v := (⟨⟨1, 1, a, n, c, [0]⟩, ⟨1, 1, a2, n2, c2, [0]⟩, none, 0, 0, []⟩ : Dsk).val) (by simp [results, Try.results6, go_sem, Dsk.val, c0, c1, c2', c3, c4, c5, c6]) rfl ⟨_, rfl, ?_, rfl, ⟨hn, hn2, by show 0 ≤ 1048576; omega, fun k hk => by simp at hk⟩, ?_⟩
  · refine ⟨?_, ?_, OwnV.nil _ _, fun b hb e => ?_, fun b hb e => ?_, fun b hb e => ?_⟩
    · exact OwnA.mono (ownA_other7 HP2.out (by simp) _ _ _ _ _ _ _) (by simp)
    · exact OwnA.mono (ownA_other7 HM2.out (by simp; omega) _ _ _ _ _ _ _) (by simp; omega)
    · have h1 := hbd b hb
      have h2 := hbm b e
      simp at h1 h2
      omega
    · rcases hb with hb | ⟨k, hk, _⟩
      · cases hb
      · simp at hk
    · rcases hb with hb | ⟨k, hk, _⟩
      · cases hb
      · simp at hk
  · exact below_set7 HB2.out (Nat.le_refl _) _ _ _ _ _ _ _

set_option maxRecDepth 100000 in
set_option maxHeartbeats 800000 in
theorem spec_NewDesk (w : World) : Calls Try.prog 5 #[] w (DeskOut w newDat) := by
  have KR := Lib.hid (Blk.new w 29 #[.int .i64 0, .int .i64 0, .slice none 0 0, .int .i64 0, .int .i64 0, .slice none 0 0, .slice none 0 0])
  have HB0 := Lib.hid (bAlloc (Below.refl w.heap.size w) (.cells #[.int .i64 0, .int .i64 0, .slice none 0 0, .int .i64 0, .int .i64 0, .slice none 0 0, .slice none 0 0] 29))
  go_enter Try.func5, Try.ntmps5
  go_wp2_with fail
  refine (spec_l1Empty 1 1 1 _ (by decide) (by decide)).mono ?_
  rintro e w1 ⟨g, rfl, hg, ho, hb⟩
  have HG : Hid (w.heap.size + 1 ≤ g) := Lib.hid (by simpa using hg)
  have HP1 := Lib.hid (ho.alloc (.cells #[.int .i64 0] 3))
  have HM1 : Hid (Own (w1.alloc (.cells #[.int .i64 0] 3)) w1.heap.size 1 1 [0]) := Lib.hid ⟨rfl, _, heap_alloc_new w1 _, by omega, by unfold maxLen; omega, by simp, by simp⟩
  have HB1 := Lib.hid (bAlloc (bTrans HB0.out hb) (.cells #[.int .i64 0] 3))
  have KR1 := Lib.hid ((KR.out.below' hb).alloc (.cells #[.int .i64 0] 3))
  have HL := Lib.hid ho.lt
  have HZ1 : Hid (w.heap.size + 1 ≤ w1.heap.size) := Lib.hid (by have := hb.size; simpa using this)
  clear hb ho hg KR
  obtain ⟨l0, c0, c1, c2', c3, c4, c5, c6⟩ := KR1.out.c7
  obtain ⟨f0, f1, f2, f3, f4, f5, f6⟩ := KR1.out.f7
  go_wp2_with fail
  have hz1 := HZ1.out
  have hl := HL.out
  have hg := HG.out
  refine bodyPost_ret (v := (⟨⟨1, 1, some ⟨g, 0, none⟩, 1, 1, [0]⟩, ⟨1, 1, some ⟨w1.heap.size, 0, none⟩, 1, 1, [0]⟩, none, 0, 0, []⟩ : Dsk).val) (by simp [results, Try.results5, go_sem, Dsk.val, c0, c1, c2', c3, c4, c5, c6]) rfl ⟨_, rfl, ?_, rfl, ⟨by show 1 ≤ 1048576; omega, by show 1 ≤ 1048576; omega, by show 0 ≤ 1048576; omega, fun k hk => by simp at hk⟩, ?_⟩
  · refine ⟨?_, ?_, OwnV.nil _ _, fun b hb e => ?_, fun b hb e => ?_, fun b hb e => ?_⟩
    · exact OwnA.mono (ownA_other7 (OwnA.mk HP1.out hg) (by omega) _ _ _ _ _ _ _) (by omega)
    · exact OwnA.mono (ownA_other7 (OwnA.mk HM1.out (Nat.le_refl _)) (by omega) _ _ _ _ _ _ _) (by omega)
    · simp only [blockOf, Option.some.injEq] at hb e
      omega
    · rcases hb with hb | ⟨k, hk, _⟩
      · cases hb
      · simp at hk
    · rcases hb with hb | ⟨k, hk, _⟩
      · cases hb
      · simp at hk
  · exact below_set7 HB1.out (Nat.le_refl _) _ _ _ _ _ _ _

end Go.Proofs.Ytafjpmlakpfidaa
