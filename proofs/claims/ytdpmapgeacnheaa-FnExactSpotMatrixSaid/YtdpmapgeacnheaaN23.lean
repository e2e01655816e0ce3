/-
  Contracts of chapter 6: SpotMatrix where it answers nothing, and what both answer.
-/
import Derived.Test.YtdpmapgeacnheaaN22
namespace Go.Proofs.Ytdpmapgeacnheaa
open Go.RowKit
set_option linter.unusedVariables false
set_option linter.unusedSimpArgs false

set_option maxHeartbeats 800000 in
theorem spec_SpotMatrix_no1 {A B : Int} (h : latOk A B = false) (w : World) :
    Calls Try.prog 42 #[.agg #[.int .i64 A, .int .i64 B]] w (MatOut2 w (noMat, false)) := by
  have HL := Lib.hid h
  clear h
  go_enter Try.func42, Try.ntmps42
  go_wp2_with fail
  refine (spec_IsLattice _ _ _).mono ?_
  rw [HL.out]
  rintro e w1 ⟨rfl, hb⟩
  have HB1 := Lib.hid (bTrans (Joins.below_alloc2 _ _ _) hb)
  have KP1 := Lib.hid ((Blk.new' (g := w.heap.size + 1) (w := w.alloc (.cells #[.int .i64 A, .int .i64 B] 25)) 48 #[.int .i64 0, .int .i64 0, .slice none 0 0] (by simp)).below' hb)
  clear hb
  obtain ⟨r0, r1, r2, r3⟩ := KP1.out.c3
  obtain ⟨q0, q1, q2⟩ := KP1.out.f3
  go_wp2_with fail
  exact bodyPost_ret (v := .tuple #[.agg #[.int .i64 0, .int .i64 0, .slice none 0 0], .bool false]) (by simp [results, Try.results42, go_sem, r1, r2, r3]) rfl ⟨none, 0, 0, rfl, OwnA.none _ _, by omega,
    ((HB1.out.setCell (by first | (simp; done) | (simp; omega)) _).setCell (by first | (simp; done) | (simp; omega)) _).setCell (by first | (simp; done) | (simp; omega)) _⟩

set_option maxHeartbeats 800000 in
theorem spec_SpotMatrix_no2 {A B d : Int} {N : Nat} {g a b p q : Int} (L : Lat A B (N : Int) g d a b p q) (hs : ¬ matSize d d = true) (w : World) :
    Calls Try.prog 42 #[.agg #[.int .i64 A, .int .i64 B]] w (MatOut2 w (noMat, false)) := by
  have HL := Lib.hid L
  have HS := Lib.hid hs
  clear L hs
  go_enter Try.func42, Try.ntmps42
  go_wp2_with fail
  refine (spec_IsLattice _ _ _).mono ?_
  rw [lat_ok HL.out]
  rintro e w1 ⟨rfl, hb⟩
  have HB1 := Lib.hid (bTrans (Joins.below_alloc2 _ _ _) hb)
  have KL1 := Lib.hid (((Blk.new w 25 #[.int .i64 A, .int .i64 B]).alloc (.cells #[.int .i64 0, .int .i64 0, .slice none 0 0] 48)).below' hb)
  have KP1 := Lib.hid ((Blk.new' (g := w.heap.size + 1) (w := w.alloc (.cells #[.int .i64 A, .int .i64 B] 25)) 48 #[.int .i64 0, .int .i64 0, .slice none 0 0] (by simp)).below' hb)
  obtain ⟨z, c0, c1⟩ := KL1.out.c2
  clear hb
  go_wp2_with fail
  refine (spec_l5Sides HL.out _).mono ?_
  rintro e w2 ⟨rfl, hb⟩
  have HB2 := Lib.hid (bTrans HB1.out hb)
  have KP2 := Lib.hid (KP1.out.below' hb)
  clear hb z c0 c1
  go_wp2_with fail
  refine (spec_l2Shape_no _ _ _ HS.out).mono ?_
  rintro e w2 ⟨rfl, rfl⟩
  obtain ⟨r0, r1, r2, r3⟩ := KP2.out.c3
  obtain ⟨q0, q1, q2⟩ := KP2.out.f3
  go_wp2_with fail
  exact bodyPost_ret (v := .tuple #[.agg #[.int .i64 0, .int .i64 0, .slice none 0 0], .bool false]) (by simp [results, Try.results42, go_sem, r1, r2, r3]) rfl ⟨none, 0, 0, rfl, OwnA.none _ _, by omega,
    ((HB2.out.setCell (by first | (simp; done) | (simp; omega)) _).setCell (by first | (simp; done) | (simp; omega)) _).setCell (by first | (simp; done) | (simp; omega)) _⟩

/-- What both answer. -/
theorem smat_both (A B : Int) : ∃ F : Mat × Bool, (∀ w, Calls Try.prog 42 #[.agg #[.int .i64 A, .int .i64 B]] w (MatOut2 w F)) ∧ (∀ w, Calls Try.prog 43 #[.agg #[.int .i64 A, .int .i64 B]] w (MatOut2 w F)) := by
  by_cases hok : latOk A B = true
  · obtain ⟨n, g, d, a, b, p, q, L⟩ := lat_of hok
    have n1 := L.n1; have n2 := L.n2
    obtain ⟨N, rfl⟩ : ∃ N : Nat, n = N := ⟨n.toNat, by omega⟩
    by_cases hs : matSize d d = true
    · obtain ⟨b1, b2, b3⟩ := matSqB hs
      have b5 : 1 * 1 ≤ d * d := Int.mul_le_mul b1 b1 (by omega) (by omega)
      obtain ⟨m, hq⟩ : ∃ m : Nat, (m : Int) = d * d := ⟨(d * d).toNat, by omega⟩
      obtain ⟨nm, hnm⟩ := named_ex L d m
      exact ⟨_, fun w => spec_SpotMatrix_yes L m nm hnm hs hq w, fun w => impl_SpotMatrix_yes L m nm hnm hs hq w⟩
    · exact ⟨_, fun w => spec_SpotMatrix_no2 L hs w, fun w => impl_SpotMatrix_no2 L hs w⟩
  · have ho : latOk A B = false := by simpa using hok
    exact ⟨_, fun w => spec_SpotMatrix_no1 ho w, fun w => impl_SpotMatrix_no1 ho w⟩

end Go.Proofs.Ytdpmapgeacnheaa
