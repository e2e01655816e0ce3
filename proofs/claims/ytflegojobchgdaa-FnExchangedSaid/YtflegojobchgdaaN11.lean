/-
  Contracts of chapter 6: TurnedLattice of both.
-/
import Derived.Test.YtflegojobchgdaaN1
namespace Go.Proofs.Ytflegojobchgdaa
open Go.RowKit
set_option linter.unusedVariables false
set_option linter.unusedSimpArgs false

def turnedV (A B : Int) : Int × Int × Bool := if latOk A B = true ∧ latOk B A = true then (B, A, true) else (0, 0, false)

set_option maxHeartbeats 800000 in
theorem impl_TurnedLattice (A B : Int) (w : World) :
    Calls Try.prog 27 #[.agg #[.int .i64 A, .int .i64 B]] w fun e w' => e = .returned (.tuple #[.agg #[.int .i64 (turnedV A B).1, .int .i64 (turnedV A B).2.1], .bool (turnedV A B).2.2]) ∧ Below w.heap.size w w' := by
  have HT : Hid (∀ c1 c2 : Bool, latOk A B = c1 → latOk B A = c2 → turnedV A B = if c1 = true ∧ c2 = true then (B, A, true) else (0, 0, false)) := Lib.hid (by intro c1 c2 h1 h2; unfold turnedV; rw [h1, h2])
  cases h1 : latOk A B <;> cases h2 : latOk B A
  all_goals (
    rw [HT.out _ _ h1 h2]
    have H1 := Lib.hid h1
    have H2 := Lib.hid h2
    clear h1 h2 HT
    go_enter Try.func27, Try.ntmps27
    go_wp2_with fail
    refine (impl_IsLattice _ _ _).mono ?_
    rw [H1.out]
    rintro e w1 ⟨rfl, hb⟩
    have HB1 := Lib.hid (bTrans (bAlloc (bAlloc (bAlloc (Below.refl w.heap.size w) (.cells #[.int .i64 A, .int .i64 B] 24)) (.cells #[.int .i64 0, .int .i64 0] 24)) (.cells #[.int .i64 B, .int .i64 A] 24)) hb)
    have KR1 := Lib.hid (((Blk.new' (g := w.heap.size + 1) (w := w.alloc (.cells #[.int .i64 A, .int .i64 B] 24)) 24 #[.int .i64 0, .int .i64 0] (by simp)).alloc (.cells #[.int .i64 B, .int .i64 A] 24)).below' hb)
    have KT1 := Lib.hid ((Blk.new' (g := w.heap.size + 2) (w := (w.alloc (.cells #[.int .i64 A, .int .i64 B] 24)).alloc (.cells #[.int .i64 0, .int .i64 0] 24)) 24 #[.int .i64 B, .int .i64 A] (by simp)).below' hb)
    obtain ⟨z, r0, r1⟩ := KR1.out.c2
    obtain ⟨z2, t0, t1⟩ := KT1.out.c2
    have f0 := KR1.out.frozen 0
    have f1 := KR1.out.frozen 1
    clear hb
    go_wp2_with fail
    first
      | exact bodyPost_ret (v := .tuple #[.agg #[.int .i64 0, .int .i64 0], .bool false]) (by simp [results, Try.results27, go_sem, r0, r1]) rfl ⟨rfl, (HB1.out.setCell (by simp) _).setCell (by simp) _⟩
      | (
        refine (impl_IsLattice _ _ _).mono ?_
        rw [H2.out]
        rintro e w2 ⟨rfl, hb⟩
        have HB2 := Lib.hid (bTrans HB1.out hb)
        have KR2 := Lib.hid (KR1.out.below' hb)
        have KT2 := Lib.hid (KT1.out.below' hb)
        clear hb z r0 r1 z2 t0 t1 f0 f1
        obtain ⟨z, r0, r1⟩ := KR2.out.c2
        obtain ⟨z2, t0, t1⟩ := KT2.out.c2
        have f0 := KR2.out.frozen 0
        have f1 := KR2.out.frozen 1
        go_wp2_with fail
        first
          | exact bodyPost_ret (v := .tuple #[.agg #[.int .i64 0, .int .i64 0], .bool false]) (by simp [results, Try.results27, go_sem, r0, r1]) rfl ⟨rfl, (HB2.out.setCell (by simp) _).setCell (by simp) _⟩
          | exact bodyPost_ret (v := .tuple #[.agg #[.int .i64 B, .int .i64 A], .bool true]) (by simp [results, Try.results27, go_sem, r0, r1]) rfl ⟨rfl, (HB2.out.setCell (by simp) _).setCell (by simp) _⟩))

end Go.Proofs.Ytflegojobchgdaa
