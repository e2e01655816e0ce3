/-
  Contracts of chapter 6: what is a lattice, areas, periods, the names' numbers.
-/
import Derived.Test.YtflegojobchgdaaCore
import Derived.Test.YtflegojobchgdaaM30
import Derived.Deep.RegionHeld3
import Derived.Deep.QuietTactic
namespace Go.Proofs.Ytflegojobchgdaa
open Go.RowKit
set_option linter.unusedVariables false
set_option linter.unusedSimpArgs false

def latV (A B : Int) : Value := .agg #[.int .i64 A, .int .i64 B]

theorem Blk.c2 {w : World} {g T : Nat} {a b : Value} (h : Blk w g T #[a, b]) : g < w.heap.size ∧ w.cell? ⟨g, 0, none⟩ = some a ∧ w.cell? ⟨g, 1, none⟩ = some b :=
  ⟨h.lt, by rw [h.cell]; rfl, by rw [h.cell]; rfl⟩

theorem latOk_no {A B : Int} (h : ¬ (1 ≤ A ∧ A ≤ 12 ∧ 0 ≤ B ∧ B ≤ 12)) : latOk A B = false := by
  unfold latOk
  by_cases h1 : 1 ≤ A <;> by_cases h2 : A ≤ 12 <;> by_cases h3 : 0 ≤ B <;> by_cases h4 : B ≤ 12 <;> simp [h1, h2, h3, h4]
  omega

theorem latOk_yes {A B : Int} (h1 : 1 ≤ A) (h2 : A ≤ 12) (h3 : 0 ≤ B) (h4 : B ≤ 12) : latOk A B = true := by unfold latOk; simp [h1, h2, h3, h4]

theorem latOk_bd {A B : Int} (h : latOk A B = true) : 1 ≤ A ∧ A ≤ 12 ∧ 0 ≤ B ∧ B ≤ 12 := by
  simp only [latOk, Bool.and_eq_true, decide_eq_true_eq] at h; omega

set_option maxHeartbeats 400000 in
theorem in5 (x a b : Int) (w : World) :
    Calls Try.prog 55 #[.int .i64 x, .int .i64 a, .int .i64 b] w fun e w' => e = .returned (.bool (decide (a ≤ x ∧ x ≤ b))) ∧ w = w' := by
  go_enter Try.func55, Try.ntmps55
  go_wp2
  all_goals (go_ret; exact ⟨ret_bool (by first | (simp [*]; done) | (simp [*]; omega) | (simp; intros; omega)), rfl⟩)

set_option maxHeartbeats 800000 in
theorem impl_IsLattice (A B : Int) (w : World) :
    Calls Try.prog 30 #[.agg #[.int .i64 A, .int .i64 B]] w fun e w' => e = .returned (.bool (latOk A B)) ∧ Below w.heap.size w w' := by
  go_enter Try.func30, Try.ntmps30
  go_wp2_with fail
  all_goals (go_ret; exact ⟨ret_bool (by first | (symm; exact latOk_no (by omega)) | (symm; exact latOk_yes (by omega) (by omega) (by omega) (by omega)) | (by_cases h : B ≤ 12 <;> first | (rw [latOk_yes (by omega) (by omega) (by omega) h]; simp [*]; done) | (rw [latOk_no (by omega)]; simp [*]; done))), Joins.below_alloc1 _ _⟩)

set_option maxHeartbeats 800000 in
theorem spec_IsLattice (A B : Int) (w : World) :
    Calls Try.prog 36 #[.agg #[.int .i64 A, .int .i64 B]] w fun e w' => e = .returned (.bool (latOk A B)) ∧ Below w.heap.size w w' := by
  go_enter Try.func36, Try.ntmps36
  go_wp2_with fail
  refine (in5 _ _ _ _).mono ?_
  rintro e w1 ⟨rfl, rfl⟩
  by_cases h1 : 1 ≤ A ∧ A ≤ 12
  · have q1 : decide (1 ≤ A ∧ A ≤ 12) = true := decide_eq_true h1
    rw [q1]
    go_wp2_with fail
    refine (in5 _ _ _ _).mono ?_
    rintro e w1 ⟨rfl, rfl⟩
    go_wp2_with fail
    go_ret
    exact ⟨ret_bool (by unfold latOk; simp [h1]), Joins.below_alloc1 _ _⟩
  · have q1 : decide (1 ≤ A ∧ A ≤ 12) = false := decide_eq_false h1
    rw [q1]
    go_wp2_with fail
    go_ret
    exact ⟨ret_bool (by rw [latOk_no (by omega)]), Joins.below_alloc1 _ _⟩

end Go.Proofs.Ytflegojobchgdaa
