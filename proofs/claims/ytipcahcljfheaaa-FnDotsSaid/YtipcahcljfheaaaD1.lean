/-
  Contracts of chapter 3: sizes of matrices, remainders, levels, shifts, quarters (program and model).
-/
import Derived.Test.YtipcahcljfheaaaSize
import Derived.Test.YtipcahcljfheaaaM3
namespace Go.Proofs.Ytipcahcljfheaaa
open Go.RowKit
set_option linter.unusedVariables false
set_option linter.unusedSimpArgs false

theorem tmod_neg {a n : Int} (h : a < 0) (hn : 1 ≤ n) : -n < a.tmod n ∧ a.tmod n ≤ 0 ∧ (a.tmod n < 0 → a.tmod n + n = a % n) ∧ (¬ a.tmod n < 0 → a.tmod n = a % n) := by
  obtain ⟨b, rfl⟩ : ∃ b : Int, a = -b := ⟨-a, by omega⟩
  have e0 : (-b).tmod n = -(b % n) := by rw [Int.neg_tmod, Int.tmod_eq_emod_of_nonneg (by omega)]
  have e1 : 0 ≤ b % n := Int.emod_nonneg _ (by omega)
  have e2 : b % n < n := Int.emod_lt_of_pos _ (by omega)
  rw [e0]
  refine ⟨by omega, by omega, fun h1 => ?_, fun h1 => ?_⟩
  · have e3 : -b = (n - b % n) + n * (-(b / n) - 1) := by
      have := Int.mul_ediv_add_emod b n
      rw [Int.mul_sub, Int.mul_neg]
      omega
    have e4 : (-b) % n = n - b % n := by
      rw [e3, Int.add_mul_emod_self_left, Int.emod_eq_of_lt (by omega) (by omega)]
    rw [e4]; omega
  · have e5 : b % n = 0 := by omega
    have e6 : (-b) % n = 0 := Int.emod_eq_zero_of_dvd (Int.dvd_neg.2 (Int.dvd_of_emod_eq_zero e5))
    omega

end Go.Proofs.Ytipcahcljfheaaa
