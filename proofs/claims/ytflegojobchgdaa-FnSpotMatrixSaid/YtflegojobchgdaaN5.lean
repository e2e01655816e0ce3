/-
  Contracts of chapter 6: the model's HasPoint, names and turns.
-/
import Derived.Test.YtflegojobchgdaaN4
namespace Go.Proofs.Ytflegojobchgdaa
open Go.RowKit
set_option linter.unusedVariables false
set_option linter.unusedSimpArgs false

theorem name_has {A B n g d a b p q x y K : Int} (L : Lat A B n g d a b p q) (hK : IsName A B x y K) {k : Int} (h0 : 0 ≤ k) (h1 : k < n) : decide (HasL A B (x - k % d) (y - k / d)) = decide (k = K) := by
  by_cases h : k = K
  · subst h
    rw [decide_eq_true (L.isName.1 hK).2.2, decide_eq_true rfl]
  · rw [decide_eq_false h, decide_eq_false]
    intro hh
    exact h (L.name_one (L.isName.2 ⟨h0, h1, hh⟩) hK)

end Go.Proofs.Ytflegojobchgdaa
