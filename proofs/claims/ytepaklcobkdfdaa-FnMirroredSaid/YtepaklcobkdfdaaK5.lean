/-
  Contracts of the laws' own helpers over lists of parts: comparison, marks.
-/
import Derived.Test.YtepaklcobkdfdaaK4
namespace Go.Proofs.Ytepaklcobkdfdaa
open Go.RowKit
set_option linter.unusedVariables false
set_option linter.unusedSimpArgs false

/-- Three cells of a list of numbers, as the walk reads them. -/
theorem rd_three {w : World} {ad : Option Addr} {xs : List Int} {n k : Nat} (h : Rd w ad xs) (hl : xs.length = n * 3) (hk : k < n) :
    ∃ b off, ad = some ⟨b, off, none⟩ ∧ b < w.heap.size ∧ w.cell? ⟨b, off + k * 3, none⟩ = some (.int .i64 (xs.getD (k * 3) 0)) ∧ w.cell? ⟨b, off + k * 3 + 1, none⟩ = some (.int .i64 (xs.getD (k * 3 + 1) 0)) ∧ w.cell? ⟨b, off + k * 3 + 2, none⟩ = some (.int .i64 (xs.getD (k * 3 + 2) 0)) := by
  obtain ⟨b, off, h1, h2, h3⟩ := h.at (by omega)
  exact ⟨b, off, h1, h2, h3 _ (by omega), by rw [Nat.add_assoc]; exact h3 _ (by omega), by rw [Nat.add_assoc]; exact h3 _ (by omega)⟩

theorem take_three {xs ys : List Int} {k : Nat} (h1 : k * 3 + 2 < xs.length) (h2 : k * 3 + 2 < ys.length) (h : xs.take (k * 3) = ys.take (k * 3)) (e0 : xs.getD (k * 3) 0 = ys.getD (k * 3) 0) (e1 : xs.getD (k * 3 + 1) 0 = ys.getD (k * 3 + 1) 0) (e2 : xs.getD (k * 3 + 2) 0 = ys.getD (k * 3 + 2) 0) : xs.take ((k + 1) * 3) = ys.take ((k + 1) * 3) := by
  have a := take_succ_eq (by omega) (by omega) h e0
  have b := take_succ_eq (by omega) (by omega) a e1
  have c := take_succ_eq (by omega) (by omega) b e2
  rw [show (k + 1) * 3 = k * 3 + 1 + 1 + 1 by omega]
  exact c

end Go.Proofs.Ytepaklcobkdfdaa
