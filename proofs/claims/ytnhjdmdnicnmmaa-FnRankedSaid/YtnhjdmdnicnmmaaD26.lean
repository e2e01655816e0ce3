/-
  Contract of the model's spread.
-/
import Derived.Test.YtnhjdmdnicnmmaaD25
import Derived.Test.YtnhjdmdnicnmmaaD6b
namespace Go.Proofs.Ytnhjdmdnicnmmaa
open Go.RowKit
set_option linter.unusedVariables false
set_option linter.unusedSimpArgs false

def spreadP (p : Pic) : Int := spreadG (farG p.W p.H) (pairsG p.ink.length (fun i => decide (p.ink.getD i 0 = 1)))

def PlateB (p : Pic) : Prop := p.ink = [] ∨ (1 ≤ p.W ∧ p.W ≤ 256 ∧ 1 ≤ p.H ∧ p.H ≤ 256 ∧ (p.ink.length : Int) = p.W * p.H ∧ p.ink.length ≤ 256)

theorem cells_plateB (W H : Int) (xs : List Int) (l : Int) : PlateB (cellsF W H xs l) := by
  by_cases h : matOk W H xs = true ∧ 0 ≤ l ∧ l ≤ (xs.length : Int) ∧ sizeOk W H = true
  · unfold cellsF
    rw [if_pos h]
    obtain ⟨m1, m2, _, _⟩ := matOk_bd rfl h.1
    obtain ⟨b1, b2, b3, b4, b5, b6⟩ := matSize_bd m1
    exact Or.inr ⟨b1, b2, b3, b4, by simpa using m2, by simp; omega⟩
  · rw [cellsF_no h]; exact Or.inl rfl

theorem spread_is {p : Pic} (h : PlateB p) : Least (farG p.W p.H) (fun i k => i < p.ink.length ∧ k < i ∧ p.ink.getD i 0 = 1 ∧ p.ink.getD k 0 = 1) (spreadP p) := by
  have h2 := spread_least (far := farG p.W p.H) (n := p.ink.length) (p := fun i => decide (p.ink.getD i 0 = 1)) (fun i k hi hk => by
    rcases h with h | ⟨b1, b2, b3, b4, b5, b6⟩
    · rw [h] at hi; simp at hi
    · exact farG_pos b1 b3 b5 hi (by omega) (by omega))
  exact h2.same (fun i k => by simp)

end Go.Proofs.Ytnhjdmdnicnmmaa
