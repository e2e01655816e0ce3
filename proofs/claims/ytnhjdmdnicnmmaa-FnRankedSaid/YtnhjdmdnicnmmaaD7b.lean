/-
  Contracts of chapter 3: DoubleMatrix, BayerMatrix (program and model).
-/
import Derived.Test.YtnhjdmdnicnmmaaD7
namespace Go.Proofs.Ytnhjdmdnicnmmaa
open Go.RowKit
set_option linter.unusedVariables false
set_option linter.unusedSimpArgs false

theorem dbl_size_no {W H : Int} {n : Nat} (hn : (n : Int) = W * H) (h : ¬ 4 * n ≤ 256) : ¬ matSize (2 * W) (2 * H) = true := by
  intro hs
  obtain ⟨_, _, _, _, h5, _⟩ := matSize_bd hs
  have e : 2 * W * (2 * H) = 4 * (W * H) := by
    rw [Int.mul_assoc, Int.mul_left_comm W 2 H, ← Int.mul_assoc]; rfl
  rw [e] at h5
  omega

def bayerAll : Bool := [0, 1, 2, 3, 4].all (fun j => matOk (bayerM j).W (bayerM j).H (bayerM j).ranks && (decide ((bayerM j).ranks.length = 4 ^ j) && decide ((bayerM j).W = 2 ^ j ∧ (bayerM j).H = 2 ^ j)))

theorem bayerAll_ok : bayerAll = true := by decide +kernel

theorem bayer_ok (j : Nat) (hj : j ≤ 4) : matOk (bayerM j).W (bayerM j).H (bayerM j).ranks = true ∧ (bayerM j).ranks.length = 4 ^ j ∧ (bayerM j).W = 2 ^ j ∧ (bayerM j).H = 2 ^ j := by
  have h := bayerAll_ok
  unfold bayerAll at h
  rw [List.all_eq_true] at h
  have h2 := h j (by simp; omega)
  simpa [Bool.and_eq_true, decide_eq_true_eq] using h2

theorem bayer_len (j : Nat) (hj : j ≤ 3) : 4 * (bayerM j).ranks.length ≤ 256 := by
  rw [(bayer_ok j (by omega)).2.1]
  have : 4 ^ j ≤ 4 ^ 3 := Nat.pow_le_pow_right (by omega) hj
  omega

theorem OwnA.otherS {w : World} {B n cap : Nat} {ad : Option Addr} {xs : List Int} (h : OwnA w B ad n cap xs) {a : Addr} (ha : ∀ b, blockOf ad = some b → b ≠ a.block) (u : Value) : OwnA (w.setCell a u) B ad n cap xs := by
  rcases h with h | ⟨g, h1, h2, h⟩
  · exact .inl h
  · subst h1
    exact .inr ⟨g, rfl, h2, h.other (fun e => ha g rfl e.symm) u⟩

theorem bayerF_no {k : Int} (h : ¬ (0 ≤ k ∧ k ≤ 4)) : bayerF k = (noMat, false) := by unfold bayerF; rw [if_neg h]

theorem bayerF_yes {k : Nat} (h : k ≤ 4) : bayerF (k : Int) = (bayerM k, true) := by unfold bayerF; rw [if_pos ⟨by omega, by omega⟩]; rfl

end Go.Proofs.Ytnhjdmdnicnmmaa
