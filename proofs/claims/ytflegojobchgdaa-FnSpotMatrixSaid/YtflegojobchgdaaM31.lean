/-
  The distance from a lattice as the model looks for it: the best of 25 points around. Nothing of the program.
-/
import Derived.Test.YtflegojobchgdaaM30
namespace Go.Proofs.Ytflegojobchgdaa
set_option linter.unusedVariables false
set_option linter.unusedSimpArgs false

/-- The squared distance from the k-th of the 25 points around. -/
def cand (A B U V I J : Int) (k : Nat) : Int :=
  (U - (I + (k : Int) % 5 - 2) * A + (J + (k : Int) / 5 - 2) * B) * (U - (I + (k : Int) % 5 - 2) * A + (J + (k : Int) / 5 - 2) * B) + (V - (I + (k : Int) % 5 - 2) * B - (J + (k : Int) / 5 - 2) * A) * (V - (I + (k : Int) % 5 - 2) * B - (J + (k : Int) / 5 - 2) * A)

def BestAt (f : Nat → Int) (k : Nat) (b : Int) : Prop := (k = 0 ∧ b = -1) ∨ (0 < k ∧ (∃ j, j < k ∧ b = f j) ∧ ∀ j, j < k → b ≤ f j)

theorem best_start (f : Nat → Int) : BestAt f 0 (-1) := Or.inl ⟨rfl, rfl⟩

theorem best_new {f : Nat → Int} {k : Nat} {b : Int} (h : BestAt f k b) (hn : ∀ j, 0 ≤ f j) (hb : b < 0 ∨ f k < b) : BestAt f (k + 1) (f k) := by
  refine Or.inr ⟨by omega, ⟨k, by omega, rfl⟩, fun j hj => ?_⟩
  by_cases e : j = k
  · rw [e]; exact Int.le_refl _
  · rcases h with ⟨h1, h2⟩ | ⟨h1, ⟨i, hi, h2⟩, h3⟩
    · omega
    · have := h3 j (by omega)
      have := hn i
      omega

theorem best_old {f : Nat → Int} {k : Nat} {b : Int} (h : BestAt f k b) (h0 : ¬ b < 0) (hb : ¬ f k < b) : BestAt f (k + 1) b := by
  rcases h with ⟨h1, h2⟩ | ⟨h1, ⟨i, hi, h2⟩, h3⟩
  · omega
  · refine Or.inr ⟨by omega, ⟨i, by omega, h2⟩, fun j hj => ?_⟩
    by_cases e : j = k
    · rw [e]; omega
    · exact h3 j (by omega)

theorem sq_ge (x : Int) : 0 ≤ x * x := by
  rcases Int.le_total 0 x with h | h
  · exact Int.mul_nonneg h h
  · have := Int.mul_nonneg (show 0 ≤ -x by omega) (show 0 ≤ -x by omega)
    rwa [Int.neg_mul_neg] at this

theorem cand_nn (A B U V I J : Int) (k : Nat) : 0 ≤ cand A B U V I J k := by
  unfold cand
  have h1 := sq_ge (U - (I + (k : Int) % 5 - 2) * A + (J + (k : Int) / 5 - 2) * B)
  have h2 := sq_ge (V - (I + (k : Int) % 5 - 2) * B - (J + (k : Int) / 5 - 2) * A)
  omega

theorem best_bd {f : Nat → Int} {k : Nat} {b : Int} (h : BestAt f k b) (hn : ∀ j, 0 ≤ f j) : -1 ≤ b := by
  rcases h with ⟨h1, h2⟩ | ⟨h1, ⟨i, hi, h2⟩, h3⟩
  · omega
  · have := hn i; omega

theorem tdiv_near {Y n : Int} (hn : 1 ≤ n) : Y.tdiv n = Y / n ∨ Y.tdiv n = Y / n + 1 := by
  have h1 := Int.mul_tdiv_add_tmod Y n
  have h2 := Int.mul_ediv_add_emod Y n
  have h3 := Int.emod_nonneg Y (show n ≠ 0 by omega)
  have h4 := Int.emod_lt_of_pos Y (show 0 < n by omega)
  by_cases hy : 0 ≤ Y
  · left; exact Int.tdiv_eq_ediv_of_nonneg hy
  · obtain ⟨X, rfl⟩ : ∃ X, Y = -X := ⟨-Y, by omega⟩
    have e0 : (-X).tmod n = -(X % n) := by rw [Int.neg_tmod, Int.tmod_eq_emod_of_nonneg (by omega)]
    have e1 := Int.emod_nonneg X (show n ≠ 0 by omega)
    have e2 := Int.emod_lt_of_pos X (show 0 < n by omega)
    rw [e0] at h1
    obtain ⟨t, ht⟩ : ∃ t, (-X).tdiv n = t := ⟨_, rfl⟩
    obtain ⟨f, hf⟩ : ∃ f, (-X) / n = f := ⟨_, rfl⟩
    rw [ht] at h1 ⊢
    rw [hf] at h2 ⊢
    have i1 : n * (t - f) < n * 2 := by rw [Int.mul_sub]; omega
    have i2 : n * (-1) < n * (t - f) := by rw [Int.mul_sub]; omega
    have j1 := Int.lt_of_mul_lt_mul_left i1 (by omega)
    have j2 := Int.lt_of_mul_lt_mul_left i2 (by omega)
    omega

theorem best_near {A B n g w a b p q U V I J v : Int} (L : Lat A B n g w a b p q) (hI : I = (U * A + V * B) / n) (hJ : J = (V * A - U * B).tdiv n) (h : BestAt (cand A B U V I J) 25 v) : v = nearF A B U V := by
  rcases h with ⟨h1, _⟩ | ⟨_, ⟨i, hi, h2⟩, h3⟩
  · omega
  have hle : ∀ k, nearF A B U V ≤ cand A B U V I J k := fun k => L.near_le U V (I + (k : Int) % 5 - 2) (J + (k : Int) / 5 - 2)
  obtain ⟨c, d, hc, hd, e⟩ := L.near_at U V
  have hJ2 := tdiv_near (Y := V * A - U * B) L.n1
  rw [← hJ] at hJ2
  rw [← hI] at hc
  obtain ⟨F, hF⟩ : ∃ F, (V * A - U * B) / n = F := ⟨_, rfl⟩
  rw [hF] at hd hJ2
  obtain ⟨s, hs⟩ : ∃ s : Nat, (s : Int) = c - I + 2 := ⟨(c - I + 2).toNat, by omega⟩
  obtain ⟨t, ht⟩ : ∃ t : Nat, (t : Int) = d - J + 2 := ⟨(d - J + 2).toNat, by omega⟩
  have hk := h3 (s + 5 * t) (by omega)
  have e1 : ((s + 5 * t : Nat) : Int) % 5 = s := by omega
  have e2 : ((s + 5 * t : Nat) : Int) / 5 = t := by omega
  have e3 : cand A B U V I J (s + 5 * t) = nearF A B U V := by
    unfold cand
    rw [e1, e2, show I + (s : Int) - 2 = c by omega, show J + (t : Int) - 2 = d by omega, e]
  have := hle i
  omega

end Go.Proofs.Ytflegojobchgdaa
