/-
  Shares of an error: how near each is to its part. Nothing of the program.
-/
import Derived.Test.YtepaklcobkdfdaaM22
namespace Go.Proofs.Ytepaklcobkdfdaa
set_option linter.unusedVariables false
set_option linter.unusedSimpArgs false

theorem tmod_small {X m : Int} (h1 : -m < X) (h2 : X < m) : X.tmod m = X := by
  by_cases h : 0 ≤ X
  · exact Int.tmod_eq_of_lt h h2
  · obtain ⟨Y, rfl⟩ : ∃ Y, X = -Y := ⟨-X, by omega⟩
    rw [Int.neg_tmod, Int.tmod_eq_of_lt (by omega) (by omega)]

theorem share_facts {ks : List Prt} {n : Nat} {e : Int} (hn : ks.length = n) (h1 : 1 ≤ n) (h2 : n ≤ 12) (hk : kernTo ks n = true) (he1 : -1000000 ≤ e) (he2 : e ≤ 1000000) (k : Nat) (hkn : k < n)
    {W T s : Int} (hW : wtTo ks n = W) (hT : (prt ks k).wt = T) (hs : (sharesG ks W e).getD k 0 = s) :
    -100000000 ≤ e * T ∧ e * T ≤ 100000000 ∧ -10000000000 ≤ s * W ∧ s * W ≤ 10000000000 ∧ e * T - s * W < W ∧ (0 < k → 0 ≤ e * T - s * W) ∧ -W * (n : Int) ≤ e * T - s * W ∧ -14400 ≤ -W * (n : Int) ∧ -W * (n : Int) ≤ 0 := by
  subst hW hT hs
  obtain ⟨w1, w2⟩ := wtTo_bd hk n (Nat.le_refl _)
  have p := partOk_bd (kern_part hk hkn).1
  obtain ⟨q1, q2⟩ := shSum_near (e := e) hk h1
  have sl := sharesG_at ks (wtTo ks n) e k (by omega)
  rw [hn] at sl
  obtain ⟨W, hW⟩ : ∃ W, wtTo ks n = W := ⟨_, rfl⟩
  rw [hW] at sl q1 q2 w1 w2 ⊢
  obtain ⟨T, hT⟩ : ∃ T, (prt ks k).wt = T := ⟨_, rfl⟩
  have sb : shareB ks W e k = e * T / W := by unfold shareB; rw [hT]
  rw [sb] at sl
  rw [hT] at p ⊢
  have hW1 : 1 ≤ W := by omega
  have hW2 : W ≤ 1200 := by omega
  have d1 := Int.emod_add_mul_ediv (e * T) W
  have d2 := Int.emod_nonneg (e * T) (show W ≠ 0 by omega)
  have d3 := Int.emod_lt_of_pos (e * T) (show 0 < W by omega)
  have e1 := mul_abs (e := e) (b := T) (c := 1000000) (by omega) (by omega) (by omega) he1 he2
  have n1 : 0 ≤ W * (n : Int) := Int.mul_nonneg (by omega) (by omega)
  have n2 : W * (n : Int) ≤ 1200 * 12 := Int.mul_le_mul hW2 (by omega) (by omega) (by omega)
  have n3 : -W * (n : Int) = -(W * (n : Int)) := Int.neg_mul _ _
  obtain ⟨R, hR⟩ : ∃ R : Int, R = (if k = 0 then e - shSum ks W e n else 0) := ⟨_, rfl⟩
  have hR0 : 0 ≤ R ∧ R ≤ (n : Int) - 1 := by subst hR; split <;> omega
  have hRk : 0 < k → R = 0 := by intro h; rw [hR, if_neg (by omega)]
  rw [← hR] at sl
  have m1 : (e * T / W + R) * W = W * (e * T / W) + W * R := by rw [Int.add_mul, Int.mul_comm, Int.mul_comm R]
  have m2 : 0 ≤ W * R := Int.mul_nonneg (by omega) (by omega)
  have m3 : W * R ≤ W * ((n : Int) - 1) := Int.mul_le_mul_of_nonneg_left hR0.2 (by omega)
  have m4 : W * ((n : Int) - 1) = W * (n : Int) - W := by rw [Int.mul_sub, Int.mul_one]
  rw [sl, m1, n3]
  refine ⟨by omega, by omega, by omega, by omega, by omega, fun h => ?_, by omega, by omega, by omega⟩
  have := hRk h
  rw [this, Int.mul_zero]
  omega

theorem wt_range {ks : List Prt} {n : Nat} (h1 : 1 ≤ n) (h2 : n ≤ 12) (hk : kernTo ks n = true) : 1 ≤ wtTo ks n ∧ wtTo ks n ≤ 1200 := by
  obtain ⟨w1, w2⟩ := wtTo_bd hk n (Nat.le_refl _)
  omega

theorem isum_shTo (sh : List Int) (k : Nat) (hk : k ≤ sh.length) : isum (sh.take k) = shTo sh k := by
  induction k with
  | zero => simp [shTo, isum]
  | succ k ih =>
    rw [isum_snoc _ _ (by omega), ih (by omega), shTo]
    rfl

theorem absTo_shTo (sh : List Int) (k : Nat) : ((shTo sh k).natAbs : Int) ≤ absTo sh k := by
  induction k with
  | zero => simp [shTo, absTo]
  | succ k ih => simp only [shTo, absTo]; omega

theorem absTo_mono (sh : List Int) {k m : Nat} (h : k ≤ m) : absTo sh k ≤ absTo sh m := by
  induction m with
  | zero => obtain rfl : k = 0 := by omega
            omega
  | succ m ih =>
    by_cases e : k = m + 1
    · subst e; omega
    · have := ih (by omega); simp only [absTo]; omega

end Go.Proofs.Ytepaklcobkdfdaa
