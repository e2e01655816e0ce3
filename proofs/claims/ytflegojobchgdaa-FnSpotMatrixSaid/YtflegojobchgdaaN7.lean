/-
  Contracts of chapter 6: the model's NearOf.
-/
import Derived.Test.YtflegojobchgdaaN6
import Derived.Test.YtflegojobchgdaaM31
namespace Go.Proofs.Ytflegojobchgdaa
open Go.RowKit
set_option linter.unusedVariables false
set_option linter.unusedSimpArgs false

theorem prod_bd2 {u A m : Int} (h1 : -m ≤ u) (h2 : u ≤ m) (hm : 0 ≤ m) (a1 : 0 ≤ A) (a2 : A ≤ 12) : -(m * 12) ≤ u * A ∧ u * A ≤ m * 12 := prod_bd h1 h2 hm a1 a2

theorem sq_bd {x m : Int} (h1 : -m ≤ x) (h2 : x ≤ m) : 0 ≤ x * x ∧ x * x ≤ m * m := by
  refine ⟨sq_ge x, ?_⟩
  rcases Int.le_total 0 x with h | h
  · exact Int.mul_le_mul h2 h2 h (by omega)
  · have := Int.mul_le_mul (show -x ≤ m by omega) (show -x ≤ m by omega) (by omega) (by omega)
    rwa [Int.neg_mul_neg] at this

theorem near_start {A B n g d a b p q U V : Int} (L : Lat A B n g d a b p q) (u1 : 0 ≤ U) (u2 : U ≤ 287) (v1 : 0 ≤ V) (v2 : V ≤ 11) :
    0 ≤ U * A ∧ U * A ≤ 3444 ∧ 0 ≤ U * B ∧ U * B ≤ 3444 ∧ 0 ≤ V * A ∧ V * A ≤ 132 ∧ 0 ≤ V * B ∧ V * B ≤ 132 ∧ 0 ≤ (U * A + V * B) / n ∧ (U * A + V * B) / n ≤ 4000 ∧ -4000 ≤ (V * A - U * B).tdiv n ∧ (V * A - U * B).tdiv n ≤ 4000 := by
  have a1 := L.a1; have a2 := L.a2; have b1 := L.b1; have b2 := L.b2; have n1 := L.n1
  have h1 : 0 ≤ U * A := Int.mul_nonneg u1 (by omega)
  have h2 := Int.mul_le_mul u2 a2 (by omega) (by omega)
  have h3 : 0 ≤ U * B := Int.mul_nonneg u1 b1
  have h4 := Int.mul_le_mul u2 b2 b1 (by omega)
  have h5 : 0 ≤ V * A := Int.mul_nonneg v1 (by omega)
  have h6 := Int.mul_le_mul v2 a2 (by omega) (by omega)
  have h7 : 0 ≤ V * B := Int.mul_nonneg v1 b1
  have h8 := Int.mul_le_mul v2 b2 b1 (by omega)
  have q1 : 0 ≤ (U * A + V * B) / n := Int.ediv_nonneg (by omega) (by omega)
  have q2 : (U * A + V * B) / n ≤ U * A + V * B := Int.ediv_le_self _ (by omega)
  have q3 : -4000 ≤ (V * A - U * B).tdiv n ∧ (V * A - U * B).tdiv n ≤ 4000 := by
    rcases tdiv_near (Y := V * A - U * B) n1 with e | e
    all_goals (
      rw [e]
      have hlo : -3444 ≤ (V * A - U * B) / n := by
        apply Int.le_ediv_of_mul_le (by omega)
        have : -3444 * n ≤ -3444 * 1 := Int.mul_le_mul_of_nonpos_left (by omega) n1
        omega
      have hhi : (V * A - U * B) / n < 133 := by
        apply Int.ediv_lt_of_lt_mul (by omega)
        have : 133 * 1 ≤ 133 * n := Int.mul_le_mul_of_nonneg_left n1 (by omega)
        omega
      omega)
  omega

theorem round_bd {A B U V I J : Int} (k : Nat) (hk : k < 25) (a1 : 0 ≤ A) (a2 : A ≤ 12) (b1 : 0 ≤ B) (b2 : B ≤ 12) (u1 : 0 ≤ U) (u2 : U ≤ 287) (v1 : 0 ≤ V) (v2 : V ≤ 11) (i1 : -4000 ≤ I) (i2 : I ≤ 4000) (j1 : -4000 ≤ J) (j2 : J ≤ 4000) :
    -60120 ≤ (I + (k : Int) % 5 - 2) * A ∧ (I + (k : Int) % 5 - 2) * A ≤ 60120 ∧ -60120 ≤ (J + (k : Int) / 5 - 2) * B ∧ (J + (k : Int) / 5 - 2) * B ≤ 60120 ∧
    -60120 ≤ (I + (k : Int) % 5 - 2) * B ∧ (I + (k : Int) % 5 - 2) * B ≤ 60120 ∧ -60120 ≤ (J + (k : Int) / 5 - 2) * A ∧ (J + (k : Int) / 5 - 2) * A ≤ 60120 ∧
    0 ≤ (U - (I + (k : Int) % 5 - 2) * A + (J + (k : Int) / 5 - 2) * B) * (U - (I + (k : Int) % 5 - 2) * A + (J + (k : Int) / 5 - 2) * B) ∧ (U - (I + (k : Int) % 5 - 2) * A + (J + (k : Int) / 5 - 2) * B) * (U - (I + (k : Int) % 5 - 2) * A + (J + (k : Int) / 5 - 2) * B) ≤ 40000000000 ∧
    0 ≤ (V - (I + (k : Int) % 5 - 2) * B - (J + (k : Int) / 5 - 2) * A) * (V - (I + (k : Int) % 5 - 2) * B - (J + (k : Int) / 5 - 2) * A) ∧ (V - (I + (k : Int) % 5 - 2) * B - (J + (k : Int) / 5 - 2) * A) * (V - (I + (k : Int) % 5 - 2) * B - (J + (k : Int) / 5 - 2) * A) ≤ 40000000000 := by
  obtain ⟨P, hP⟩ : ∃ P, I + (k : Int) % 5 - 2 = P := ⟨_, rfl⟩
  obtain ⟨Q, hQ⟩ : ∃ Q, J + (k : Int) / 5 - 2 = Q := ⟨_, rfl⟩
  rw [hP, hQ]
  have p1 : -5010 ≤ P := by omega
  have p2 : P ≤ 5010 := by omega
  have q1 : -5010 ≤ Q := by omega
  have q2 : Q ≤ 5010 := by omega
  obtain ⟨e1, e2⟩ := prod_bd p1 p2 (by omega) a1 a2
  obtain ⟨e3, e4⟩ := prod_bd q1 q2 (by omega) b1 b2
  obtain ⟨e5, e6⟩ := prod_bd p1 p2 (by omega) b1 b2
  obtain ⟨e7, e8⟩ := prod_bd q1 q2 (by omega) a1 a2
  obtain ⟨f1, f2⟩ := sq_bd (x := U - P * A + Q * B) (m := 200000) (by omega) (by omega)
  obtain ⟨f3, f4⟩ := sq_bd (x := V - P * B - Q * A) (m := 200000) (by omega) (by omega)
  refine ⟨by omega, by omega, by omega, by omega, by omega, by omega, by omega, by omega, f1, by omega, f3, by omega⟩

end Go.Proofs.Ytflegojobchgdaa
