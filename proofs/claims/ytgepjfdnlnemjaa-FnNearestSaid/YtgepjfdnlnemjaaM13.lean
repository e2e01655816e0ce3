/-
  The plate with dots where the amount is at least 128 has the least error; nothing of the program.
-/
import Derived.Test.YtgepjfdnlnemjaaM12
namespace Go.Proofs.Ytgepjfdnlnemjaa
set_option linter.unusedVariables false
set_option linter.unusedSimpArgs false

def bestG (xs : List Int) (i : Nat) : Int := if 128 ≤ xs[i]?.getD 0 then 1 else 0
def bestD (v : Int) : Int := if 128 ≤ v then (255 - v) * (255 - v) else v * v
def bestS (xs : List Int) : Nat → Int
  | 0 => 0
  | k + 1 => bestS xs k + bestD (xs[k]?.getD 0)

theorem bestD_bd {v : Int} (h0 : 0 ≤ v) (h1 : v ≤ 255) : 0 ≤ bestD v ∧ bestD v ≤ 65025 := by
  unfold bestD
  split
  · exact sq_bd (by omega) (by omega)
  · exact sq_bd (by omega) (by omega)

theorem bestS_bd {xs : List Int} (hx : within xs 255 = true) (k : Nat) (hk : k ≤ xs.length) : 0 ≤ bestS xs k ∧ bestS xs k ≤ 65025 * k := by
  induction k with
  | zero => simp [bestS]
  | succ k ih =>
    have h := ih (by omega)
    obtain ⟨v0, v1⟩ := within_at hx k (by omega)
    have := bestD_bd v0 v1
    simp only [bestS]
    omega

theorem bestG_bd (xs : List Int) (i : Nat) : 0 ≤ bestG xs i ∧ bestG xs i ≤ 1 := by unfold bestG; split <;> omega

theorem best_err {xs : List Int} {n : Nat} (k : Nat) (hk : k ≤ n) : errS xs (gen n (bestG xs)) k = bestS xs k := by
  induction k with
  | zero => rfl
  | succ k ih =>
    simp only [errS, bestS]
    rw [ih (by omega)]
    have e : (gen n (bestG xs))[k]?.getD 0 = bestG xs k := gen_get n _ k (by omega)
    unfold errD
    rw [e]
    unfold bestG bestD
    split
    · rw [Int.mul_one]
    · rw [Int.mul_zero, Int.zero_sub, Int.neg_mul_neg]

theorem sq_le {a b : Int} (h0 : 0 ≤ a) (h : a ≤ b) : a * a ≤ b * b := Int.mul_le_mul h h h0 (by omega)

theorem best_le {xs ys : List Int} (hx : within xs 255 = true) (hy : within ys 1 = true) (k : Nat) (h1 : k ≤ xs.length) (h2 : k ≤ ys.length) : bestS xs k ≤ errS xs ys k := by
  induction k with
  | zero => exact Int.le_refl _
  | succ k ih =>
    have h := ih (by omega) (by omega)
    obtain ⟨v0, v1⟩ := within_at hx k (by omega)
    obtain ⟨y0, y1⟩ := within_at hy k (by omega)
    simp only [errS, bestS]
    have hd : bestD (xs[k]?.getD 0) ≤ errD xs ys k * errD xs ys k := by
      unfold errD bestD
      generalize xs[k]?.getD 0 = v at *
      by_cases hz : ys[k]?.getD 0 = 0
      · rw [hz, Int.mul_zero, Int.zero_sub, Int.neg_mul_neg]
        split
        · exact sq_le (by omega) (by omega)
        · exact Int.le_refl _
      · have h1 : ys[k]?.getD 0 = 1 := by omega
        rw [h1, Int.mul_one]
        split
        · exact Int.le_refl _
        · exact sq_le (by omega) (by omega)
    omega

theorem best_plate {W H : Int} {xs : List Int} {n : Nat} (hs : sizeOk W H = true) (hq : (n : Int) = W * H) : picOk W H (gen n (bestG xs)) 1 = true := by
  rw [picOk_in (gen_len _ _) hs hq]
  unfold within gen
  rw [List.all_eq_true]
  intro v hv
  obtain ⟨i, hi, rfl⟩ := List.mem_map.1 hv
  have := bestG_bd xs i
  simpa using this

theorem best_errF {W H : Int} {xs : List Int} {n : Nat} (hs : sizeOk W H = true) (hq : (n : Int) = W * H) (hp : picOk W H xs 255 = true) (hp2 : picOk W H (gen n (bestG xs)) 255 = true) (hpp : pairOk W H xs W H (gen n (bestG xs)) = true) : errF W H xs W H (gen n (bestG xs)) = bestS xs n := by
  rw [errF_yes (gen_len _ _) hpp (best_plate hs hq), best_err n (Nat.le_refl _)]

end Go.Proofs.Ytgepjfdnlnemjaa
