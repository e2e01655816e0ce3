/-
  Contracts of chapter 3: doubled matrices (program and model).
-/
import Derived.Test.YtnhjdmdnicnmmaaD6b
namespace Go.Proofs.Ytnhjdmdnicnmmaa
open Go.RowKit
set_option linter.unusedVariables false
set_option linter.unusedSimpArgs false
attribute [local go_sem ↓] Go.wp_at_zero Go.wp_at_succ

def qraw (a b : Int) : Int := wrap64 (wrap64 (2 * bits BinOp.xor IntKind.i64 a b) + b)

theorem qraw_quarter {a b : Int} (h1 : 0 ≤ a) (h2 : a ≤ 1) (h3 : 0 ≤ b) (h4 : b ≤ 1) : qraw a b = quarter a b := by
  by_cases ha : a = 0
  · subst ha
    by_cases hb : b = 0
    · subst hb; decide +kernel
    · obtain rfl : b = 1 := by omega
      decide +kernel
  · obtain rfl : a = 1 := by omega
    by_cases hb : b = 0
    · subst hb; decide +kernel
    · obtain rfl : b = 1 := by omega
      decide +kernel

theorem half_bd {x W : Int} (hW : 1 ≤ W) (h0 : 0 ≤ x) (h1 : x < 2 * W) : 0 ≤ x / W ∧ x / W ≤ 1 := by
  constructor
  · exact Int.ediv_nonneg h0 (by omega)
  · have : x / W < 2 := Int.ediv_lt_of_lt_mul (by omega) (by omega)
    omega

theorem dbl_xy {W H : Int} {n k : Nat} (hn : (n : Int) = W * H) (hW : 1 ≤ W) (hH : 1 ≤ H) (hk : k < 4 * n) :
    0 ≤ (k : Int) % (2 * W) ∧ (k : Int) % (2 * W) < 2 * W ∧ 0 ≤ (k : Int) / (2 * W) ∧ (k : Int) / (2 * W) < 2 * H ∧ (k : Int) / (2 * W) ≤ k := by
  refine ⟨Int.emod_nonneg _ (by omega), Int.emod_lt_of_pos _ (by omega), Int.ediv_nonneg (by omega) (by omega), ?_, Int.ediv_le_self _ (by omega)⟩
  refine Int.ediv_lt_of_lt_mul (by omega) ?_
  have e : 2 * H * (2 * W) = 4 * (W * H) := by
    rw [Int.mul_assoc, Int.mul_left_comm H 2 W, ← Int.mul_assoc, Int.mul_comm H W]; rfl
  rw [e, ← hn]
  omega

theorem dbl_size {W H : Int} {n : Nat} (hn : (n : Int) = W * H) (hW : 1 ≤ W) (hH : 1 ≤ H) (hm : 4 * n ≤ 256) : matSize (2 * W) (2 * H) = true ∧ ((4 * n : Nat) : Int) = 2 * W * (2 * H) ∧ W ≤ 64 ∧ H ≤ 64 := by
  have e : 2 * W * (2 * H) = 4 * (W * H) := by
    rw [Int.mul_assoc, Int.mul_left_comm W 2 H, ← Int.mul_assoc]; rfl
  have e1 : W * 1 ≤ W * H := Int.mul_le_mul_of_nonneg_left hH (by omega)
  have e2 : 1 * H ≤ W * H := Int.mul_le_mul_of_nonneg_right hW (by omega)
  refine ⟨matSize_mk (by omega) (by omega) (by rw [e]; omega), by rw [e]; omega, by omega, by omega⟩

theorem div_lo {x W : Int} (h0 : 0 ≤ x) (h1 : x < W) : x / W = 0 := Int.ediv_eq_zero_of_lt h0 h1

theorem div_hi {x W : Int} (hW : 1 ≤ W) (h0 : x < 2 * W) (h1 : ¬ x < W) : x / W = 1 := by
  have e1 : 1 ≤ x / W := (Int.le_ediv_iff_mul_le (by omega)).2 (by omega)
  have e2 : x / W < 2 := Int.ediv_lt_of_lt_mul (by omega) (by omega)
  omega

theorem quarter_00 {x y W H : Int} (hW : 1 ≤ W) (hH : 1 ≤ H) (x0 : 0 ≤ x) (x1 : x < W) (y0 : 0 ≤ y) (y1 : y < H) : quarter (x / W) (y / H) = 0 := by rw [div_lo x0 x1, div_lo y0 y1]; rfl

theorem quarter_01 {x y W H : Int} (hW : 1 ≤ W) (hH : 1 ≤ H) (x0 : 0 ≤ x) (x1 : x < W) (y0 : y < 2 * H) (y1 : ¬ y < H) : quarter (x / W) (y / H) = 3 := by rw [div_lo x0 x1, div_hi hH y0 y1]; rfl

theorem quarter_10 {x y W H : Int} (hW : 1 ≤ W) (hH : 1 ≤ H) (x0 : x < 2 * W) (x1 : ¬ x < W) (y0 : 0 ≤ y) (y1 : y < H) : quarter (x / W) (y / H) = 2 := by rw [div_hi hW x0 x1, div_lo y0 y1]; rfl

theorem quarter_11 {x y W H : Int} (hW : 1 ≤ W) (hH : 1 ≤ H) (x0 : x < 2 * W) (x1 : ¬ x < W) (y0 : y < 2 * H) (y1 : ¬ y < H) : quarter (x / W) (y / H) = 1 := by rw [div_hi hW x0 x1, div_hi hH y0 y1]; rfl

end Go.Proofs.Ytnhjdmdnicnmmaa
