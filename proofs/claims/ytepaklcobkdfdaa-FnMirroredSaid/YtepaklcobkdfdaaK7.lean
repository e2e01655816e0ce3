/-
  Contracts of chapter 5: the shares of an error, of the program and of the model.
-/
import Derived.Test.YtepaklcobkdfdaaK4
import Derived.Test.YtepaklcobkdfdaaD3
namespace Go.Proofs.Ytepaklcobkdfdaa
open Go.RowKit
set_option linter.unusedVariables false
set_option linter.unusedSimpArgs false

theorem neg_down {a n : Int} (hn : 1 ≤ n) : -((-a + n - 1) / n) = a / n := by
  have h1 := Int.emod_add_mul_ediv a n
  have h2 := Int.emod_nonneg a (show n ≠ 0 by omega)
  have h3 := Int.emod_lt_of_pos a (show 0 < n by omega)
  have e : -a + n - 1 = (n - 1 - a % n) + n * (-(a / n)) := by rw [Int.mul_neg]; omega
  rw [e, Int.add_mul_ediv_left _ _ (by omega), Int.ediv_eq_zero_of_lt (by omega) (by omega)]
  omega

set_option maxHeartbeats 400000 in
theorem impl_dividedDown (a n : Int) (w : World) (h1 : 1 ≤ n) (h2 : n ≤ 100000) (h3 : -100000000 ≤ a) (h4 : a ≤ 100000000) :
    Calls Try.prog 70 #[.int .i64 a, .int .i64 n] w fun e w' => e = .returned (.int .i64 (a / n)) ∧ w = w' := by
  have z1 : ¬ n = 0 := by omega
  have z2 : (n == 0) = false := by simp; omega
  by_cases ha : a < 0
  · have b1 : 0 ≤ (-a + n - 1) / n := Int.ediv_nonneg (by omega) (by omega)
    have b2 : (-a + n - 1) / n ≤ -a + n - 1 := Int.ediv_le_self _ (by omega)
    go_enter Try.func70, Try.ntmps70
    go_wp2_with fail
    go_ret
    exact ⟨ret_int (neg_down h1), rfl⟩
  · have b1 : 0 ≤ a / n := Int.ediv_nonneg (by omega) (by omega)
    have b2 : a / n ≤ a := Int.ediv_le_self _ (by omega)
    go_enter Try.func70, Try.ntmps70
    go_wp2_with fail
    go_ret
    exact ⟨rfl, rfl⟩

theorem quo_exact {V W : Int} (hW : 1 ≤ W) : (V - V % W).tdiv W = V / W := by
  have h1 := Int.emod_add_mul_ediv V W
  rw [show V - V % W = W * (V / W) by omega]
  exact Int.mul_tdiv_cancel_left _ (by omega)

/-- A list of numbers is handed back. -/
def ListOut (w : World) (xs : List Int) (e : Ending) (w' : World) : Prop :=
  ∃ a n c, e = .returned (.slice a n c) ∧ OwnA w' w.heap.size a n c xs ∧ n ≤ 1048576 ∧ Below w.heap.size w w'

theorem gen_set0 {n : Nat} {f : Nat → Int} {v : Int} {ks : List Prt} {W e : Int} (hn : ks.length = n) (h1 : 1 ≤ n) (hv : v = (gen n (shareB ks W e)).getD 0 0 + (e - shSum ks W e n)) : (gen n (shareB ks W e)).set 0 v = sharesG ks W e := by
  subst hv
  rw [gen_get _ _ _ (by omega)]
  unfold sharesG
  rw [hn]

end Go.Proofs.Ytepaklcobkdfdaa
