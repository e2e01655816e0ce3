/-
  Contracts of chapter 3: sizes of matrices, remainders, levels, shifts, quarters (program and model).
-/
import Derived.Test.YtafjpmlakpfidaaSize
import Derived.Test.YtafjpmlakpfidaaM3
namespace Go.Proofs.Ytafjpmlakpfidaa
open Go.RowKit
set_option linter.unusedVariables false
set_option linter.unusedSimpArgs false

set_option maxHeartbeats 400000 in
theorem impl_isMatrixSize (W H : Int) (w : World) :
    Calls Try.prog 53 #[.int .i64 W, .int .i64 H] w fun e w' => e = .returned (.bool (matSize W H)) ∧ w = w' := by
  by_cases c : 1 ≤ W ∧ W ≤ 256 ∧ 1 ≤ H ∧ H ≤ 256
  · obtain ⟨h1, h2, h3, h4⟩ := c
    rw [matSize_in h1 h2 h3 h4]
    obtain ⟨m1, m2⟩ := mul_bdM W H h1 h2 h3 h4
    go_enter Try.func53, Try.ntmps53
    go_wp2
    all_goals (go_ret; exact ⟨rfl, rfl⟩)
  · rw [matSize_out c]
    go_enter Try.func53, Try.ntmps53
    go_wp2
    all_goals (go_ret; first | exact ⟨rfl, rfl⟩ | (exfalso; exact c ⟨by omega, by omega, by omega, by omega⟩))

set_option maxHeartbeats 400000 in
theorem spec_l2Shape (W H : Int) (w : World) :
    Calls Try.prog 48 #[.int .i64 W, .int .i64 H] w fun e w' => e = .returned (.bool (matSize W H)) ∧ w = w' := by
  by_cases c : 1 ≤ W ∧ W ≤ 256 ∧ 1 ≤ H ∧ H ≤ 256
  · obtain ⟨h1, h2, h3, h4⟩ := c
    rw [matSize_in h1 h2 h3 h4]
    obtain ⟨m1, m2⟩ := mul_bdM W H h1 h2 h3 h4
    go_enter Try.func48, Try.ntmps48
    go_wp2
    all_goals (go_ret; exact ⟨rfl, rfl⟩)
  · rw [matSize_out c]
    go_enter Try.func48, Try.ntmps48
    go_wp2
    all_goals (go_ret; first | exact ⟨rfl, rfl⟩ | (exfalso; exact c ⟨by omega, by omega, by omega, by omega⟩))

theorem impl_isMatrixSize_yes (W H : Int) (w : World) (h : matSize W H = true) :
    Calls Try.prog 53 #[.int .i64 W, .int .i64 H] w fun e w' => e = .returned (.bool true) ∧ w = w' :=
  (impl_isMatrixSize W H w).mono fun e w' ⟨he, hw⟩ => ⟨by rw [he, h], hw⟩

theorem impl_isMatrixSize_no (W H : Int) (w : World) (h : ¬ matSize W H = true) :
    Calls Try.prog 53 #[.int .i64 W, .int .i64 H] w fun e w' => e = .returned (.bool false) ∧ w = w' :=
  (impl_isMatrixSize W H w).mono fun e w' ⟨he, hw⟩ => ⟨by rw [he]; exact ret_bool (by simpa using h), hw⟩

theorem spec_l2Shape_yes (W H : Int) (w : World) (h : matSize W H = true) :
    Calls Try.prog 48 #[.int .i64 W, .int .i64 H] w fun e w' => e = .returned (.bool true) ∧ w = w' :=
  (spec_l2Shape W H w).mono fun e w' ⟨he, hw⟩ => ⟨by rw [he, h], hw⟩

theorem spec_l2Shape_no (W H : Int) (w : World) (h : ¬ matSize W H = true) :
    Calls Try.prog 48 #[.int .i64 W, .int .i64 H] w fun e w' => e = .returned (.bool false) ∧ w = w' :=
  (spec_l2Shape W H w).mono fun e w' ⟨he, hw⟩ => ⟨by rw [he]; exact ret_bool (by simpa using h), hw⟩

theorem tmod_neg {a n : Int} (h : a < 0) (hn : 1 ≤ n) : -n < a.tmod n ∧ a.tmod n ≤ 0 ∧ (a.tmod n < 0 → a.tmod n + n = a % n) ∧ (¬ a.tmod n < 0 → a.tmod n = a % n) := by
  obtain ⟨b, rfl⟩ : ∃ b : Int, a = -b := ⟨-a, by omega⟩
  have e0 : (-b).tmod n = -(b % n) := by rw [Int.neg_tmod, Int.tmod_eq_emod_of_nonneg (by omega)]
  have e1 : 0 ≤ b % n := Int.emod_nonneg _ (by omega)
  have e2 : b % n < n := Int.emod_lt_of_pos _ (by omega)
  rw [e0]
  refine ⟨by omega, by omega, fun h1 => ?_, fun h1 => ?_⟩
  · have e3 : -b = (n - b % n) + n * (-(b / n) - 1) := by
      have := Int.mul_ediv_add_emod b n
      rw [Int.mul_sub, Int.mul_neg]
      omega
    have e4 : (-b) % n = n - b % n := by
      rw [e3, Int.add_mul_emod_self_left, Int.emod_eq_of_lt (by omega) (by omega)]
    rw [e4]; omega
  · have e5 : b % n = 0 := by omega
    have e6 : (-b) % n = 0 := Int.emod_eq_zero_of_dvd (Int.dvd_neg.2 (Int.dvd_of_emod_eq_zero e5))
    omega

set_option maxHeartbeats 400000 in
theorem impl_remainder (a n : Int) (w : World) (h : 1 ≤ n) (h2 : n ≤ 9223372036854775807) :
    Calls Try.prog 59 #[.int .i64 a, .int .i64 n] w fun e w' => e = .returned (.int .i64 (a % n)) ∧ w = w' := by
  by_cases ha : 0 ≤ a
  · have e1 : 0 ≤ a % n := Int.emod_nonneg _ (by omega)
    have e2 : a % n < n := Int.emod_lt_of_pos _ (by omega)
    go_enter Try.func59, Try.ntmps59
    go_wp2
    go_ret
    exact ⟨rfl, rfl⟩
  · obtain ⟨t1, t2, t3, t4⟩ := tmod_neg (a := a) (n := n) (by omega) h
    have H3 := Lib.hid t3
    have H4 := Lib.hid t4
    clear t3 t4
    by_cases hr : a.tmod n < 0
    · go_enter Try.func59, Try.ntmps59
      go_wp2
      go_ret
      exact ⟨ret_int (H3.out hr), rfl⟩
    · go_enter Try.func59, Try.ntmps59
      go_wp2
      go_ret
      exact ⟨ret_int (H4.out hr), rfl⟩

end Go.Proofs.Ytafjpmlakpfidaa
