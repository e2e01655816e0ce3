/-
  Contracts: sizes and amounts of a picture, in the program and in the model.
-/
import Derived.Test.YtdpmapgeacnheaaPic
import Derived.Test.YtdpmapgeacnheaaM1
import Derived.BigGuardPart
namespace Go.Proofs.Ytdpmapgeacnheaa
open Go.RowKit
set_option linter.unusedVariables false
set_option linter.unusedSimpArgs false

set_option maxHeartbeats 400000 in
theorem impl_isSize (W H : Int) (w : World) :
    Calls Try.prog 68 #[.int .i64 W, .int .i64 H] w fun e w' => e = .returned (.bool (sizeOk W H)) ∧ w = w' := by
  by_cases c : 1 ≤ W ∧ W ≤ 64 ∧ 1 ≤ H ∧ H ≤ 64
  · obtain ⟨h1, h2, h3, h4⟩ := c
    rw [sizeOk_in h1 h2 h3 h4]
    obtain ⟨m1, m2⟩ := mul_bd W H h1 h2 h3 h4
    go_enter Try.func68, Try.ntmps68
    go_wp2
    all_goals (go_ret; exact ⟨rfl, rfl⟩)
  · rw [sizeOk_out c]
    go_enter Try.func68, Try.ntmps68
    go_wp2
    all_goals (go_ret; first | exact ⟨rfl, rfl⟩ | (exfalso; exact c ⟨by omega, by omega, by omega, by omega⟩))

set_option maxHeartbeats 400000 in
theorem spec_l1In (x a b : Int) (w : World) :
    Calls Try.prog 50 #[.int .i64 x, .int .i64 a, .int .i64 b] w fun e w' => e = .returned (.bool (decide (a ≤ x ∧ x ≤ b))) ∧ w = w' := by
  go_enter Try.func50, Try.ntmps50
  go_wp2
  all_goals (go_ret; exact ⟨ret_bool (by first | (simp [*]; done) | (simp [*]; omega) | (simp; intros; omega)), rfl⟩)

set_option maxHeartbeats 400000 in
theorem spec_l1Size (W H : Int) (w : World) :
    Calls Try.prog 66 #[.int .i64 W, .int .i64 H] w fun e w' => e = .returned (.bool (sizeOk W H)) ∧ w = w' := by
  by_cases c : 1 ≤ W ∧ W ≤ 64 ∧ 1 ≤ H ∧ H ≤ 64
  · obtain ⟨h1, h2, h3, h4⟩ := c
    rw [sizeOk_in h1 h2 h3 h4]
    obtain ⟨m1, m2⟩ := mul_bd W H h1 h2 h3 h4
    go_enter Try.func66, Try.ntmps66
    go_wp2
    all_goals (go_ret; exact ⟨rfl, rfl⟩)
  · rw [sizeOk_out c]
    go_enter Try.func66, Try.ntmps66
    go_wp2
    all_goals (go_ret; first | exact ⟨rfl, rfl⟩ | (exfalso; exact c ⟨by omega, by omega, by omega, by omega⟩))

end Go.Proofs.Ytdpmapgeacnheaa
