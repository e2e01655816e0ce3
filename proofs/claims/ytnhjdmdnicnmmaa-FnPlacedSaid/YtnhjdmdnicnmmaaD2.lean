/-
  Contracts of chapter 3: blank matrices, ranks at places, quarters (program and model).
-/
import Derived.Test.YtnhjdmdnicnmmaaD1
import Derived.Deep.QuietTactic
import Derived.BigQuiet
namespace Go.Proofs.Ytnhjdmdnicnmmaa
open Go.RowKit
set_option linter.unusedVariables false
set_option linter.unusedSimpArgs false

set_option maxHeartbeats 400000 in
theorem impl_blankM (W H : Int) (n : Nat) (w : World) (hs : matSize W H = true) (hn : (n : Int) = W * H) :
    Calls Try.prog 29 #[.int .i64 W, .int .i64 H] w fun e w' => ∃ g, e = .returned (.agg #[.int .i64 W, .int .i64 H, .slice (some ⟨g, 0, none⟩) n n]) ∧ w.heap.size ≤ g ∧ Own w' g n n (List.replicate n 0) ∧ Below w.heap.size w w' := by
  obtain ⟨b1, b2, b3, b4, b5, b6⟩ := matSize_bd hs
  have HN := Lib.hid hn
  have hn2 : n ≤ 256 := by omega
  clear hn
  go_enter Try.func29, Try.ntmps29
  go_wp2_with (at_make; refine wp_make _ rfl _ _ rfl .i64 .i64 (W * H) (W * H) n rfl rfl HN.out.symm HN.out.symm (by omega) ?_; intro M hM)
  have HM := Lib.hid hM
  clear hM
  refine bodyPost_ret (v := .agg #[.int .i64 W, .int .i64 H, .slice (some ⟨w.heap.size + 1, 0, none⟩) n n]) (by simp [results, Try.results29, go_sem]) rfl ⟨w.heap.size + 1, rfl, by omega, ?_, ?_⟩
  · exact HM.out.own' _ (by simp)
  · exact Joins.below_alloc2 _ _ _

end Go.Proofs.Ytnhjdmdnicnmmaa
