/-
  Contracts of chapter 3: blank matrices, ranks at places, quarters (program and model).
-/
import Derived.Test.YtafjpmlakpfidaaD1
import Derived.Deep.QuietTactic
import Derived.BigQuiet
namespace Go.Proofs.Ytafjpmlakpfidaa
open Go.RowKit
set_option linter.unusedVariables false
set_option linter.unusedSimpArgs false

set_option maxHeartbeats 400000 in
theorem impl_blankM (W H : Int) (n : Nat) (w : World) (hs : matSize W H = true) (hn : (n : Int) = W * H) :
    Calls Try.prog 41 #[.int .i64 W, .int .i64 H] w fun e w' => ∃ g, e = .returned (.agg #[.int .i64 W, .int .i64 H, .slice (some ⟨g, 0, none⟩) n n]) ∧ w.heap.size ≤ g ∧ Own w' g n n (List.replicate n 0) ∧ Below w.heap.size w w' := by
  obtain ⟨b1, b2, b3, b4, b5, b6⟩ := matSize_bd hs
  have HN := Lib.hid hn
  have hn2 : n ≤ 256 := by omega
  clear hn
  go_enter Try.func41, Try.ntmps41
  go_wp2_with (at_make; refine wp_make _ rfl _ _ rfl .i64 .i64 (W * H) (W * H) n rfl rfl HN.out.symm HN.out.symm (by omega) ?_; intro M hM)
  have HM := Lib.hid hM
  clear hM
  refine bodyPost_ret (v := .agg #[.int .i64 W, .int .i64 H, .slice (some ⟨w.heap.size + 1, 0, none⟩) n n]) (by simp [results, Try.results41, go_sem]) rfl ⟨w.heap.size + 1, rfl, by omega, ?_, ?_⟩
  · exact HM.out.own' _ (by simp)
  · exact Joins.below_alloc2 _ _ _

set_option maxHeartbeats 400000 in
theorem impl_wrappedRank (W H : Int) (ad : Option Addr) (n cap : Nat) (xs : List Int) (x y : Int) (w : World) (hl : xs.length = n) (ha : Rd w ad xs) (hn : (n : Int) = W * H) (hW : 1 ≤ W) (hH : 1 ≤ H) (hm : n ≤ 256) (hW2 : W ≤ 256) (hH2 : H ≤ 256) :
    Calls Try.prog 56 #[.agg #[.int .i64 W, .int .i64 H, .slice ad n cap], .int .i64 x, .int .i64 y] w fun e w' => e = .returned (.int .i64 (rankOf W H xs x y)) ∧ Below w.heap.size w w' := by
  obtain ⟨i1, i2, i3, i4⟩ := rank_idx hn hW hH x y
  obtain ⟨x0, x1⟩ := mod_bd x hW
  obtain ⟨y0, y1⟩ := mod_bd y hH
  obtain ⟨ba, oa, hae, hal, hac⟩ := (ha.alloc (.cells #[.int .i64 W, .int .i64 H, .slice ad n cap] 26)).at (by omega)
  have hc := hac (y % H * W + x % W).toNat (by omega)
  have hal2 : ba < w.heap.size + 1 := by simpa using hal
  subst hae
  have HN := Lib.hid hn
  have HL := Lib.hid hl
  clear hac ha hn hl hal
  go_enter Try.func56, Try.ntmps56
  go_wp2_with fail
  go_quiet ((refine Calls.quiet_of_same ((impl_remainder _ _ _ ?_ ?_).mono (fun e w' h => ⟨h.1, h.2.symm⟩)) <;> omega))
  go_wp2_with fail
  go_ret
  exact ⟨rfl, (Joins.below_alloc1 _ _).trans (Joins.below_draws _ _ _)⟩

set_option maxHeartbeats 400000 in
theorem impl_quarter (a b : Int) (w : World) (h1 : 0 ≤ a) (h2 : a ≤ 1) (h3 : 0 ≤ b) (h4 : b ≤ 1) :
    Calls Try.prog 57 #[.int .i64 a, .int .i64 b] w fun e w' => e = .returned (.int .i64 (quarter a b)) ∧ w = w' := by
  by_cases ha : a = 0
  · subst ha
    by_cases hb : b = 0
    · subst hb
      have hx : bits BinOp.xor IntKind.i64 0 0 = 0 := by decide
      go_enter Try.func57, Try.ntmps57
      go_wp2
      go_ret
      exact ⟨rfl, rfl⟩
    · obtain rfl : b = 1 := by omega
      have hx : bits BinOp.xor IntKind.i64 0 1 = 1 := by decide
      go_enter Try.func57, Try.ntmps57
      go_wp2
      go_ret
      exact ⟨rfl, rfl⟩
  · obtain rfl : a = 1 := by omega
    by_cases hb : b = 0
    · subst hb
      have hx : bits BinOp.xor IntKind.i64 1 0 = 1 := by decide
      go_enter Try.func57, Try.ntmps57
      go_wp2
      go_ret
      exact ⟨rfl, rfl⟩
    · obtain rfl : b = 1 := by omega
      have hx : bits BinOp.xor IntKind.i64 1 1 = 0 := by decide
      go_enter Try.func57, Try.ntmps57
      go_wp2
      go_ret
      exact ⟨rfl, rfl⟩

end Go.Proofs.Ytafjpmlakpfidaa
