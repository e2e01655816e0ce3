/-
  Contracts of the doubling at matrices that are valid, as the laws call it.
-/
import Derived.Test.YtdcengccdoohbaaM8
import Derived.Test.YtdcengccdoohbaaR8
import Derived.Test.YtdcengccdoohbaaD7b
namespace Go.Proofs.Ytdcengccdoohbaa
open Go.RowKit
set_option linter.unusedVariables false
set_option linter.unusedSimpArgs false

theorem dbl_call (W H : Int) (a : Option Addr) (n cp : Nat) (xs : List Int) (m : Nat) (w : World) (hl : xs.length = n) (ha : Rd w a xs) (mk : matOk W H xs = true) (hn : n ≤ 9223372036854775807) (hm : m = 4 * n) (h4 : 4 * n ≤ 256) :
    Calls Try.prog 38 #[.agg #[.int .i64 W, .int .i64 H, .slice a n cp]] w fun e w' =>
      ∃ a' c', e = .returned (.tuple #[.agg #[.int .i64 (2 * W), .int .i64 (2 * H), .slice a' m c'], .bool true]) ∧ OwnA w' w.heap.size a' m c' (gen m (dblG W H xs)) ∧ Below w.heap.size w w' := by
  refine (impl_DoubleMatrix W H a n cp xs w hl ha hn).mono ?_
  rintro e w' ⟨a', n', c', he, ho, hn', hb⟩
  rw [doubleF_yes mk (by rw [hl]; exact h4)] at he ho
  have ho2 : OwnA w' w.heap.size a' n' c' (gen m (dblG W H xs)) := by
    have h : (dblM ⟨W, H, xs⟩).ranks = gen m (dblG W H xs) := by unfold dblM; simp only [hl]; rw [hm]
    rw [← h]; exact ho
  have hm2 : n' = m := by have := ho2.len; rw [gen_len] at this; exact this.symm
  subst hm2
  exact ⟨a', c', he, ho2, hb⟩

theorem dbl_no (W H : Int) (a : Option Addr) (n cp : Nat) (xs : List Int) (w : World) (hl : xs.length = n) (ha : Rd w a xs) (hn : n ≤ 9223372036854775807) (h4 : ¬ 4 * n ≤ 256) :
    Calls Try.prog 38 #[.agg #[.int .i64 W, .int .i64 H, .slice a n cp]] w fun e w' =>
      ∃ a' n' c', e = .returned (.tuple #[.agg #[.int .i64 0, .int .i64 0, .slice a' n' c'], .bool false]) ∧ OwnA w' w.heap.size a' n' c' [] ∧ Below w.heap.size w w' := by
  refine (impl_DoubleMatrix W H a n cp xs w hl ha hn).mono ?_
  rintro e w' ⟨a', n', c', he, ho, hn', hb⟩
  rw [doubleF_no (by rw [hl]; exact fun h => h4 h.2)] at he ho
  exact ⟨a', n', c', he, ho, hb⟩

end Go.Proofs.Ytdcengccdoohbaa
