/-
  Contracts of chapter 3: levels, CellsBelow (program and model).
-/
import Derived.Test.YtafjpmlakpfidaaD5
import Derived.Test.YtafjpmlakpfidaaC3
namespace Go.Proofs.Ytafjpmlakpfidaa
open Go.RowKit
set_option linter.unusedVariables false
set_option linter.unusedSimpArgs false

theorem filled_skip (ys xs : List Int) (k : Nat) (hk : k < ys.length) (hx : k < xs.length) (hv : ys.getD k 0 = xs.getD k 0) : filled ys xs k = filled ys xs (k + 1) := by
  rw [← filled_succ ys xs k _ hk hx rfl, hv]
  apply List.ext_getElem?
  intro i
  rw [List.getElem?_set]
  by_cases h : k = i
  · subst h
    have e : (filled ys xs k)[k]? = some (xs.getD k 0) := by
      simp only [filled]
      rw [List.getElem?_append_right (by simp; omega), List.getElem?_drop]
      simp only [List.length_take]
      rw [Nat.min_eq_left (by omega), Nat.sub_self, Nat.add_zero]
      simp [List.getD, hx]
    have e2 : k < (filled ys xs k).length := (List.getElem?_eq_some_iff.1 e).1
    rw [if_pos rfl, if_pos e2, e]
  · rw [if_neg h]

end Go.Proofs.Ytafjpmlakpfidaa
