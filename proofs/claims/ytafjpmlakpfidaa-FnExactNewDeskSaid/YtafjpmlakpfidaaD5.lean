/-
  Contracts of chapter 3: RankAt, ReverseMatrix (program and model).
-/
import Derived.Test.YtafjpmlakpfidaaD4
namespace Go.Proofs.Ytafjpmlakpfidaa
open Go.RowKit
set_option linter.unusedVariables false
set_option linter.unusedSimpArgs false

theorem gen_map (xs : List Int) (f : Int → Int) (n : Nat) (h : xs.length = n) : xs.map f = gen n (fun i => f (xs[i]?.getD 0)) := by
  refine gen_ext n _ _ (by simpa using h) (fun k hk => ?_)
  exact map_get xs f k (by omega)

end Go.Proofs.Ytafjpmlakpfidaa
