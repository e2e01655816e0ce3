/-
  Contracts of chapter 5: the two kernels, as answers of their own.
-/
import Derived.Test.YtepaklcobkdfdaaK4
namespace Go.Proofs.Ytepaklcobkdfdaa
open Go.RowKit
set_option linter.unusedVariables false
set_option linter.unusedSimpArgs false

/-- A list of parts is handed back. -/
def PartsOut (w : World) (xs : List Int) (e : Ending) (w' : World) : Prop :=
  ∃ a n c, e = .returned (.slice a n c) ∧ RowA w' 31 3 w.heap.size a n c xs ∧ n ≤ 1048576 ∧ Below w.heap.size w w'

theorem spec_SteinKernelA (w : World) : Calls Try.prog 68 #[] w (PartsOut w (flat steinK)) :=
  (spec_SteinKernel w).mono fun e w' ⟨g, h1, h2, h3, h4⟩ => ⟨_, 4, 4, h1, .mk h3 h2, by omega, h4⟩

theorem spec_PlainKernelA (w : World) : Calls Try.prog 69 #[] w (PartsOut w (flat plainK)) :=
  (spec_PlainKernel w).mono fun e w' ⟨g, h1, h2, h3, h4⟩ => ⟨_, 1, 1, h1, .mk h3 h2, by omega, h4⟩
theorem impl_SteinKernelA (w : World) : Calls Try.prog 31 #[] w (PartsOut w (flat steinK)) :=
  (impl_SteinKernel w).mono fun e w' ⟨g, h1, h2, h3, h4⟩ => ⟨_, 4, 4, h1, .mk h3 h2, by omega, h4⟩

theorem impl_PlainKernelA (w : World) : Calls Try.prog 44 #[] w (PartsOut w (flat plainK)) :=
  (impl_PlainKernel w).mono fun e w' ⟨g, h1, h2, h3, h4⟩ => ⟨_, 1, 1, h1, .mk h3 h2, by omega, h4⟩

end Go.Proofs.Ytepaklcobkdfdaa
