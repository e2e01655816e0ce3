/-
  Contracts of chapter 8: BlendOf (program and model).
-/
import Derived.Test.YtkjhpfgcmbigfaaW17
namespace Go.Proofs.Ytkjhpfgcmbigfaa
open Go.RowKit
set_option linter.unusedVariables false
set_option linter.unusedSimpArgs false

/-- Two numbers and whether they are any. -/
def BlendOut (w : World) (R : Int × Int × Bool) (e : Ending) (w' : World) : Prop := e = .returned (.tuple #[.int .i64 R.1, .int .i64 R.2.1, .bool R.2.2]) ∧ Below w.heap.size w w'

end Go.Proofs.Ytkjhpfgcmbigfaa
