/-
  Contracts of chapter 4: ScreenShifted (program and model).
-/
import Derived.Test.YtgepjfdnlnemjaaD15
namespace Go.Proofs.Ytgepjfdnlnemjaa
open Go.RowKit
set_option linter.unusedVariables false
set_option linter.unusedSimpArgs false

theorem box3 (w : World) (T1 T2 T3 : Nat) (A B C : Array Value) :
    Blk (((w.alloc (.cells A T1)).alloc (.cells B T2)).alloc (.cells C T3)) w.heap.size T1 A ∧
    Blk (((w.alloc (.cells A T1)).alloc (.cells B T2)).alloc (.cells C T3)) (w.heap.size + 1) T2 B ∧
    Blk (((w.alloc (.cells A T1)).alloc (.cells B T2)).alloc (.cells C T3)) (w.heap.size + 1 + 1) T3 C ∧
    Below w.heap.size w (((w.alloc (.cells A T1)).alloc (.cells B T2)).alloc (.cells C T3)) :=
  ⟨((Blk.new w T1 A).alloc _).alloc _, (Blk.new' (g := w.heap.size + 1) T2 B (by simp)).alloc _, Blk.new' (g := w.heap.size + 1 + 1) T3 C (by simp), bAlloc (bAlloc (bAlloc (Below.refl _ _) _) _) _⟩

end Go.Proofs.Ytgepjfdnlnemjaa
