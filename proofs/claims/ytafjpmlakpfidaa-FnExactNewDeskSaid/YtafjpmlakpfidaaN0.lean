/-
  A limb of a region's condition: the world is as it was below its size. Nothing of the program.
-/
import Derived.Test.YtafjpmlakpfidaaLib
namespace Go.Proofs.Ytafjpmlakpfidaa
open Go.RowKit
set_option linter.unusedVariables false
set_option linter.unusedSimpArgs false

def BelowL (w v : World) : Prop := Hid (Below w.heap.size w v)

namespace BelowL
variable {w v v' : World}
theorem out (h : BelowL w v) : Below w.heap.size w v := Hid.out h
theorem mk (h : Below w.heap.size w v) : BelowL w v := Lib.hid h
theorem start (w : World) : BelowL w w.drew := mk (Below.refl _ _).drew
theorem alloc (h : BelowL w v) (o : Obj) : BelowL w (v.alloc o) := mk (bAlloc h.out o)
theorem call (h : BelowL w v) (hq : Below v.heap.size v v') : BelowL w v' := mk (bTrans h.out hq)
theorem le (h : BelowL w v) : w.heap.size ≤ v.heap.size := h.out.size
theorem set (h : BelowL w v) {a : Addr} (ha : w.heap.size ≤ a.block) (u : Value) : BelowL w (v.setCell a u) := mk (h.out.setCell ha u)
end BelowL

theorem limb2 {a b : Prop} (h : a ∧ b) : b := h.2
theorem limb3 {a b c : Prop} (h : a ∧ b ∧ c) : c := h.2.2
theorem limb4 {a b c d : Prop} (h : a ∧ b ∧ c ∧ d) : d := h.2.2.2
theorem limb5 {a b c d e : Prop} (h : a ∧ b ∧ c ∧ d ∧ e) : e := h.2.2.2.2
theorem limb6 {a b c d e f : Prop} (h : a ∧ b ∧ c ∧ d ∧ e ∧ f) : f := h.2.2.2.2.2
theorem limb8 {a b c d e f g h : Prop} (x : a ∧ b ∧ c ∧ d ∧ e ∧ f ∧ g ∧ h) : h := x.2.2.2.2.2.2.2
theorem limb7 {a b c d e f g : Prop} (h : a ∧ b ∧ c ∧ d ∧ e ∧ f ∧ g) : g := h.2.2.2.2.2.2

end Go.Proofs.Ytafjpmlakpfidaa
