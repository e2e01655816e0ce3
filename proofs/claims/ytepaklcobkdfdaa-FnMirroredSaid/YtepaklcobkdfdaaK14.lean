/-
  Contracts of chapter 5: the run of a diffusion, of the model.
-/
import Derived.Test.YtepaklcobkdfdaaK11
import Derived.Test.YtepaklcobkdfdaaK7
import Derived.Test.YtepaklcobkdfdaaK12
import Derived.Test.YtepaklcobkdfdaaM24
import Derived.Deep.DeepCutAuto
namespace Go.Proofs.Ytepaklcobkdfdaa
open Go.RowKit
set_option linter.unusedVariables false
set_option linter.unusedSimpArgs false

/-- Three rows of a run: values, dots, errors. -/
structure SSt (w : World) (B gv gd ge n c : Nat) (vs ds es : List Int) : Prop where
  hv : B ≤ gv
  hd : B ≤ gd
  he : B ≤ ge
  n1 : gv ≠ gd
  n2 : gv ≠ ge
  n3 : gd ≠ ge
  vals : Own w gv n c vs
  dots : Own w gd n n ds
  errs : Own w ge n n es

namespace SSt
variable {w w' : World} {B gv gd ge n c : Nat} {vs ds es : List Int}

theorem below (h : SSt w B gv gd ge n c vs ds es) (hb : Below w.heap.size w w') : SSt w' B gv gd ge n c vs ds es :=
  ⟨h.hv, h.hd, h.he, h.n1, h.n2, h.n3, h.vals.below hb h.vals.lt, h.dots.below hb h.dots.lt, h.errs.below hb h.errs.lt⟩

theorem drewN (h : SSt w B gv gd ge n c vs ds es) (m : Nat) : SSt (w.drewN m) B gv gd ge n c vs ds es :=
  ⟨h.hv, h.hd, h.he, h.n1, h.n2, h.n3, h.vals.drewN m, h.dots.drewN m, h.errs.drewN m⟩

theorem setVal (h : SSt w B gv gd ge n c vs ds es) (j : Nat) (v : Int) : SSt (w.setCell ⟨gv, j, none⟩ (.int .i64 v)) B gv gd ge n c (vs.set j v) ds es :=
  ⟨h.hv, h.hd, h.he, h.n1, h.n2, h.n3, h.vals.set j v, h.dots.other (by simp; exact h.n1) _, h.errs.other (by simp; exact h.n2) _⟩

theorem setDot (h : SSt w B gv gd ge n c vs ds es) (j : Nat) (v : Int) : SSt (w.setCell ⟨gd, j, none⟩ (.int .i64 v)) B gv gd ge n c vs (ds.set j v) es :=
  ⟨h.hv, h.hd, h.he, h.n1, h.n2, h.n3, h.vals.other (by simp; exact fun e => h.n1 e.symm) _, h.dots.set j v, h.errs.other (by simp; exact h.n3) _⟩

theorem setErr (h : SSt w B gv gd ge n c vs ds es) (j : Nat) (v : Int) : SSt (w.setCell ⟨ge, j, none⟩ (.int .i64 v)) B gv gd ge n c vs ds (es.set j v) :=
  ⟨h.hv, h.hd, h.he, h.n1, h.n2, h.n3, h.vals.other (by simp; exact fun e => h.n2 e.symm) _, h.dots.other (by simp; exact fun e => h.n3 e.symm) _, h.errs.set j v⟩

theorem trio (h : SSt w B gv gd ge n c vs ds es) : ∀ i, Trio gv gd ge i → B ≤ i := by
  have := h.hv; have := h.hd; have := h.he
  rintro i (rfl | rfl | rfl) <;> assumption

theorem trioLt (h : SSt w B gv gd ge n c vs ds es) : ∀ i, Trio gv gd ge i → i < w.heap.size := by
  have := h.vals.lt; have := h.dots.lt; have := h.errs.lt
  rintro i (rfl | rfl | rfl) <;> assumption
end SSt

/-- A row that is gone through from the right. -/
def revB (alt : Bool) (y : Int) : Bool := decide (alt = true ∧ y % 2 = 1)

theorem revB_yes {alt : Bool} {y : Int} (h : alt = true ∧ y % 2 = 1) : revB alt y = true := decide_eq_true h

theorem revB_no {alt : Bool} {y : Int} (h : ¬ (alt = true ∧ y % 2 = 1)) : revB alt y = false := decide_eq_false h

end Go.Proofs.Ytepaklcobkdfdaa
