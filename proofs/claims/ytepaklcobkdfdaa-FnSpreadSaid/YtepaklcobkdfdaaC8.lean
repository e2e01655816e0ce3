/-
  Contracts of SamePicture, CoversPicture, AddPictures and their helpers (program and model).
-/
import Derived.Test.YtepaklcobkdfdaaC3
import Derived.Deep.RegionHeld3
namespace Go.Proofs.Ytepaklcobkdfdaa
open Go.RowKit
set_option linter.unusedVariables false
set_option linter.unusedSimpArgs false

theorem pairOk_no1 {W H W' H' : Int} {xs ys : List Int} (h : ¬ picOk W H xs 255 = true) : pairOk W H xs W' H' ys = false := by unfold pairOk; simp [h]

theorem pairOk_no2 {W H W' H' : Int} {xs ys : List Int} (h : ¬ picOk W' H' ys 255 = true) : pairOk W H xs W' H' ys = false := by unfold pairOk; simp [h]

theorem pairOk_no3 {W H W' H' : Int} {xs ys : List Int} (h : ¬ (W = W' ∧ H = H')) : pairOk W H xs W' H' ys = false := by unfold pairOk; rw [decide_eq_false h]; simp

theorem pairOk_yes {W H W' H' : Int} {xs ys : List Int} (h : picOk W H xs 255 = true) (h2 : picOk W' H' ys 255 = true) (h3 : W = W' ∧ H = H') : pairOk W H xs W' H' ys = true := by unfold pairOk; rw [h, h2, decide_eq_true h3]; rfl

end Go.Proofs.Ytepaklcobkdfdaa
