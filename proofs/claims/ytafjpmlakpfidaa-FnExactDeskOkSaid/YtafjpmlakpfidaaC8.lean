/-
  Contracts of SamePicture, CoversPicture, AddPictures and their helpers (program and model).
-/
import Derived.Test.YtafjpmlakpfidaaC3
import Derived.Deep.RegionHeld3
namespace Go.Proofs.Ytafjpmlakpfidaa
open Go.RowKit
set_option linter.unusedVariables false
set_option linter.unusedSimpArgs false

theorem pairOk_no1 {W H W' H' : Int} {xs ys : List Int} (h : ¬ picOk W H xs 255 = true) : pairOk W H xs W' H' ys = false := by unfold pairOk; simp [h]

theorem pairOk_no2 {W H W' H' : Int} {xs ys : List Int} (h : ¬ picOk W' H' ys 255 = true) : pairOk W H xs W' H' ys = false := by unfold pairOk; simp [h]

theorem pairOk_no3 {W H W' H' : Int} {xs ys : List Int} (h : ¬ (W = W' ∧ H = H')) : pairOk W H xs W' H' ys = false := by unfold pairOk; rw [decide_eq_false h]; simp

theorem pairOk_yes {W H W' H' : Int} {xs ys : List Int} (h : picOk W H xs 255 = true) (h2 : picOk W' H' ys 255 = true) (h3 : W = W' ∧ H = H') : pairOk W H xs W' H' ys = true := by unfold pairOk; rw [h, h2, decide_eq_true h3]; rfl

set_option maxHeartbeats 400000 in
theorem impl_sidesOf (W H : Int) (ad : Option Addr) (n cap : Nat) (w : World) :
    Calls Try.prog 38 #[.agg #[.int .i64 W, .int .i64 H, .slice ad n cap]] w fun e w' => e = .returned (.agg #[.int .i64 W, .int .i64 H]) ∧ Below w.heap.size w w' := by
  go_enter Try.func38, Try.ntmps38
  go_wp2_with fail
  exact bodyPost_ret (v := .agg #[.int .i64 W, .int .i64 H]) (by simp [results, Try.results38, go_sem]) rfl ⟨rfl, Joins.below_alloc2 _ _ _⟩

end Go.Proofs.Ytafjpmlakpfidaa
