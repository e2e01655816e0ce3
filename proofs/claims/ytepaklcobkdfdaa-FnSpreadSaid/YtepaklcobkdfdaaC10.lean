/-
  Contracts of CoversPicture and SamePicture (program and model).
-/
import Derived.Test.YtepaklcobkdfdaaC9
namespace Go.Proofs.Ytepaklcobkdfdaa
open Go.RowKit
set_option linter.unusedVariables false
set_option linter.unusedSimpArgs false

def coverB (xs ys : List Int) : Bool := (List.range ys.length).all (fun i => decide (ys.getD i 0 ≤ xs.getD i 0))

theorem coverB_no {xs ys : List Int} {k : Nat} (hk : k < ys.length) (h : xs[k]?.getD 0 < ys[k]?.getD 0) : coverB xs ys = false := by
  unfold coverB
  rw [List.all_eq_false]
  refine ⟨k, List.mem_range.2 hk, ?_⟩
  rw [decide_eq_true_iff]
  simp only [List.getD]
  omega

theorem coverB_yes {xs ys : List Int} (h : ∀ i, i < ys.length → ys[i]?.getD 0 ≤ xs[i]?.getD 0) : coverB xs ys = true := by
  unfold coverB
  rw [List.all_eq_true]
  intro i hi
  have := h i (List.mem_range.1 hi)
  rw [decide_eq_true_iff]
  simpa only [List.getD] using this

theorem pairOk_bd {W H W' H' : Int} {xs ys : List Int} (h : pairOk W H xs W' H' ys = true) : picOk W H xs 255 = true ∧ picOk W' H' ys 255 = true ∧ W = W' ∧ H = H' := by
  unfold pairOk at h
  simp only [Bool.and_eq_true, decide_eq_true_eq] at h
  exact ⟨h.1, h.2.1, h.2.2.1, h.2.2.2⟩

theorem pairOk_len {W H W' H' : Int} {xs ys : List Int} {n n' : Nat} (hn : xs.length = n) (hn' : ys.length = n') (h : pairOk W H xs W' H' ys = true) : n = n' := by
  obtain ⟨h1, h2, rfl, rfl⟩ := pairOk_bd h
  have a := (picOk_bd hn h1).2.1
  have b := (picOk_bd hn' h2).2.1
  omega

end Go.Proofs.Ytepaklcobkdfdaa
