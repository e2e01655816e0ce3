/-
  Contracts of InkAt (model), IsPlate, NegativePicture, of the program (impl) and of the model (spec).
-/
import Derived.Test.YtbopeibommnjgaaC3
import Derived.Test.YtbopeibommnjgaaM2
namespace Go.Proofs.Ytbopeibommnjgaa
open Go.RowKit
set_option linter.unusedVariables false
set_option linter.unusedSimpArgs false

theorem within_le {xs : List Int} (h : within xs 1 = true) : within xs 255 = true := by
  unfold within at h ⊢
  rw [List.all_eq_true] at h ⊢
  intro x hx
  have := h x hx
  simp at this ⊢
  omega

theorem picOk_le {W H : Int} {xs : List Int} (h : picOk W H xs 1 = true) : picOk W H xs 255 = true := by
  obtain ⟨h1, h2, h3⟩ := picOk_bd rfl h
  rw [picOk_in rfl h1 h2]
  exact within_le h3

theorem negF_no {W H : Int} {xs : List Int} (h : ¬ picOk W H xs 255 = true) : negF W H xs = noPic := by unfold negF; rw [if_neg h]

theorem negF_1 {W H : Int} {xs : List Int} (h : picOk W H xs 1 = true) : negF W H xs = ⟨W, H, xs.map (fun v => 1 - v)⟩ := by unfold negF; rw [if_pos (picOk_le h)]; simp [h]

theorem negF_255 {W H : Int} {xs : List Int} (h : picOk W H xs 255 = true) (h2 : ¬ picOk W H xs 1 = true) : negF W H xs = ⟨W, H, xs.map (fun v => 255 - v)⟩ := by unfold negF; rw [if_pos h]; simp [h2]

end Go.Proofs.Ytbopeibommnjgaa
