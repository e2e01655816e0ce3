/-
  Contracts of TurnPicture (program and model) and of MirrorPicture (model).
-/
import Derived.Test.YtnhjdmdnicnmmaaC4
namespace Go.Proofs.Ytnhjdmdnicnmmaa
open Go.RowKit
set_option linter.unusedVariables false
set_option linter.unusedSimpArgs false

theorem turnF_no {W H : Int} {xs : List Int} (h : ¬ picOk W H xs 255 = true) : turnF W H xs = noPic := by unfold turnF; rw [if_neg h]

theorem turnF_yes {W H : Int} {xs : List Int} {n : Nat} (h : picOk W H xs 255 = true) (hn : (n : Int) = W * H) : turnF W H xs = ⟨H, W, gen n (fun j => xs.getD (turnI W H (j : Nat)).toNat 0)⟩ := by
  unfold turnF; rw [if_pos h, ← hn]; rfl

theorem mirF_no {W H : Int} {xs : List Int} (h : ¬ picOk W H xs 255 = true) : mirrorF W H xs = noPic := by unfold mirrorF; rw [if_neg h]

theorem mirF_yes {W H : Int} {xs : List Int} {n : Nat} (h : picOk W H xs 255 = true) (hn : (n : Int) = W * H) : mirrorF W H xs = ⟨W, H, gen n (fun j => xs.getD (mirT W (j : Nat)).toNat 0)⟩ := by
  unfold mirrorF; rw [if_pos h, ← hn]; rfl

end Go.Proofs.Ytnhjdmdnicnmmaa
