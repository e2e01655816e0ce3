/-
  Contracts of TilePicture (program and model).
-/
import Derived.Test.YtgepjfdnlnemjaaC5
namespace Go.Proofs.Ytgepjfdnlnemjaa
open Go.RowKit
set_option linter.unusedVariables false
set_option linter.unusedSimpArgs false

def tileG (W H : Int) (xs : List Int) (tw : Int) (i : Nat) : Int := xs.getD ((i : Int) / tw % H * W + (i : Int) % tw % W).toNat 0

theorem tileF_no {W H : Int} {xs : List Int} {tw th : Int} (h : ¬ (picOk W H xs 255 = true ∧ sizeOk tw th = true)) : tileF W H xs tw th = (noPic, false) := by unfold tileF; rw [if_neg h]

theorem tileF_yes {W H : Int} {xs : List Int} {tw th : Int} {m : Nat} (h : picOk W H xs 255 = true) (h2 : sizeOk tw th = true) (hm : (m : Int) = tw * th) : tileF W H xs tw th = (⟨tw, th, gen m (tileG W H xs tw)⟩, true) := by
  unfold tileF; rw [if_pos ⟨h, h2⟩, ← hm]; rfl

end Go.Proofs.Ytgepjfdnlnemjaa
