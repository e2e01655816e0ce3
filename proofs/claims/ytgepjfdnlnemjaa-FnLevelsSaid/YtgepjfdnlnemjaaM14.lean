/-
  Levels grow from none to all; nothing of the program.
-/
import Derived.Test.YtgepjfdnlnemjaaM12
namespace Go.Proofs.Ytgepjfdnlnemjaa
set_option linter.unusedVariables false
set_option linter.unusedSimpArgs false

theorem level_0 {n : Nat} : levelG n 0 = 0 := by unfold levelG; simp

theorem level_255 {n : Nat} : levelG n 255 = (n : Int) := by unfold levelG; omega

theorem level_sum {n : Nat} {v : Int} : (n : Int) ≤ levelG n v + levelG n (255 - v) := by
  unfold levelG
  have e : (255 - v) * (n : Int) = 255 * (n : Int) - v * (n : Int) := Int.sub_mul _ _ _
  rw [e]
  generalize v * (n : Int) = T
  omega

theorem level_mono {n : Nat} {u v : Int} (h : u ≤ v) : levelG n u ≤ levelG n v := by
  unfold levelG
  have e : u * (n : Int) ≤ v * (n : Int) := Int.mul_le_mul_of_nonneg_right h (by omega)
  generalize u * (n : Int) = T at *
  generalize v * (n : Int) = U at *
  omega

end Go.Proofs.Ytgepjfdnlnemjaa
