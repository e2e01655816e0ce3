/-
  Contract of MirrorPicture (program).
-/
import Derived.Test.YtgepjfdnlnemjaaC7
namespace Go.Proofs.Ytgepjfdnlnemjaa
open Go.RowKit
set_option linter.unusedVariables false
set_option linter.unusedSimpArgs false

/-- xs, its first s numbers mirrored within rows of W. -/
def mirK (xs : List Int) (W : Int) (s : Nat) : List Int := gen xs.length (fun p => if p < s then xs.getD (mirT W (p : Nat)).toNat 0 else xs.getD p 0)
theorem mirK_len (xs : List Int) (W : Int) (s : Nat) : (mirK xs W s).length = xs.length := gen_len _ _
theorem mirK_zero (xs : List Int) (W : Int) : mirK xs W 0 = xs := by
  symm
  refine gen_ext _ _ _ rfl (fun p hp => ?_)
  rw [if_neg (by omega)]
theorem mirK_all (xs : List Int) (W : Int) (s : Nat) (h : s = xs.length) : mirK xs W s = gen xs.length (fun j => xs.getD (mirT W (j : Nat)).toNat 0) := by
  refine gen_ext _ _ _ (mirK_len _ _ _) (fun p hp => ?_)
  unfold mirK
  rw [gen_get _ _ _ hp, if_pos (by omega)]
theorem mirT_row {W : Int} {s p : Nat} {w r : Nat} (hw : (w : Int) = W) (h1 : 1 ≤ w) (hs : s = r * w) (h2 : s ≤ p) (h3 : p < s + w) : (mirT W (p : Nat)).toNat = 2 * s + w - 1 - p := by
  have e : (p : Int) = (r : Int) * W + ((p - s : Nat) : Int) := by
    rw [← hw, ← Int.natCast_mul, ← hs]; omega
  obtain ⟨j1, j2⟩ := join_dm (q := (r : Int)) (r := ((p - s : Nat) : Int)) (m := W) (by omega) (by omega)
  unfold mirT
  rw [e, j1, j2, ← hw, ← Int.natCast_mul, ← hs]
  omega
theorem mirK_step (xs : List Int) (W : Int) (s w r k : Nat) (hw : (w : Int) = W) (h1 : 1 ≤ w) (hs : s = r * w) (h2 : s + w ≤ xs.length) (h3 : w ≤ 2 * k + 1) (h4 : k ≤ w) :
    revK (mirK xs W s) s w k = mirK xs W (s + w) := by
  have hl := mirK_len xs W s
  refine gen_ext _ _ _ (by rw [revK_len, hl]) (fun p hp => ?_)
  rw [revK_get _ _ _ _ _ (by omega)]
  unfold mirK
  by_cases c : s ≤ p ∧ p < s + w
  · rw [if_pos (by omega : p < s + w), mirT_row hw h1 hs c.1 c.2]
    by_cases d : p < s + k ∨ s + w < p + 1 + k
    · rw [if_pos ⟨c.1, c.2, d⟩, gen_get _ _ _ (by omega), if_neg (by omega)]
    · rw [if_neg (fun h => d h.2.2), gen_get _ _ _ hp, if_neg (by omega)]
      congr 1; omega
  · rw [if_neg (fun h => c ⟨h.1, h.2.1⟩), gen_get _ _ _ hp]
    by_cases d : p < s
    · rw [if_pos d, if_pos (by omega)]
    · rw [if_neg d, if_neg (by omega)]

end Go.Proofs.Ytgepjfdnlnemjaa
