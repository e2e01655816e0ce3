/-
  Contracts of chapter 8: MarkAt and MarkCounts (program and model).
-/
import Derived.Test.YtipcahcljfheaaaW15
namespace Go.Proofs.Ytipcahcljfheaaa
open Go.RowKit
set_option linter.unusedVariables false
set_option linter.unusedSimpArgs false

theorem markAt_no {L : List Pic} {x y : Int} (h : ¬ (stackOk L = true ∧ 0 ≤ x ∧ x < (L.getD 0 noPic).W ∧ 0 ≤ y ∧ y < (L.getD 0 noPic).H)) : markAtF L x y = -1 := by unfold markAtF; rw [if_neg h]

theorem markAt_yes {ps : List PV} {n N : Nat} {W H x y : Int} (T : Stk ps n N W H) (h1 : 0 ≤ x) (h2 : x < W) (h3 : 0 ≤ y) (h4 : y < H) : markAtF (picsV ps) x y = markG (picsV ps) (y * W + x).toNat := by
  unfold markAtF
  rw [T.pic0]
  unfold PV.pic
  simp only [T.W0, T.H0]
  rw [if_pos ⟨T.ok, h1, h2, h3, h4⟩]

theorem place_in {W H x y : Int} {N : Nat} (hq : (N : Int) = W * H) (h1 : 0 ≤ x) (h2 : x < W) (h3 : 0 ≤ y) (h4 : y < H) : 0 ≤ y * W ∧ 0 ≤ y * W + x ∧ y * W + x < N := by
  have e1 : 0 ≤ y * W := Int.mul_nonneg h3 (by omega)
  have e2 : (y + 1) * W ≤ H * W := Int.mul_le_mul_of_nonneg_right (by omega) (by omega)
  rw [Int.add_mul, Int.one_mul, Int.mul_comm H W, ← hq] at e2
  exact ⟨e1, by omega, by omega⟩

theorem marks_get {ps : List PV} {N i : Nat} (hi : i < N) : (marksL ps N).getD i 0 = markG (picsV ps) i := by
  unfold marksL
  rw [gen_get _ _ _ hi]

def cntL (ps : List PV) (M i : Nat) : List Int := gen M (fun r => cntI (markG (picsV ps)) r i)

theorem cntL_start (ps : List PV) (M : Nat) : List.replicate M 0 = cntL ps M 0 := by
  unfold cntL
  refine gen_ext M _ _ (by simp) (fun i hi => ?_)
  simp [cntI, List.getD, hi]

theorem cntL_step {ps : List PV} {M i m : Nat} (hm : markG (picsV ps) i = (m : Int)) (hM : m < M) {V : Int} (hV : cntI (markG (picsV ps)) m i = V) : (cntL ps M i).set m (V + 1) = cntL ps M (i + 1) := by
  unfold cntL
  refine gen_setW hM ?_ (fun r hr hne => ?_)
  · show cntI (markG (picsV ps)) m i + (if markG (picsV ps) i = m then 1 else 0) = V + 1
    rw [hm, if_pos rfl, hV]
  · show cntI (markG (picsV ps)) r i + (if markG (picsV ps) i = r then 1 else 0) = _
    rw [hm, if_neg (by omega), Int.add_zero]

theorem cntL_get {ps : List PV} {M i m : Nat} (hM : m < M) : (cntL ps M i).getD m 0 = cntI (markG (picsV ps)) m i := by
  unfold cntL
  rw [gen_get _ _ _ hM]

theorem counts_yes {ps : List PV} {n N : Nat} {W H : Int} (T : Stk ps n N W H) : markCountsF (picsV ps) = cntL ps (2 ^ n) N := by
  unfold markCountsF cntL
  rw [if_pos T.ok, picsV_len, T.len, T.inkLen]

theorem counts_no {L : List Pic} (h : stackOk L = false) : markCountsF L = [] := by unfold markCountsF; rw [h]; rfl

theorem mark_lt {ps : List PV} {n N : Nat} {W H : Int} (T : Stk ps n N W H) {i : Nat} (hi : i < N) : ∃ m : Nat, markG (picsV ps) i = m ∧ m < 2 ^ n := by
  obtain ⟨h1, h2⟩ := T.bits hi (Nat.le_refl n)
  rw [← T.mark] at h1 h2
  have e : (2 : Int) ^ n = ((2 ^ n : Nat) : Int) := by push_cast; rfl
  rw [e] at h2
  exact ⟨(markG (picsV ps) i).toNat, by omega, by omega⟩

theorem pow_nat {n : Nat} (h : n ≤ 4) : 1 ≤ 2 ^ n ∧ 2 ^ n ≤ 16 := by
  have := pow_small h
  have e : (2 : Int) ^ n = ((2 ^ n : Nat) : Int) := by push_cast; rfl
  omega

/-- A list of numbers of the call's own. -/
def CountsOut (w : World) (xs : List Int) (e : Ending) (w' : World) : Prop := ∃ a n c, e = .returned (.slice a n c) ∧ OwnA w' w.heap.size a n c xs ∧ n ≤ 1048576 ∧ Below w.heap.size w w'

end Go.Proofs.Ytipcahcljfheaaa
