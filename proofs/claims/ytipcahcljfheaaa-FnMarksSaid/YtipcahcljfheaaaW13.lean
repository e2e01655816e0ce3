/-
  Contracts of chapter 8: what is a stack (program and model).
-/
import Derived.Test.YtipcahcljfheaaaT4
import Derived.Test.YtipcahcljfheaaaM43
import Derived.Test.YtipcahcljfheaaaC4
import Derived.Test.YtipcahcljfheaaaC9
import Derived.Deep.RegionHeld3
namespace Go.Proofs.Ytipcahcljfheaaa
open Go.RowKit
set_option linter.unusedVariables false
set_option linter.unusedSimpArgs false

def okV (ps : List PV) (k : Nat) : Prop := picOk (pv ps k).W (pv ps k).H (pv ps k).ink 1 = true ∧ (pv ps k).W = (pv ps 0).W ∧ (pv ps k).H = (pv ps 0).H

theorem stackV {ps : List PV} : stackOk (picsV ps) = true ↔ 1 ≤ ps.length ∧ ps.length ≤ 4 ∧ ∀ k, k < ps.length → okV ps k := by
  constructor
  · intro h
    obtain ⟨h1, h2, h3⟩ := stack_bd h
    rw [picsV_len] at h1 h2 h3
    refine ⟨h1, h2, fun k hk => ?_⟩
    have := h3 k hk
    rw [picsV_at ps k hk, picsV_at ps 0 (by omega)] at this
    exact this
  · rintro ⟨h1, h2, h3⟩
    refine stack_mk (by rw [picsV_len]; exact h1) (by rw [picsV_len]; exact h2) (fun k hk => ?_)
    rw [picsV_len] at hk
    rw [picsV_at ps k hk, picsV_at ps 0 (by omega)]
    exact h3 k hk

theorem stackV_no {ps : List PV} {k : Nat} (hk : k < ps.length) (h : ¬ okV ps k) : stackOk (picsV ps) = false := by
  cases hs : stackOk (picsV ps) with
  | false => rfl
  | true => exact absurd ((stackV.1 hs).2.2 k hk) h

theorem stackV_size {ps : List PV} (h : ¬ (1 ≤ ps.length ∧ ps.length ≤ 4)) : stackOk (picsV ps) = false := by
  cases hs : stackOk (picsV ps) with
  | false => rfl
  | true => have := stackV.1 hs; exact absurd ⟨this.1, this.2.1⟩ h

end Go.Proofs.Ytipcahcljfheaaa
