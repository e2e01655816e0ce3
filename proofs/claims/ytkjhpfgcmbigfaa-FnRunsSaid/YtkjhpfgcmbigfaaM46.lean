/-
  Plates out of runs, plain: what PlateOfRuns answers, and when the program's check by the runs of the plate holds. Nothing of the program.
-/
import Derived.Test.YtkjhpfgcmbigfaaM45
namespace Go.Proofs.Ytkjhpfgcmbigfaa
set_option linter.unusedVariables false
set_option linter.unusedSimpArgs false

def porF (W H : Int) (rs : List Int) : Pic × Bool := if sizeOk W H = true ∧ runsOk rs = true ∧ isum rs = W * H then (⟨W, H, spell 0 rs⟩, true) else (noPic, false)

/-- No run is negative. -/
def nnAll (rs : List Int) : Prop := ∀ v, v ∈ rs → 0 ≤ v

theorem runsOk_nn {rs : List Int} (h : runsOk rs = true) : nnAll rs := by
  cases rs with
  | nil => cases h
  | cons n r =>
    obtain ⟨h0, h1⟩ := runsOk_cons h
    intro v hv
    rcases List.mem_cons.1 hv with e | e
    · omega
    · have := h1 v e; omega

theorem isum_nn {rs : List Int} (h : nnAll rs) : 0 ≤ isum rs := by
  induction rs with
  | nil => exact Int.le_refl _
  | cons n r ih =>
    have := h n (by simp)
    have := ih (fun v hv => h v (by simp [hv]))
    unfold isum; omega

theorem isum_take_le {rs : List Int} (h : nnAll rs) (k : Nat) : isum (rs.take k) ≤ isum rs := by
  have e : isum rs = isum (rs.take k) + isum (rs.drop k) := by rw [← isum_append, List.take_append_drop]
  have := isum_nn (rs := rs.drop k) (fun v hv => h v (List.mem_of_mem_drop hv))
  omega

theorem isum_len {rs : List Int} (h : runsOk rs = true) : (rs.length : Int) ≤ isum rs + 1 := by
  cases rs with
  | nil => cases h
  | cons n r =>
    obtain ⟨h0, h1⟩ := runsOk_cons h
    have : ∀ (q : List Int), (∀ v, v ∈ q → 1 ≤ v) → (q.length : Int) ≤ isum q := by
      intro q hq
      induction q with
      | nil => exact Int.le_refl _
      | cons a t ih =>
        have := hq a (by simp)
        have := ih (fun v hv => hq v (by simp [hv]))
        simp only [List.length_cons, isum]; omega
    have := this r h1
    simp only [List.length_cons, isum]; omega

theorem take_snocI (rs : List Int) (k : Nat) (h : k < rs.length) : rs.take (k + 1) = rs.take k ++ [rs.getD k 0] := by
  rw [List.take_succ_eq_append_getElem h]
  simp [List.getD, List.getElem?_eq_getElem h]

theorem isum_take_succ (rs : List Int) (k : Nat) (h : k < rs.length) : isum (rs.take (k + 1)) = isum (rs.take k) + rs.getD k 0 := by
  rw [take_snocI rs k h, isum_snocG]

theorem spell_take_succ (rs : List Int) (k : Nat) (h : k < rs.length) : spell 0 (rs.take (k + 1)) = spell 0 (rs.take k) ++ List.replicate (rs.getD k 0).toNat (colR 0 k) := by
  rw [take_snocI rs k h, spell_snoc, List.length_take, Nat.min_eq_left (by omega)]

theorem nn_take {rs : List Int} {k : Nat} (h : ∀ j, j < k → 0 ≤ rs.getD j 0) (hk : k ≤ rs.length) : nnAll (rs.take k) := by
  intro v hv
  obtain ⟨j, hj, rfl⟩ := List.mem_iff_getElem.1 hv
  rw [List.length_take] at hj
  have := h j (by omega)
  simpa [List.getD, List.getElem?_eq_getElem (show j < rs.length by omega)] using this

theorem spell_dots (c : Int) (hc : c = 0 ∨ c = 1) (rs : List Int) : ∀ v, v ∈ spell c rs → v = 0 ∨ v = 1 := by
  induction rs generalizing c with
  | nil => intro v hv; cases hv
  | cons n r ih =>
    intro v hv
    simp only [spell, List.mem_append, List.mem_replicate] at hv
    rcases hv with ⟨_, rfl⟩ | hv
    · exact hc
    · exact ih (1 - c) (by omega) v hv

theorem dots_within {xs : List Int} (h : ∀ v, v ∈ xs → v = 0 ∨ v = 1) : within xs 1 = true := by
  unfold within
  rw [List.all_eq_true]
  intro v hv
  have := h v hv
  simp only [decide_eq_true_eq]
  omega

/-- What PlateOfRuns answers is a plate. -/
theorem por_plate {W H : Int} {rs : List Int} (hs : sizeOk W H = true) (hr : runsOk rs = true) (h : isum rs = W * H) : picOk W H (spell 0 rs) 1 = true := by
  unfold picOk
  have e := spell_len (runsOk_nn hr) 0
  rw [hs, decide_eq_true (by rw [e, h]), dots_within (spell_dots 0 (Or.inl rfl) rs)]
  rfl

/-- The program's check: the runs of the plate that was filled are the runs. -/
theorem runs_back {rs xs : List Int} {m : Nat} (hnn : nnAll rs) (hx : xs = spell 0 rs ++ List.replicate m 0) : runsG xs = rs ↔ runsOk rs = true ∧ m = 0 := by
  have hd : ∀ k, k < xs.length → xs.getD k 0 = 0 ∨ xs.getD k 0 = 1 := by
    intro k hk
    have hm : xs.getD k 0 ∈ xs := by simp [List.getD, List.getElem?_eq_getElem hk]
    rw [hx, List.mem_append] at hm
    rcases hm with hm | hm
    · rw [hx]; exact spell_dots 0 (Or.inl rfl) rs _ hm
    · exact Or.inl (by rw [hx]; exact (List.mem_replicate.1 hm).2)
  obtain ⟨h1, h2⟩ := runsG_ok hd
  constructor
  · intro e
    rw [e] at h1 h2
    refine ⟨h1, ?_⟩
    rw [hx] at h2
    have := congrArg List.length h2
    simp at this
    exact this
  · rintro ⟨h3, rfl⟩
    refine runs_one h1 h3 ?_
    rw [h2, hx]
    simp

/-- The runs that the model refuses, or the program. -/
theorem por_no {W H : Int} {rs : List Int} (h : sizeOk W H = true → runsOk rs = true → isum rs = W * H → False) : porF W H rs = (noPic, false) := by
  unfold porF
  rw [if_neg (fun ⟨a, b, c⟩ => h a b c)]

theorem por_yes {W H : Int} {rs : List Int} (h1 : sizeOk W H = true) (h2 : runsOk rs = true) (h3 : isum rs = W * H) : porF W H rs = (⟨W, H, spell 0 rs⟩, true) := by
  unfold porF
  rw [if_pos ⟨h1, h2, h3⟩]

theorem getD_mem {rs : List Int} {k : Nat} (h : k < rs.length) : rs.getD k 0 ∈ rs := by
  simp [List.getD, List.getElem?_eq_getElem h]

theorem runsOk_at {rs : List Int} (h : runsOk rs = true) {k : Nat} (hk : k < rs.length) : 0 ≤ rs.getD k 0 ∧ (0 < k → 1 ≤ rs.getD k 0) := by
  refine ⟨runsOk_nn h _ (getD_mem hk), fun h0 => ?_⟩
  cases rs with
  | nil => cases h
  | cons n r =>
    obtain ⟨_, h1⟩ := runsOk_cons h
    obtain ⟨j, rfl⟩ : ∃ j, k = j + 1 := ⟨k - 1, by omega⟩
    have hj : j < r.length := by simpa using hk
    have := h1 _ (getD_mem hj)
    simpa [List.getD] using this

theorem runsOk_mk {rs : List Int} (h : 1 ≤ rs.length) (h0 : ∀ k, k < rs.length → 0 ≤ rs.getD k 0 ∧ (0 < k → 1 ≤ rs.getD k 0)) : runsOk rs = true := by
  cases rs with
  | nil => simp at h
  | cons n r =>
    unfold runsOk
    simp only [Bool.and_eq_true, decide_eq_true_eq, List.all_eq_true]
    refine ⟨by simpa [List.getD] using (h0 0 (by simp)).1, fun v hv => ?_⟩
    obtain ⟨j, hj, rfl⟩ := List.mem_iff_getElem.1 hv
    have := (h0 (j + 1) (by simpa using hj)).2 (by omega)
    simpa [List.getD, List.getElem?_eq_getElem hj] using this

end Go.Proofs.Ytkjhpfgcmbigfaa
