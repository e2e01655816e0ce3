/-
  The spiral's way: where each rank lies, and that each step goes to a neighbour. Nothing of the program.
-/
import Derived.Test.YtgepjfdnlnemjaaM5
import Derived.Test.YtgepjfdnlnemjaaM6
namespace Go.Proofs.Ytgepjfdnlnemjaa
set_option linter.unusedVariables false
set_option linter.unusedSimpArgs false

def idxS (s k : Nat) : Nat := ((spState s k).y * (s : Int) + (spState s k).x).toNat

theorem sp_r (s k : Nat) : (spState s (k + 1)).r = (spState s k).r.set (idxS s k) (k : Int) := by
  simp only [spState, spStep, idxS]
  split <;> rfl

theorem sp_dir (s k : Nat) : (spState s k).dx * (spState s k).dx + (spState s k).dy * (spState s k).dy = 1 := by
  induction k with
  | zero => rfl
  | succ k ih =>
    simp only [spState, spStep]
    split
    · simp only [Int.neg_mul_neg]; omega
    · exact ih

theorem sp_next (s k : Nat) : (spState s (k + 1)).x - (spState s k).x = (spState s (k + 1)).dx ∧ (spState s (k + 1)).y - (spState s k).y = (spState s (k + 1)).dy := by
  simp only [spState, spStep]
  split <;> exact ⟨by simp only []; omega, by simp only []; omega⟩

theorem idx_lt {s k : Nat} (s1 : 1 ≤ s) (s2 : s ≤ 16) (hk : k < s * s) : 0 ≤ (spState s k).x ∧ (spState s k).x < (s : Int) ∧ 0 ≤ (spState s k).y ∧ (spState s k).y < (s : Int) ∧ idxS s k < s * s ∧ (idxS s k : Int) = (spState s k).y * (s : Int) + (spState s k).x := by
  obtain ⟨x0, x1, y0, y1, _⟩ := spOk_bd ((sp_facts s s1 s2).1 k hk)
  obtain ⟨i0, i1⟩ := row_bd x0 x1 y0 y1
  have e : ((s * s : Nat) : Int) = (s : Int) * (s : Int) := by simp
  unfold idxS
  exact ⟨x0, x1, y0, y1, by omega, by omega⟩

theorem sp_inv {s : Nat} (s1 : 1 ≤ s) (s2 : s ≤ 16) : ∀ k, k ≤ s * s → ∀ i, i < s * s → (spState s k).r.getD i 0 = -1 ∨ ∃ j : Nat, j < k ∧ (spState s k).r.getD i 0 = (j : Int) ∧ i = idxS s j := by
  intro k
  induction k with
  | zero =>
    intro _ i hi
    left
    simp only [spState, spInit, List.getD]
    rw [List.getElem?_replicate, if_pos hi]
    rfl
  | succ k ih =>
    intro hk i hi
    rw [sp_r, getD_set _ _ _ _ (by rw [sp_len]; exact (idx_lt s1 s2 (by omega)).2.2.2.2.1)]
    by_cases e : idxS s k = i
    · rw [if_pos e]
      exact Or.inr ⟨k, by omega, rfl, e.symm⟩
    · rw [if_neg e]
      rcases ih (by omega) i hi with h | ⟨j, h1, h2, h3⟩
      · exact Or.inl h
      · exact Or.inr ⟨j, by omega, h2, h3⟩

theorem icount_at {v : Int} : ∀ {xs : List Int}, 1 ≤ icount v xs → ∃ i, i < xs.length ∧ xs.getD i 0 = v := by
  intro xs
  induction xs with
  | nil => intro h; simp [icount] at h
  | cons a l ih =>
    intro h
    by_cases e : a = v
    · exact ⟨0, by simp, by simpa using e⟩
    · have h2 : 1 ≤ icount v l := by simpa [icount, e] using h
      obtain ⟨i, h3, h4⟩ := ih h2
      exact ⟨i + 1, by simp; omega, by simpa using h4⟩

theorem sp_at {s : Nat} (s1 : 1 ≤ s) (s2 : s ≤ 16) {j : Nat} (hj : j < s * s) : (spState s (s * s)).r.getD (idxS s j) 0 = (j : Int) := by
  obtain ⟨_, _, h3, h4⟩ := matOk_bd (sp_len s (s * s)) (sp_facts s s1 s2).2
  have h5 := perm_icount (sp_len s (s * s)) h3 h4 j hj
  obtain ⟨i, hi, he⟩ := icount_at (xs := (spState s (s * s)).r) (v := (j : Int)) (by omega)
  rw [sp_len] at hi
  rcases sp_inv s1 s2 (s * s) (Nat.le_refl _) i hi with h | ⟨j', _, h6, h7⟩
  · rw [he] at h; omega
  · have : j' = j := by rw [he] at h6; omega
    subst this
    rw [← h7]; exact he

def spRow : Bool := [1, 2, 3, 4, 5, 6, 7, 8, 9, 10, 11, 12, 13, 14, 15, 16].all (fun s => decide (idxS s (s - 1) = s - 1))

theorem spRow_ok : spRow = true := by decide +kernel

theorem sp_first {s : Nat} (s1 : 1 ≤ s) (s2 : s ≤ 16) : (spState s (s * s)).r.getD 0 0 = 0 ∧ (spState s (s * s)).r.getD (s - 1) 0 = (s : Int) - 1 := by
  have hss : s ≤ s * s := Nat.le_mul_of_pos_left s s1
  have h0 := sp_at s1 s2 (j := 0) (by omega)
  have h1 := sp_at s1 s2 (j := s - 1) (by omega)
  have h := spRow_ok
  unfold spRow at h
  rw [List.all_eq_true] at h
  have h3 := of_decide_eq_true (h s (by simp; omega))
  rw [h3] at h1
  have e0 : idxS s 0 = 0 := by simp [idxS, spState, spInit]
  rw [e0] at h0
  exact ⟨h0, by rw [h1]; omega⟩

/-- Two ranks that follow each other lie side by side. -/
theorem sp_step {s j : Nat} (s1 : 1 ≤ s) (s2 : s ≤ 16) (hj : j + 1 < s * s) : ∃ P Q P' Q' : Int,
    (idxS s (j + 1) : Int).tmod s = P ∧ (idxS s (j + 1) : Int).tdiv s = Q ∧ (idxS s j : Int).tmod s = P' ∧ (idxS s j : Int).tdiv s = Q' ∧
    0 ≤ P ∧ P ≤ 15 ∧ 0 ≤ Q ∧ Q ≤ 15 ∧ 0 ≤ P' ∧ P' ≤ 15 ∧ 0 ≤ Q' ∧ Q' ≤ 15 ∧ (P - P') * (P - P') + (Q - Q') * (Q - Q') = 1 := by
  obtain ⟨x0, x1, y0, y1, _, e⟩ := idx_lt s1 s2 hj
  obtain ⟨x0', x1', y0', y1', _, e'⟩ := idx_lt (k := j) s1 s2 (by omega)
  obtain ⟨n1, n2⟩ := sp_next s j
  have d := sp_dir s (j + 1)
  refine ⟨(spState s (j + 1)).x, (spState s (j + 1)).y, (spState s j).x, (spState s j).y, ?_, ?_, ?_, ?_, x0, by omega, y0, by omega, x0', by omega, y0', by omega, ?_⟩
  · rw [Int.tmod_eq_emod_of_nonneg (by omega), e, Int.add_comm, Int.add_mul_emod_self_right, Int.emod_eq_of_lt x0 x1]
  · rw [Int.tdiv_eq_ediv_of_nonneg (by omega), e, Int.add_comm, Int.add_mul_ediv_right _ _ (by omega), Int.ediv_eq_zero_of_lt x0 x1]; omega
  · rw [Int.tmod_eq_emod_of_nonneg (by omega), e', Int.add_comm, Int.add_mul_emod_self_right, Int.emod_eq_of_lt x0' x1']
  · rw [Int.tdiv_eq_ediv_of_nonneg (by omega), e', Int.add_comm, Int.add_mul_ediv_right _ _ (by omega), Int.ediv_eq_zero_of_lt x0' x1']; omega
  · rw [n1, n2]; exact d

end Go.Proofs.Ytgepjfdnlnemjaa
