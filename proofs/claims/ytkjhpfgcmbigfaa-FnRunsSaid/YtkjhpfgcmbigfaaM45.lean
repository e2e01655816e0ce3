/-
  Runs of equal amounts, plain: a plate's runs are the one list that gives it back. Nothing of the program.
-/
import Derived.Test.YtkjhpfgcmbigfaaM43
namespace Go.Proofs.Ytkjhpfgcmbigfaa
set_option linter.unusedVariables false
set_option linter.unusedSimpArgs false

/-- The amounts of the runs, the first of the amount c, then alternating. -/
def spell (c : Int) : List Int → List Int
  | [] => []
  | n :: r => List.replicate n.toNat c ++ spell (1 - c) r

/-- The amount of run j. -/
def colR (c : Int) (j : Nat) : Int := if j % 2 = 0 then c else 1 - c

theorem colR_succ (c : Int) (j : Nat) : colR c (j + 1) = colR (1 - c) j := by
  unfold colR
  by_cases h : j % 2 = 0
  · rw [if_neg (by omega), if_pos h]
  · rw [if_pos (by omega), if_neg h]; omega

theorem spell_snoc (c : Int) (r : List Int) (m : Int) : spell c (r ++ [m]) = spell c r ++ List.replicate m.toNat (colR c r.length) := by
  induction r generalizing c with
  | nil => simp [spell, colR]
  | cons n r ih =>
    simp only [List.cons_append, spell, ih, List.length_cons, colR_succ, List.append_assoc]

/-- Runs as RunsOf makes them: the first may be empty, the others not. -/
def runsOk : List Int → Bool
  | [] => false
  | n :: r => decide (0 ≤ n) && r.all (fun v => decide (1 ≤ v))

theorem spell_len {r : List Int} (h : ∀ v, v ∈ r → 0 ≤ v) (c : Int) : ((spell c r).length : Int) = isum r := by
  induction r generalizing c with
  | nil => rfl
  | cons n r ih =>
    have := h n (by simp)
    simp only [spell, List.length_append, List.length_replicate, isum]
    push_cast
    rw [ih (fun v hv => h v (by simp [hv]))]
    omega

theorem spell_inj : ∀ (c : Int) (r s : List Int), (∀ v, v ∈ r → 1 ≤ v) → (∀ v, v ∈ s → 1 ≤ v) → spell c r = spell c s → r = s
  | c, [], [], _, _, _ => rfl
  | c, [], m :: s, _, hs, e => by
    exfalso
    have := hs m (by simp)
    obtain ⟨k, hk⟩ : ∃ k, m.toNat = k + 1 := ⟨m.toNat - 1, by omega⟩
    simp [spell, hk, List.replicate_succ] at e
  | c, n :: r, [], hr, _, e => by
    exfalso
    have := hr n (by simp)
    obtain ⟨k, hk⟩ : ∃ k, n.toNat = k + 1 := ⟨n.toNat - 1, by omega⟩
    simp [spell, hk, List.replicate_succ] at e
  | c, n :: r, m :: s, hr, hs, e => by
    have hn := hr n (by simp)
    have hm := hs m (by simp)
    have hr' : ∀ v, v ∈ r → 1 ≤ v := fun v hv => hr v (by simp [hv])
    have hs' : ∀ v, v ∈ s → 1 ≤ v := fun v hv => hs v (by simp [hv])
    have hne : c ≠ 1 - c := by omega
    -- the first of what is behind a run is of the other amount
    have head : ∀ (q : List Int), (∀ v, v ∈ q → 1 ≤ v) → ∀ x, (spell (1 - c) q)[0]? = some x → x = 1 - c := by
      intro q hq x hx
      cases q with
      | nil => simp [spell] at hx
      | cons a t =>
        have ha := hq a (by simp)
        obtain ⟨k, hk⟩ : ∃ k, a.toNat = k + 1 := ⟨a.toNat - 1, by omega⟩
        simp [spell, hk, List.replicate_succ] at hx
        omega
    simp only [spell] at e
    have key : n.toNat = m.toNat := by
      rcases Nat.lt_trichotomy n.toNat m.toNat with h | h | h
      · exfalso
        have e2 := congrArg (fun l => l[n.toNat]?) e
        rw [List.getElem?_append_right (by simp), List.getElem?_append_left (by simp; omega)] at e2
        simp only [List.length_replicate, Nat.sub_self, List.getElem?_replicate, if_pos h] at e2
        exact hne (head r hr' _ e2)
      · exact h
      · exfalso
        have e2 := congrArg (fun l => l[m.toNat]?) e
        rw [List.getElem?_append_left (by simp; omega), List.getElem?_append_right (by simp)] at e2
        simp only [List.length_replicate, Nat.sub_self, List.getElem?_replicate, if_pos h] at e2
        exact hne (head s hs' _ e2.symm)
    rw [key] at e
    have e3 := List.append_cancel_left e
    rw [spell_inj (1 - c) r s hr' hs' e3, show n = m by omega]

theorem runsOk_cons {n : Int} {r : List Int} (h : runsOk (n :: r) = true) : 0 ≤ n ∧ ∀ v, v ∈ r → 1 ≤ v := by
  unfold runsOk at h
  simp only [Bool.and_eq_true, decide_eq_true_eq, List.all_eq_true] at h
  exact h

/-- Two lists of runs of one plate are one list. -/
theorem runs_one {r s : List Int} (hr : runsOk r = true) (hs : runsOk s = true) (e : spell 0 r = spell 0 s) : r = s := by
  cases r with
  | nil => cases hr
  | cons n r =>
    cases s with
    | nil => cases hs
    | cons m s =>
      obtain ⟨n0, nr⟩ := runsOk_cons hr
      obtain ⟨m0, ms⟩ := runsOk_cons hs
      by_cases hn : n = 0
      · by_cases hm : m = 0
        · subst hn hm
          simp only [spell] at e
          rw [spell_inj _ r s nr ms (by simpa using e)]
        · exfalso
          subst hn
          have : (spell 0 (m :: s))[0]? = some 0 := by
            obtain ⟨k, hk⟩ : ∃ k, m.toNat = k + 1 := ⟨m.toNat - 1, by omega⟩
            simp [spell, hk, List.replicate_succ]
          rw [← e] at this
          cases r with
          | nil => simp [spell] at this
          | cons a t =>
            have ha := nr a (by simp)
            obtain ⟨k, hk⟩ : ∃ k, a.toNat = k + 1 := ⟨a.toNat - 1, by omega⟩
            simp [spell, hk, List.replicate_succ] at this
      · by_cases hm : m = 0
        · exfalso
          subst hm
          have : (spell 0 (n :: r))[0]? = some 0 := by
            obtain ⟨k, hk⟩ : ∃ k, n.toNat = k + 1 := ⟨n.toNat - 1, by omega⟩
            simp [spell, hk, List.replicate_succ]
          rw [e] at this
          cases s with
          | nil => simp [spell] at this
          | cons a t =>
            have ha := ms a (by simp)
            obtain ⟨k, hk⟩ : ∃ k, a.toNat = k + 1 := ⟨a.toNat - 1, by omega⟩
            simp [spell, hk, List.replicate_succ] at this
        · exact spell_inj 0 (n :: r) (m :: s) (fun v hv => by
            rcases List.mem_cons.1 hv with h | h
            · omega
            · exact nr v h) (fun v hv => by
            rcases List.mem_cons.1 hv with h | h
            · omega
            · exact ms v h) e

/-- The runs of the first k amounts: the list, as RunsOf of the model goes. -/
def runsTo (xs : List Int) : Nat → List Int
  | 0 => [0]
  | k + 1 => if xs.getD k 0 = colR 0 ((runsTo xs k).length - 1) then (runsTo xs k).set ((runsTo xs k).length - 1) ((runsTo xs k).getD ((runsTo xs k).length - 1) 0 + 1) else runsTo xs k ++ [1]

def runsG (xs : List Int) : List Int := runsTo xs xs.length

theorem runsOk_snoc {r : List Int} (h : runsOk r = true) : runsOk (r ++ [1]) = true := by
  cases r with
  | nil => cases h
  | cons n r =>
    unfold runsOk at h ⊢
    simp only [List.cons_append, Bool.and_eq_true, decide_eq_true_eq, List.all_append] at h ⊢
    exact ⟨h.1, h.2, by simp⟩

theorem runsOk_last {r : List Int} {x : Int} (h : runsOk (r ++ [x]) = true) : runsOk (r ++ [x + 1]) = true := by
  cases r with
  | nil =>
    unfold runsOk at h ⊢
    simp only [List.nil_append, Bool.and_eq_true, decide_eq_true_eq, List.all_nil] at h ⊢
    exact ⟨by omega, trivial⟩
  | cons n r =>
    unfold runsOk at h ⊢
    simp only [List.cons_append, Bool.and_eq_true, decide_eq_true_eq, List.all_append, List.all_cons, List.all_nil, Bool.and_true] at h ⊢
    exact ⟨h.1, h.2.1, by omega⟩

theorem runsTo_inv {xs : List Int} (hx : ∀ k, k < xs.length → xs.getD k 0 = 0 ∨ xs.getD k 0 = 1) (k : Nat) (hk : k ≤ xs.length) : runsOk (runsTo xs k) = true ∧ spell 0 (runsTo xs k) = xs.take k ∧ (runsTo xs k).length ≤ k + 1 ∧ 1 ≤ (runsTo xs k).length := by
  induction k with
  | zero => exact ⟨by simp [runsTo, runsOk], by simp [runsTo, spell], by simp [runsTo], by simp [runsTo]⟩
  | succ k ih =>
    obtain ⟨h1, h2, h3, h4⟩ := ih (by omega)
    have ht : xs.take (k + 1) = xs.take k ++ [xs.getD k 0] := by
      rw [List.take_succ_eq_append_getElem (by omega)]
      simp [List.getD, List.getElem?_eq_getElem (show k < xs.length by omega)]
    obtain ⟨r, x, hr⟩ : ∃ r x, runsTo xs k = r ++ [x] := by
      refine ⟨(runsTo xs k).dropLast, (runsTo xs k).getLast (by intro e; rw [e] at h4; simp at h4), ?_⟩
      rw [List.dropLast_concat_getLast]
    unfold runsTo
    rw [hr] at h1 h2 h3 ⊢
    have hx0 : 0 ≤ x := by
      cases r with
      | nil => unfold runsOk at h1; simp at h1; exact h1
      | cons n r =>
        have := (runsOk_cons (n := n) (r := r ++ [x]) (by simpa using h1)).2 x (by simp)
        omega
    simp only [List.length_append, List.length_cons, List.length_nil, Nat.zero_add, Nat.add_sub_cancel] at h3 ⊢
    by_cases e : xs.getD k 0 = colR 0 r.length
    · rw [if_pos e]
      have hg : (r ++ [x]).getD r.length 0 = x := by simp [List.getD]
      have hs : (r ++ [x]).set r.length ((r ++ [x]).getD r.length 0 + 1) = r ++ [x + 1] := by
        rw [hg, List.set_append]
        simp
      rw [hs]
      refine ⟨runsOk_last h1, ?_, by simp; omega, by simp⟩
      rw [spell_snoc, ht, ← h2, spell_snoc, List.append_assoc, e, show (x + 1).toNat = x.toNat + 1 by omega, List.replicate_succ']
    · rw [if_neg e]
      refine ⟨runsOk_snoc h1, ?_, by simp; omega, by simp⟩
      rw [spell_snoc, h2, ht]
      congr 1
      have hc : colR 0 (r ++ [x]).length = xs.getD k 0 := by
        rw [List.length_append, List.length_singleton, colR_succ]
        unfold colR at e ⊢
        have hq := hx k (by omega)
        by_cases c : r.length % 2 = 0
        · rw [if_pos c] at e ⊢; omega
        · rw [if_neg c] at e ⊢; omega
      rw [hc]
      rfl

theorem runsG_ok {xs : List Int} (hx : ∀ k, k < xs.length → xs.getD k 0 = 0 ∨ xs.getD k 0 = 1) : runsOk (runsG xs) = true ∧ spell 0 (runsG xs) = xs := by
  obtain ⟨h1, h2, _⟩ := runsTo_inv hx xs.length (Nat.le_refl _)
  exact ⟨h1, by unfold runsG; rw [h2, List.take_length]⟩

/-- The dots are in every second run. -/
theorem spell_sum (c : Int) (hc : c = 0 ∨ c = 1) : ∀ (r : List Int), (∀ v, v ∈ r → 0 ≤ v) → isum (spell c r) = sumJ (fun j => r.getD j 0 * colR c j) r.length
  | [], _ => rfl
  | n :: r, h => by
    have h0 := h n (by simp)
    have ih := spell_sum (1 - c) (by omega) r (fun v hv => h v (by simp [hv]))
    have e1 : isum (List.replicate n.toNat c) = n * c := by
      obtain ⟨m, hm⟩ : ∃ m : Nat, n = m := ⟨n.toNat, by omega⟩
      subst hm
      simp only [Int.toNat_natCast]
      induction m with
      | zero => simp [isum]
      | succ m ihm =>
        rw [List.replicate_succ, isum, ihm (fun v hv => by
          rcases List.mem_cons.1 hv with q | q
          · omega
          · exact h v (by simp [q])) (by omega)]
        push_cast
        rw [Int.add_mul, Int.one_mul]; omega
    have e2 : sumJ (fun j => (n :: r).getD j 0 * colR c j) (r.length + 1) = n * c + sumJ (fun j => r.getD j 0 * colR (1 - c) j) r.length := by
      rw [Nat.add_comm, sumJ_split]
      congr 1
      · simp [sumJ, colR]
      · exact sumJ_congr (fun j _ => by rw [Nat.add_comm 1 j, colR_succ]; simp [List.getD])
    simp only [spell, List.length_cons]
    rw [isum_append, e1, ih, e2]

end Go.Proofs.Ytkjhpfgcmbigfaa
