/-
  Places in a sorted sequence, plain: the place of a number is how many come before it. Nothing of the program.
-/
import Derived.Test.YtnhjdmdnicnmmaaM34
import Derived.Test.YtnhjdmdnicnmmaaM3
namespace Go.Proofs.Ytnhjdmdnicnmmaa
set_option linter.unusedVariables false
set_option linter.unusedSimpArgs false

def RLb (key : Int → Int) (x y : Int) : Bool := decide (key x < key y) || (decide (key x = key y) && decide (x < y))

theorem RLb_iff {key : Int → Int} {x y : Int} : RLb key x y = true ↔ RL key x y := by unfold RLb RL; simp

/-- How many of the first k come before i. -/
def placeC (key : Int → Int) (i : Int) : Nat → Nat
  | 0 => 0
  | k + 1 => placeC key i k + if RLb key (k : Int) i = true then 1 else 0

theorem placeC_le (key : Int → Int) (i : Int) : ∀ k, placeC key i k ≤ k
  | 0 => Nat.le_refl _
  | k + 1 => by
    have := placeC_le key i k
    unfold placeC
    split <;> omega

theorem placeC_count (key : Int → Int) (i : Int) (n : Nat) : placeC key i n = (List.range n).countP (fun (k : Nat) => RLb key (k : Int) i) := by
  induction n with
  | zero => rfl
  | succ n ih => rw [List.range_succ, List.countP_append, ← ih, placeC]; simp [List.countP_cons]

theorem count_below (n j : Nat) (h : j ≤ n) : (List.range n).countP (fun (k : Nat) => decide (k < j)) = j := by
  induction n with
  | zero => simp at h; subst h; rfl
  | succ n ih =>
    rw [List.range_succ, List.countP_append]
    by_cases e : j = n + 1
    · subst e
      have h1 : (List.range n).countP (fun (k : Nat) => decide (k < n + 1)) = (List.range n).countP (fun _ => true) := List.countP_congr (fun x hx => by simp at hx; simp; omega)
      rw [h1]; simp
    · rw [ih (by omega)]; simp [List.countP_cons]; omega

theorem perm_of_sub : ∀ (xs ys : List Nat), xs.Nodup → xs ⊆ ys → xs.length = ys.length → xs.Perm ys
  | [], ys, _, _, hl => by
    have : ys = [] := List.eq_nil_of_length_eq_zero (by simpa using hl.symm)
    subst this; exact List.Perm.refl _
  | x :: xs, ys, hd, hs, hl => by
    have hx : x ∈ ys := hs (List.mem_cons_self ..)
    have hnx : ¬ x ∈ xs := (List.nodup_cons.1 hd).1
    have h1 : xs ⊆ ys.erase x := fun a ha => (List.mem_erase_of_ne (show a ≠ x from fun e => by subst e; exact hnx ha)).2 (hs (List.mem_cons_of_mem _ ha))
    have h2 : xs.length = (ys.erase x).length := by rw [List.length_erase_of_mem hx]; simp at hl; omega
    exact ((perm_of_sub xs (ys.erase x) (List.nodup_cons.1 hd).2 h1 h2).cons x).trans (List.perm_cons_erase hx).symm

/-- An injection of 0 .. n - 1 into itself, as a list, is those numbers in some order. -/
theorem range_perm {n : Nat} {t : Nat → Nat} (ht : ∀ i, i < n → t i < n) (hi : ∀ i j, i < n → j < n → t i = t j → i = j) : ((List.range n).map t).Perm (List.range n) := by
  have hd : ((List.range n).map t).Nodup := by
    rw [List.Nodup, List.pairwise_map]
    exact List.Pairwise.imp_of_mem (fun {a b} ha hb hab => by
      simp at ha hb
      intro e
      exact hab (hi a b ha hb e)) List.nodup_range
  have hs : (List.range n).map t ⊆ List.range n := by
    intro x hx
    simp at hx ⊢
    obtain ⟨a, ha, rfl⟩ := hx
    exact ht a ha
  exact perm_of_sub _ _ hd hs (by simp)

/-- The place of the number at j is j. -/
theorem place_at {key : Int → Int} {f : Nat → Int} {n j : Nat} (h : Good key f 0 n) (hj : j < n) : placeC key (f j) n = j := by
  have hv : ∀ k, k < n → (0 : Int) ≤ f k ∧ f k < n := fun k hk => by have := h.2 k (Nat.zero_le _) hk; omega
  have lt_iff : ∀ a b, a < n → b < n → (RL key (f a) (f b) ↔ a < b) := by
    intro a b ha hb
    constructor
    · intro hr
      by_cases c : a < b
      · exact c
      · exfalso
        by_cases e : a = b
        · subst e; exact RL.irrefl hr
        · exact RL.irrefl (hr.trans (h.1 b a (Nat.zero_le _) (by omega) ha))
    · intro c; exact h.1 a b (Nat.zero_le _) c hb
  have hp := range_perm (n := n) (t := fun k => (f k).toNat) (fun i hi => by have := hv i hi; omega) (fun i k hi hk e => by
    have h1 := hv i hi; have h2 := hv k hk
    have e2 : f i = f k := by omega
    by_cases c : i = k
    · exact c
    · exfalso
      rcases Nat.lt_or_gt_of_ne c with d | d
      · exact RL.irrefl (e2 ▸ (lt_iff i k hi hk).2 d)
      · exact RL.irrefl (e2 ▸ (lt_iff k i hk hi).2 d))
  rw [placeC_count, ← hp.countP_eq, List.countP_map, ← count_below n j (by omega)]
  refine List.countP_congr (fun k hk => ?_)
  simp at hk
  have h1 := hv k hk
  simp only [Function.comp]
  rw [show (((f k).toNat : Nat) : Int) = f k by omega, RLb_iff, decide_eq_true_eq, count_below n j (by omega)]
  exact lt_iff k j hk hj

/-- Each number has a place. -/
theorem place_onto {key : Int → Int} {f : Nat → Int} {n i : Nat} (h : Good key f 0 n) (hi : i < n) : ∃ j, j < n ∧ f j = (i : Int) := by
  have hv : ∀ k, k < n → (0 : Int) ≤ f k ∧ f k < n := fun k hk => by have := h.2 k (Nat.zero_le _) hk; omega
  have hp := range_perm (n := n) (t := fun k => (f k).toNat) (fun i hi => by have := hv i hi; omega) (fun i k hi hk e => by
    have h1 := hv i hi; have h2 := hv k hk
    have e2 : f i = f k := by omega
    by_cases c : i = k
    · exact c
    · exfalso
      rcases Nat.lt_or_gt_of_ne c with d | d
      · exact RL.irrefl (e2 ▸ h.1 i k (Nat.zero_le _) d hk)
      · exact RL.irrefl (e2 ▸ h.1 k i (Nat.zero_le _) d hi))
  have hm : i ∈ (List.range n).map (fun k => (f k).toNat) := hp.mem_iff.2 (by simpa using hi)
  simp at hm
  obtain ⟨j, hj, e⟩ := hm
  have := hv j hj
  exact ⟨j, hj, by omega⟩

/-- The places that are written in the order of the sequence are how many come before. -/
theorem places_of {key : Int → Int} {f g : Nat → Int} {n : Nat} (h : Good key f 0 n) (hg : ∀ j, j < n → g (f j).toNat = (j : Int)) : ∀ i, i < n → g i = (placeC key (i : Int) n : Int) := by
  intro i hi
  obtain ⟨j, hj, e⟩ := place_onto h hi
  have h1 := hg j hj
  have h2 := place_at h hj
  rw [e] at h1 h2
  rw [h2, ← h1]
  congr 1

end Go.Proofs.Ytnhjdmdnicnmmaa
