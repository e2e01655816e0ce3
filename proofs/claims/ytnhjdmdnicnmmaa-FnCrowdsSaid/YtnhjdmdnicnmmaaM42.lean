/-
  Fields, plain: evening out keeps the dots and stops where a step changes nothing; the crowds add up. Nothing of the program.
-/
import Derived.Test.YtnhjdmdnicnmmaaM40
namespace Go.Proofs.Ytnhjdmdnicnmmaa
set_option linter.unusedVariables false
set_option linter.unusedSimpArgs false

theorem swap_count {W H : Int} {xs : List Int} (h : fieldOk W H xs = true) : icount 1 (swapG W H xs).1 = icount 1 xs := by
  unfold swapG
  rcases tight_cases W H xs with ⟨h1, _⟩ | ⟨i, h1, h2, h3⟩
  · rw [if_pos (by omega)]
  · rw [if_neg (by omega)]
    have e1 := flipT_count h1 h2 h3
    have hw := wide_after (W := W) (H := H) h2
    have ef : flipT W H xs = xs.set i 0 := by unfold flipT; rw [h1]; rfl
    rw [← ef] at hw
    obtain ⟨k, k1, k2, k3⟩ := hw
    have e2 := flipW_count k1 (by rw [tight_len]; exact k2) k3
    simp only []
    omega

theorem even_count {W H : Int} (m : Nat) {xs : List Int} (h : fieldOk W H xs = true) : icount 1 (evenG W H m xs).1 = icount 1 xs := by
  induction m generalizing xs with
  | zero => rfl
  | succ m ih =>
    unfold evenG
    split
    · simp only []
      rw [ih (field_swap h), swap_count h]
    · rfl

theorem even_stop {W H : Int} (m : Nat) {xs : List Int} (h : (evenG W H m xs).2 < m) : (swapG W H (evenG W H m xs).1).2 = false := by
  induction m generalizing xs with
  | zero => omega
  | succ m ih =>
    unfold evenG at h ⊢
    by_cases hs : (swapG W H xs).2 = true
    · rw [if_pos hs] at h ⊢
      exact ih (by simp only [] at h; omega)
    · rw [if_neg hs] at h ⊢
      simpa using hs

/-! Sums over places. -/

def sumI (f : Nat → Int) : Nat → Int
  | 0 => 0
  | n + 1 => sumI f n + f n

theorem sumI_congr {f g : Nat → Int} {n : Nat} (h : ∀ i, i < n → f i = g i) : sumI f n = sumI g n := by
  induction n with
  | zero => rfl
  | succ n ih =>
    unfold sumI
    rw [ih (fun i hi => h i (by omega)), h n (by omega)]

theorem sumI_add (f g : Nat → Int) (n : Nat) : sumI (fun i => f i + g i) n = sumI f n + sumI g n := by
  induction n with
  | zero => rfl
  | succ n ih => unfold sumI; rw [ih]; omega

theorem sumI_zero (n : Nat) : sumI (fun _ => 0) n = 0 := by
  induction n with
  | zero => rfl
  | succ n ih => unfold sumI; rw [ih]; rfl

/-- The crowds at all places, dot by dot. -/
theorem crowds_sum {W H : Int} {xs : List Int} {n : Nat} {S : Int} (k : Nat) (hS : ∀ j, j < k → sumI (fun i => wtG W H i j) n = S) : sumI (fun i => crowdTo W H xs i k) n = S * (icount 1 (xs.take k) : Int) := by
  induction k with
  | zero =>
    have : sumI (fun i => crowdTo W H xs i 0) n = sumI (fun _ => 0) n := sumI_congr (fun i _ => rfl)
    rw [this, sumI_zero]
    simp [icount]
  | succ k ih =>
    have e : sumI (fun i => crowdTo W H xs i (k + 1)) n = sumI (fun i => crowdTo W H xs i k + (if xs.getD k 0 = 1 then wtG W H i k else 0)) n := sumI_congr (fun i _ => rfl)
    rw [e, sumI_add, ih (fun j hj => hS j (by omega))]
    by_cases hk : k < xs.length
    · by_cases h1 : xs.getD k 0 = 1
      · have e2 : sumI (fun i => if xs.getD k 0 = 1 then wtG W H i k else 0) n = sumI (fun i => wtG W H i k) n := sumI_congr (fun i _ => by simp only [if_pos h1])
        rw [e2, hS k (by omega), icount_yes 1 xs k hk (by simpa [List.getD] using h1)]
        push_cast
        rw [Int.mul_add, Int.mul_one]
      · have e2 : sumI (fun i => if xs.getD k 0 = 1 then wtG W H i k else 0) n = sumI (fun _ => 0) n := sumI_congr (fun i _ => by simp only [if_neg h1])
        rw [e2, sumI_zero, icount_no 1 xs k hk (by simpa [List.getD] using h1)]
        omega
    · have h1 : ¬ xs.getD k 0 = 1 := by
        simp [List.getD, List.getElem?_eq_none (show xs.length ≤ k by omega)]
      have e2 : sumI (fun i => if xs.getD k 0 = 1 then wtG W H i k else 0) n = sumI (fun _ => 0) n := sumI_congr (fun i _ => by simp only [if_neg h1])
      rw [e2, sumI_zero, List.take_of_length_le (by omega), List.take_of_length_le (by omega)]
      omega

def rowW (W H : Int) (n k : Nat) : Int := sumI (fun i => wtG W H i k) n
def evenRows (a b : Nat) : Bool := (List.range ((a + 1) * (b + 1))).all (fun k => decide (rowW (a + 1) (b + 1) ((a + 1) * (b + 1)) k = rowW (a + 1) (b + 1) ((a + 1) * (b + 1)) 0))

theorem rows_table : (List.range 6).all (fun a => (List.range 6).all (fun b => evenRows a b)) = true := by decide +kernel

theorem rows_even {W H : Int} {n k : Nat} (h1 : 1 ≤ W) (h2 : W ≤ 6) (h3 : 1 ≤ H) (h4 : H ≤ 6) (hn : (n : Int) = W * H) (hk : k < n) : sumI (fun i => wtG W H i k) n = sumI (fun i => wtG W H i 0) n := by
  obtain ⟨a, ha⟩ : ∃ a : Nat, W = (a : Int) + 1 := ⟨(W - 1).toNat, by omega⟩
  obtain ⟨b, hb⟩ : ∃ b : Nat, H = (b : Int) + 1 := ⟨(H - 1).toNat, by omega⟩
  have hm : n = (a + 1) * (b + 1) := by
    have : (n : Int) = (((a + 1) * (b + 1) : Nat) : Int) := by rw [hn, ha, hb]; push_cast; rfl
    omega
  have t := List.all_eq_true.1 (List.all_eq_true.1 rows_table a (by simp; omega)) b (by simp; omega)
  unfold evenRows at t
  have q := List.all_eq_true.1 t k (by simp; omega)
  simp only [decide_eq_true_eq] at q
  unfold rowW at q
  rw [ha, hb, hm]
  exact q

theorem sumI_bd {f : Nat → Int} {n : Nat} {M : Int} (h : ∀ i, i < n → 0 ≤ f i ∧ f i ≤ M) (k : Nat) (hk : k ≤ n) : 0 ≤ sumI f k ∧ sumI f k ≤ M * k := by
  induction k with
  | zero => simp [sumI]
  | succ k ih =>
    have a := ih (by omega)
    have b := h k (by omega)
    have e : M * ((k + 1 : Nat) : Int) = M * k + M := by push_cast; rw [Int.mul_add, Int.mul_one]
    unfold sumI
    omega

theorem wt_self {W H : Int} (hW : 1 ≤ W) (hH : 1 ≤ H) (i : Nat) : wtG W H i i = 4096 := by
  unfold wtG farG wayG
  rw [Int.sub_self, Int.sub_self]
  simp only [Int.zero_emod, Int.sub_zero]
  rw [show min 0 W = 0 by omega, show min 0 H = 0 by omega]
  rfl

theorem crowds_all {W H : Int} {xs : List Int} {n : Nat} (h1 : 1 ≤ W) (h2 : W ≤ 6) (h3 : 1 ≤ H) (h4 : H ≤ 6) (hn : xs.length = n) (hq : (n : Int) = W * H) : sumI (fun i => crowdG W H xs i) n = sumI (fun i => wtG W H i 0) n * (icount 1 xs : Int) := by
  have h := crowds_sum (W := W) (H := H) (xs := xs) (n := n) (S := sumI (fun i => wtG W H i 0) n) n (fun j hj => rows_even h1 h2 h3 h4 hq hj)
  rw [List.take_of_length_le (by omega)] at h
  rw [← h]
  exact sumI_congr (fun i _ => by unfold crowdG; rw [hn])

end Go.Proofs.Ytnhjdmdnicnmmaa
