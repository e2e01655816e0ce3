/-
  How often a name lies in a square of a period, and how many cells have a place below a level. Nothing of the program.
-/
import Derived.Test.YtflegojobchgdaaM35
import Derived.Test.YtflegojobchgdaaM32
namespace Go.Proofs.Ytflegojobchgdaa
set_option linter.unusedVariables false
set_option linter.unusedSimpArgs false

/-- Which comes before has the lesser place. -/
theorem placeC_lt {key : Int → Int} {x y : Int} {n : Nat} (h : RL key x y) (hx : ∃ k : Nat, k < n ∧ (k : Int) = x) : placeC key x n < placeC key y n := by
  obtain ⟨k0, hk0, e0⟩ := hx
  have mono : ∀ m, placeC key x m ≤ placeC key y m ∧ (k0 < m → placeC key x m < placeC key y m) := by
    intro m
    induction m with
    | zero => exact ⟨Nat.le_refl _, fun h => by omega⟩
    | succ m ih =>
      unfold placeC
      by_cases c : RLb key (m : Int) x = true
      · have c2 : RLb key (m : Int) y = true := RLb_iff.2 ((RLb_iff.1 c).trans h)
        rw [if_pos c, if_pos c2]
        refine ⟨by omega, fun hm => ?_⟩
        by_cases e : k0 = m
        · subst e; rw [e0] at c; exact absurd (RLb_iff.1 c) RL.irrefl
        · have := ih.2 (by omega); omega
      · rw [if_neg c]
        refine ⟨by split <;> omega, fun hm => ?_⟩
        by_cases e : k0 = m
        · subst e
          rw [if_pos (RLb_iff.2 (by rw [e0]; exact h))]
          omega
        · have := ih.2 (by omega)
          split <;> omega
  exact (mono n).2 hk0

theorem placeC_bd {key : Int → Int} {n K : Nat} (hK : K < n) : placeC key (K : Int) n < n := by
  have step : ∀ m, placeC key (K : Int) m ≤ m ∧ (K < m → placeC key (K : Int) m < m) := by
    intro m
    induction m with
    | zero => exact ⟨Nat.le_refl _, fun h => by omega⟩
    | succ m ih =>
      unfold placeC
      refine ⟨by split <;> omega, fun hm => ?_⟩
      by_cases e : K = m
      · subst e
        rw [if_neg (fun c => RL.irrefl (RLb_iff.1 c))]
        omega
      · have := ih.2 (by omega)
        split <;> omega
  exact (step n).2 hK

theorem placeC_inj {key : Int → Int} {n i j : Nat} (hi : i < n) (hj : j < n) (e : placeC key (i : Int) n = placeC key (j : Int) n) : i = j := by
  by_cases c : i = j
  · exact c
  · exfalso
    by_cases r : RL key (i : Int) (j : Int)
    · have := placeC_lt r ⟨i, hi, rfl⟩; omega
    · have := placeC_lt (RL.of_not r (by omega)) ⟨j, hj, rfl⟩; omega

theorem places_perm (key : Int → Int) (n : Nat) : ((List.range n).map (fun (i : Nat) => placeC key (i : Int) n)).Perm (List.range n) :=
  range_perm (fun i hi => placeC_bd hi) (fun i j hi hj e => placeC_inj hi hj e)

/-- So many places lie below a level. -/
theorem places_below (key : Int → Int) (n k : Nat) (hk : k ≤ n) : (List.range n).countP (fun (i : Nat) => decide (placeC key (i : Int) n < k)) = k := by
  have h := (places_perm key n).countP_eq (fun (x : Nat) => decide (x < k))
  rw [List.countP_map, count_below n k hk] at h
  exact h

/-- A list that has each of the first N numbers c times. -/
theorem count_each (P : Nat → Bool) (c : Nat) : ∀ (N : Nat) (xs : List Nat), (∀ x, x ∈ xs → x < N) → (∀ K, K < N → xs.count K = c) → xs.countP P = c * (List.range N).countP P
  | 0, xs, h1, _ => by
    have : xs = [] := by
      cases xs with
      | nil => rfl
      | cons a t => exact absurd (h1 a (List.mem_cons_self ..)) (by omega)
    subst this; simp
  | N + 1, xs, h1, h2 => by
    have ih := count_each P c N (xs.filter (fun x => decide (x < N))) (fun x hx => by simpa using (List.mem_filter.1 hx).2) (fun K hK => by
      rw [List.count_filter (by simpa using hK)]; exact h2 K (by omega))
    have split : xs.countP P = (xs.filter (fun x => decide (x < N))).countP P + (if P N = true then xs.count N else 0) := by
      clear ih h2
      induction xs with
      | nil => simp
      | cons a t iht =>
        have ha := h1 a (List.mem_cons_self ..)
        have iht := iht (fun x hx => h1 x (List.mem_cons_of_mem _ hx))
        by_cases e : a = N
        · subst e
          rw [List.filter_cons_of_neg (by simp), List.countP_cons, List.count_cons_self]
          by_cases p : P a = true <;> simp [p] at iht ⊢ <;> omega
        · rw [List.filter_cons_of_pos (by simp; omega), List.countP_cons, List.countP_cons, List.count_cons_of_ne e]
          omega
    rw [split, ih, List.range_succ, List.countP_append, Nat.mul_add, h2 N (by omega)]
    by_cases p : P N = true <;> simp [p]

/-- The name of a point, by trying. -/
def tryName (A B d x y : Int) : Nat → Nat
  | 0 => 0
  | k + 1 => if HasL A B (x - (k : Int) % d) (y - (k : Int) / d) then k else tryName A B d x y k

/-- Each name lies so often in the square. -/
def evenB (A B d : Int) (N D : Nat) : Bool := (List.range N).all (fun K => (List.range (D * D)).countP (fun (i : Nat) => Nat.beq (tryName A B d ((i : Int) % d) ((i : Int) / d) N) K) == D * D / N)

end Go.Proofs.Ytflegojobchgdaa
