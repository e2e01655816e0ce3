/-
  The lattices that a law draws: each name lies equally often in a square of a period. Nothing of the program.
-/
import Derived.Test.YtflegojobchgdaaM36
namespace Go.Proofs.Ytflegojobchgdaa
set_option linter.unusedVariables false
set_option linter.unusedSimpArgs false

def lats16 : List (Int × Int) := [(1, 0), (1, 1), (2, 0), (2, 1), (1, 2), (3, 1), (2, 2), (3, 2), (3, 0), (4, 0), (3, 3), (2, 3), (4, 2), (1, 3), (4, 4), (2, 4)]

set_option maxRecDepth 100000 in
theorem even_all : (lats16.all (fun c => evenB c.1 c.2 (perI c.1 c.2) (areaI c.1 c.2).toNat (perI c.1 c.2).toNat)) = true := by decide +kernel

theorem tryName_is {A B x y : Int} {K N : Nat} (h : IsName A B x y (K : Int)) (u : ∀ K' : Nat, K' < N → HasL A B (x - (K' : Int) % perI A B) (y - (K' : Int) / perI A B) → K' = K) (hK : K < N) : tryName A B (perI A B) x y N = K := by
  induction N with
  | zero => omega
  | succ N ih =>
    unfold tryName
    by_cases c : HasL A B (x - (N : Int) % perI A B) (y - (N : Int) / perI A B)
    · rw [if_pos c]; exact u N (by omega) c
    · rw [if_neg c]
      have : K ≠ N := fun e => c (by subst e; exact h.2.2)
      exact ih (fun K' h1 h2 => u K' (by omega) h2) (by omega)

/-- Each name of a square of a period lies there so often. -/
theorem even_names {A B d : Int} {N : Nat} {g a b p q : Int} (L : Lat A B (N : Int) g d a b p q) (hm : (A, B) ∈ lats16) (D n : Nat) (hD : (D : Int) = d) (hn : n = D * D) (nm : Nat → Nat) (hnm : ∀ i, i < n → IsName A B ((i : Int) % d) ((i : Int) / d) (nm i : Int)) :
    ∀ K, K < N → ((List.range n).map nm).count K = n / N := by
  have h0 := List.all_eq_true.1 even_all _ hm
  simp only at h0
  rw [L.hn, L.hw] at h0
  have hDd : d.toNat = D := by omega
  rw [hDd, show ((N : Int)).toNat = N by omega] at h0
  unfold evenB at h0
  subst hn
  intro K hK
  have h1 := List.all_eq_true.1 h0 K (by simpa using hK)
  have h2 := eq_of_beq h1
  rw [← h2, List.count, List.countP_map]
  refine List.countP_congr (fun i hi => ?_)
  simp at hi
  have hN := hnm i hi
  have hlt := (L.isName.1 hN).2.1
  have e : tryName A B d ((i : Int) % d) ((i : Int) / d) N = nm i := by
    rw [← L.hw]
    refine tryName_is (by rw [L.hw]; exact hN) (fun K' h3 h4 => ?_) (by omega)
    rw [L.hw] at h4
    have e3 := L.name_one (L.isName.2 ⟨by omega, by omega, h4⟩) hN
    omega
  simp only [Function.comp]
  rw [e]
  simp [Nat.beq_eq]

/-- The cells of a square of a period whose place is below a level. -/
theorem even_below {A B d : Int} {N : Nat} {g a b p q : Int} (L : Lat A B (N : Int) g d a b p q) (hm : (A, B) ∈ lats16) (D n : Nat) (hD : (D : Int) = d) (hn : n = D * D) (nm : Nat → Nat) (hnm : ∀ i, i < n → IsName A B ((i : Int) % d) ((i : Int) / d) (nm i : Int)) (key : Int → Int) (k : Nat) (hk : k ≤ N) :
    (List.range n).countP (fun i => decide (placeC key (nm i : Int) N < k)) = k * (n / N) := by
  have h := count_each (fun K => decide (placeC key (K : Int) N < k)) (n / N) N ((List.range n).map nm) (fun x hx => by
    simp at hx
    obtain ⟨i, hi, rfl⟩ := hx
    have := (L.isName.1 (hnm i hi)).2.1
    omega) (even_names L hm D n hD hn nm hnm)
  rw [List.countP_map, places_below key N k hk] at h
  rw [Nat.mul_comm]
  exact h

end Go.Proofs.Ytflegojobchgdaa
