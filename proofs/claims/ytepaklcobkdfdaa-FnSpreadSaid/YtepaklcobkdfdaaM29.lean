/-
  The spread of Bayer's matrices at the levels that the law asks for.
-/
import Derived.Test.YtepaklcobkdfdaaM9
import Derived.Test.YtepaklcobkdfdaaD26
namespace Go.Proofs.Ytepaklcobkdfdaa
open Go.RowKit
set_option linter.unusedVariables false
set_option linter.unusedSimpArgs false

theorem wayG_mul {d W s : Int} (hW : 1 ≤ W) (hs : 1 ≤ s) (h1 : d % s = 0) (h2 : W % s = 0) : wayG d W = 0 ∨ s ≤ wayG d W := by
  have b1 := Int.emod_nonneg d (show W ≠ 0 by omega)
  have b2 := Int.emod_lt_of_pos d (show 0 < W by omega)
  have e1 : d % W % s = 0 := by rw [Int.emod_emod_of_dvd d (Int.dvd_of_emod_eq_zero h2)]; exact h1
  have e2 : (W - d % W) % s = 0 := by rw [Int.sub_emod, h2, e1]; simp
  have k1 : ∀ z : Int, 0 ≤ z → z % s = 0 → z = 0 ∨ s ≤ z := fun z z0 hz => by
    by_cases c : z < s
    · rw [Int.emod_eq_of_lt z0 c] at hz; exact Or.inl hz
    · exact Or.inr (by omega)
  have k2 := k1 _ b1 e1
  have k3 := k1 _ (by omega : 0 ≤ W - d % W) e2
  unfold wayG
  omega

theorem sq_le {s x : Int} (h0 : 1 ≤ s) (h : s ≤ x) : s * s ≤ x * x := Int.mul_le_mul h h (by omega) (by omega)

theorem far_mul {W s : Int} {n i k : Nat} (hW : 1 ≤ W) (hs : 1 ≤ s) (hn : (n : Int) = W * W) (hi : i < n) (hk : k < n) (hne : i ≠ k) (h0 : W % s = 0)
    (h1 : (i : Int) % W % s = 0) (h2 : (i : Int) / W % s = 0) (h3 : (k : Int) % W % s = 0) (h4 : (k : Int) / W % s = 0) : s * s ≤ farG W W i k := by
  have hp := farG_pos hW hW hn hi hk hne
  have a := wayG_mul (d := (i : Int) % W - (k : Int) % W) hW hs (by rw [Int.sub_emod, h1, h3]; simp) h0
  have b := wayG_mul (d := (i : Int) / W - (k : Int) / W) hW hs (by rw [Int.sub_emod, h2, h4]; simp) h0
  unfold farG at hp ⊢
  obtain ⟨X, hX⟩ : ∃ X, wayG ((i : Int) % W - (k : Int) % W) W = X := ⟨_, rfl⟩
  obtain ⟨Y, hY⟩ : ∃ Y, wayG ((i : Int) / W - (k : Int) / W) W = Y := ⟨_, rfl⟩
  rw [hX, hY] at hp ⊢
  rw [hX] at a
  rw [hY] at b
  have n1 : 0 ≤ X * X := by rcases a with a | a; · rw [a]; decide
                            · exact sq_nn (by omega)
  have n2 : 0 ≤ Y * Y := by rcases b with b | b; · rw [b]; decide
                            · exact sq_nn (by omega)
  rcases a with a | a
  · rcases b with b | b
    · rw [a, b] at hp; simp at hp
    · have := sq_le hs b; omega
  · have := sq_le hs a; omega

def spreadAll : Bool := [(1, 1), (2, 1), (2, 2), (3, 1), (3, 2), (3, 3), (4, 1), (4, 2), (4, 3), (4, 4)].all (fun q =>
  decide (farG (2 ^ q.1) (2 ^ q.1) (2 ^ (q.1 - q.2)) 0 = 2 ^ (q.1 - q.2) * 2 ^ (q.1 - q.2)) && (decide ((2 : Int) ^ q.1 % 2 ^ (q.1 - q.2) = 0) && (decide ((bayerM q.1).ranks.getD (2 ^ (q.1 - q.2)) 0 < 4 ^ q.2) && (decide ((bayerM q.1).ranks.getD 0 0 < 1) && (decide (2 ^ (q.1 - q.2) < 4 ^ q.1) &&
  (List.range (4 ^ q.1)).all (fun i => decide ((bayerM q.1).ranks.getD i 0 < 4 ^ q.2 → (i : Int) % 2 ^ q.1 % 2 ^ (q.1 - q.2) = 0 ∧ (i : Int) / 2 ^ q.1 % 2 ^ (q.1 - q.2) = 0)))))))

theorem spreadAll_ok : spreadAll = true := by decide +kernel

def spreadTwo : Bool := [1, 2, 3, 4].all (fun k =>
  decide (farG (2 ^ k) (2 ^ k) (2 ^ (k - 1) * 2 ^ k + 2 ^ (k - 1)) 0 = 2 * 2 ^ (k - 1) * 2 ^ (k - 1)) && (decide ((bayerM k).ranks.getD (2 ^ (k - 1) * 2 ^ k + 2 ^ (k - 1)) 0 < 2) && (decide ((bayerM k).ranks.getD 0 0 < 1) && (decide (2 ^ (k - 1) * 2 ^ k + 2 ^ (k - 1) < 4 ^ k) &&
  (List.range (4 ^ k)).all (fun i => decide (((bayerM k).ranks.getD i 0 < 2 → i = 0 ∨ i = 2 ^ (k - 1) * 2 ^ k + 2 ^ (k - 1)) ∧ ((bayerM k).ranks.getD i 0 < 1 → i = 0)))))))

theorem spreadTwo_ok : spreadTwo = true := by decide +kernel

theorem IsB.cells {k : Nat} {W : Int} {n : Nat} {xs : List Int} (h : IsB k W n xs) {l : Int} (h0 : 0 ≤ l) (h1 : l ≤ n) : cellsF W W xs l = ⟨W, W, xs.map (cellsG l)⟩ := by
  obtain ⟨b1, b2, b3, b4, b5, b6⟩ := h.bd
  unfold cellsF
  rw [if_pos ⟨h.ok, h0, by rw [h.l]; exact h1, by unfold sizeOk; rw [decide_eq_true_iff]; have := h.q; omega⟩]

theorem cells_at {xs : List Int} {l : Int} {i : Nat} (hi : i < xs.length) : (xs.map (cellsG l)).getD i 0 = 1 ↔ xs.getD i 0 < l := by
  simp only [List.getD, List.getElem?_map, List.getElem?_eq_getElem hi, Option.map_some, Option.getD_some, cellsG]
  by_cases c : xs[i] < l
  · simp [c]
  · simp [c]

theorem IsB.spread {k : Nat} {W : Int} {n : Nat} {xs : List Int} (h : IsB k W n xs) {l : Int} (h0 : 0 ≤ l) (h1 : l ≤ n) :
    Least (farG W W) (fun i j => i < n ∧ j < i ∧ xs.getD i 0 < l ∧ xs.getD j 0 < l) (spreadP (cellsF W W xs l)) := by
  have a := spread_is (cells_plateB W W xs l)
  rw [h.cells h0 h1] at a ⊢
  dsimp only at a
  refine a.same (fun i j => ?_)
  rw [List.length_map, h.l]
  constructor
  · rintro ⟨x1, x2, x3, x4⟩
    exact ⟨x1, x2, (cells_at (by rw [h.l]; omega)).1 x3, (cells_at (by rw [h.l]; omega)).1 x4⟩
  · rintro ⟨x1, x2, x3, x4⟩
    exact ⟨x1, x2, (cells_at (by rw [h.l]; omega)).2 x3, (cells_at (by rw [h.l]; omega)).2 x4⟩

theorem spread_pow {k j : Nat} {W : Int} {n : Nat} {xs : List Int} (h : IsB k W n xs) (j1 : 1 ≤ j) (jk : j ≤ k) {s l : Int} (hs : s = 2 ^ (k - j)) (hl : l = 4 ^ j) (hn : l ≤ n) : spreadP (cellsF W W xs l) = s * s := by
  have hmem : ∀ k, k < 5 → ∀ j, j < k + 1 → 1 ≤ j → (k, j) ∈ [(1, 1), (2, 1), (2, 2), (3, 1), (3, 2), (3, 3), (4, 1), (4, 2), (4, 3), (4, 4)] := by
    intro k hk j hj h1
    have e1 : k = 1 ∨ k = 2 ∨ k = 3 ∨ k = 4 := by omega
    have e2 : j = 1 ∨ j = 2 ∨ j = 3 ∨ j = 4 := by omega
    rcases e1 with rfl | rfl | rfl | rfl <;> rcases e2 with rfl | rfl | rfl | rfl <;> first | omega | simp
  have q := List.all_eq_true.1 spreadAll_ok (k, j) (hmem k (by have := h.k4; omega) j (by omega) j1)
  simp only [Bool.and_eq_true, decide_eq_true_eq, List.all_eq_true, List.mem_range] at q
  obtain ⟨q1, q2, q3, q4, q5, q6⟩ := q
  have e1 : (bayerM k).ranks = xs := by rw [h.m]
  have e2 : (4 : Nat) ^ k = n := h.n4.symm
  have e3 : (2 : Int) ^ k = W := h.w.symm
  rw [e1] at q3 q4 q6
  rw [e2] at q5 q6
  rw [e3] at q1 q2 q6
  rw [← hs] at q1 q2 q6
  rw [← hl] at q3 q6
  have s1 : 1 ≤ s := by rw [hs]; exact Int.le_of_lt_add_one (by have : (0 : Int) < 2 ^ (k - j) := Int.pow_pos (by omega); omega)
  have l1 : 1 ≤ l := by rw [hl]; have : (0 : Int) < 4 ^ j := Int.pow_pos (by omega); omega
  have S := h.spread (by omega : 0 ≤ l) hn
  obtain ⟨b1, b2, b3, b4, b5, b6⟩ := h.bd
  refine Least.one S (b' := s * s) (S' := fun i j => i < n ∧ j < i ∧ xs.getD i 0 < l ∧ xs.getD j 0 < l) (Or.inr ⟨sq_pos s1, ⟨2 ^ (k - j), 0, ⟨q5, Nat.pow_pos (by omega), q3, by omega⟩, q1⟩, ?_⟩) (fun i j => farG_symm b1 b1 i j) (fun i j x => Or.inl x) (fun i j x => Or.inl x)
  rintro i m ⟨x1, x2, x3, x4⟩
  obtain ⟨y1, y2⟩ := q6 i x1 x3
  obtain ⟨y3, y4⟩ := q6 m (by omega) x4
  exact far_mul b1 s1 h.q x1 (by omega) (by omega) q2 y1 y2 y3 y4

theorem spread_two {k : Nat} {W : Int} {n : Nat} {xs : List Int} (h : IsB k W n xs) (k1 : 1 ≤ k) {s : Int} (hs : s = 2 ^ (k - 1)) (hn : 2 ≤ n) : spreadP (cellsF W W xs 2) = 2 * s * s ∧ spreadP (cellsF W W xs 1) = 0 := by
  have hmem : ∀ k, k < 5 → 1 ≤ k → k ∈ [1, 2, 3, 4] := by
    intro k hk h1
    simp; omega
  have q := List.all_eq_true.1 spreadTwo_ok k (hmem k (by have := h.k4; omega) k1)
  simp only [Bool.and_eq_true, decide_eq_true_eq, List.all_eq_true, List.mem_range] at q
  obtain ⟨q1, q2, q3, q4, q5⟩ := q
  have e1 : (bayerM k).ranks = xs := by rw [h.m]
  have e2 : (4 : Nat) ^ k = n := h.n4.symm
  have e3 : (2 : Int) ^ k = W := h.w.symm
  rw [e1] at q2 q3 q5
  rw [e2] at q4 q5
  rw [e3] at q1
  rw [← hs] at q1
  obtain ⟨m, hm⟩ : ∃ m : Nat, 2 ^ (k - 1) * 2 ^ k + 2 ^ (k - 1) = m := ⟨_, rfl⟩
  have hm0 : 0 < m := by rw [← hm]; have : 0 < 2 ^ (k - 1) := Nat.pow_pos (by omega); omega
  rw [hm] at q1 q2 q4 q5
  have s1 : 1 ≤ s := by rw [hs]; have : (0 : Int) < 2 ^ (k - 1) := Int.pow_pos (by omega); omega
  have s2 : 1 ≤ 2 * s * s := by have := sq_pos s1; have e : 2 * s * s = 2 * (s * s) := Int.mul_assoc _ _ _; omega
  obtain ⟨b1, b2, b3, b4, b5, b6⟩ := h.bd
  have S := h.spread (l := 2) (by omega) (by omega)
  have T := h.spread (l := 1) (by omega) (by omega)
  refine ⟨?_, ?_⟩
  · refine Least.one S (b' := 2 * s * s) (S' := fun i j => i < n ∧ j < i ∧ xs.getD i 0 < 2 ∧ xs.getD j 0 < 2) (Or.inr ⟨s2, ⟨m, 0, ⟨q4, hm0, q2, by omega⟩, q1⟩, ?_⟩) (fun i j => farG_symm b1 b1 i j) (fun i j x => Or.inl x) (fun i j x => Or.inl x)
    rintro i j ⟨x1, x2, x3, x4⟩
    have y1 := (q5 i x1).1 x3
    have y2 := (q5 j (by omega)).1 x4
    have e1 : i = m := by omega
    have e2 : j = 0 := by omega
    rw [e1, e2, q1]
    exact Int.le_refl _
  · refine Least.zero T ?_
    rintro i j ⟨x1, x2, x3, x4⟩
    have y1 := (q5 i x1).2 x3
    omega

end Go.Proofs.Ytepaklcobkdfdaa
