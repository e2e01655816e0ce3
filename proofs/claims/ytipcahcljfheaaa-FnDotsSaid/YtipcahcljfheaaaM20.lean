/-
  The least distance among pairs of places on a torus: one value, in whatever order the pairs are gone through. Nothing of the program.
-/
import Derived.Test.YtipcahcljfheaaaM3
namespace Go.Proofs.Ytipcahcljfheaaa
set_option linter.unusedVariables false
set_option linter.unusedSimpArgs false

def wayG (d a : Int) : Int := min (d % a) (a - d % a)
def farG (W H : Int) (i k : Nat) : Int := wayG ((i : Int) % W - (k : Int) % W) W * wayG ((i : Int) % W - (k : Int) % W) W + wayG ((i : Int) / W - (k : Int) / W) H * wayG ((i : Int) / W - (k : Int) / W) H

theorem wayG_bd {d a : Int} (ha : 1 ≤ a) : 0 ≤ wayG d a ∧ wayG d a ≤ a := by
  have h1 := Int.emod_nonneg d (show a ≠ 0 by omega)
  have h2 := Int.emod_lt_of_pos d (show 0 < a by omega)
  unfold wayG
  omega

theorem wayG_neg {d a : Int} (ha : 1 ≤ a) : wayG (-d) a = wayG d a := by
  have h1 := Int.emod_nonneg d (show a ≠ 0 by omega)
  have h2 := Int.emod_lt_of_pos d (show 0 < a by omega)
  have h3 := Int.emod_nonneg (-d) (show a ≠ 0 by omega)
  have h4 := Int.emod_lt_of_pos (-d) (show 0 < a by omega)
  have e : (d % a + (-d) % a) % a = 0 := by
    rw [← Int.add_emod]
    simp [Int.add_right_neg]
  have h5 : d % a + (-d) % a = 0 ∨ d % a + (-d) % a = a := by
    by_cases h : d % a + (-d) % a < a
    · left
      rw [Int.emod_eq_of_lt (by omega) h] at e
      exact e
    · right
      have e2 : (d % a + (-d) % a - a) % a = 0 := by rw [Int.sub_emod_right]; exact e
      rw [Int.emod_eq_of_lt (by omega) (by omega)] at e2
      omega
  unfold wayG
  omega

theorem farG_symm {W H : Int} (hW : 1 ≤ W) (hH : 1 ≤ H) (i k : Nat) : farG W H i k = farG W H k i := by
  unfold farG
  rw [show (i : Int) % W - (k : Int) % W = -((k : Int) % W - (i : Int) % W) by omega, wayG_neg hW, show (i : Int) / W - (k : Int) / W = -((k : Int) / W - (i : Int) / W) by omega, wayG_neg hH]

theorem wayG_pos {d a : Int} (h1 : -a < d) (h2 : d < a) (h3 : d ≠ 0) : 1 ≤ wayG d a := by
  have h4 := Int.emod_lt_of_pos d (show 0 < a by omega)
  have h5 := Int.emod_nonneg d (show a ≠ 0 by omega)
  have h6 : d % a ≠ 0 := by
    by_cases h : 0 ≤ d
    · rw [Int.emod_eq_of_lt h h2]; exact h3
    · have e : (d + a) % a = d % a := Int.add_emod_right d a
      rw [← e, Int.emod_eq_of_lt (by omega) (by omega)]
      omega
  unfold wayG
  omega

theorem sq_pos {x : Int} (h : 1 ≤ x) : 1 ≤ x * x := by
  have := Int.mul_le_mul h h (by omega) (by omega)
  omega

theorem sq_nn {x : Int} (h : 0 ≤ x) : 0 ≤ x * x := Int.mul_nonneg h h

theorem farG_pos {W H : Int} {n i k : Nat} (hW : 1 ≤ W) (hH : 1 ≤ H) (hn : (n : Int) = W * H) (hi : i < n) (hk : k < n) (hne : i ≠ k) : 1 ≤ farG W H i k := by
  have a1 := Int.emod_nonneg (i : Int) (show W ≠ 0 by omega)
  have a2 := Int.emod_lt_of_pos (i : Int) (show 0 < W by omega)
  have a3 := Int.emod_nonneg (k : Int) (show W ≠ 0 by omega)
  have a4 := Int.emod_lt_of_pos (k : Int) (show 0 < W by omega)
  have b1 : 0 ≤ (i : Int) / W := Int.ediv_nonneg (by omega) (by omega)
  have b3 : 0 ≤ (k : Int) / W := Int.ediv_nonneg (by omega) (by omega)
  have b2 : (i : Int) / W < H := Int.ediv_lt_of_lt_mul (by omega) (by rw [Int.mul_comm]; omega)
  have b4 : (k : Int) / W < H := Int.ediv_lt_of_lt_mul (by omega) (by rw [Int.mul_comm]; omega)
  have w1 := (wayG_bd (d := (i : Int) % W - (k : Int) % W) hW).1
  have w2 := (wayG_bd (d := (i : Int) / W - (k : Int) / W) hH).1
  unfold farG
  by_cases h : (i : Int) % W = (k : Int) % W
  · have h2 : (i : Int) / W ≠ (k : Int) / W := fun e => hne (by
      have e1 := Int.emod_add_mul_ediv (i : Int) W
      have e2 := Int.emod_add_mul_ediv (k : Int) W
      rw [h, e] at e1
      omega)
    have := sq_pos (wayG_pos (d := (i : Int) / W - (k : Int) / W) (a := H) (by omega) (by omega) (by omega))
    have := sq_nn w1
    omega
  · have := sq_pos (wayG_pos (d := (i : Int) % W - (k : Int) % W) (a := W) (by omega) (by omega) (by omega))
    have := sq_nn w2
    omega

/-- b is the least distance among the pairs of S; 0 where there is none. -/
def Least (far : Nat → Nat → Int) (S : Nat → Nat → Prop) (b : Int) : Prop :=
  (b = 0 ∧ ∀ i k, ¬ S i k) ∨ (1 ≤ b ∧ (∃ i k, S i k ∧ far i k = b) ∧ ∀ i k, S i k → b ≤ far i k)

theorem Least.none {far : Nat → Nat → Int} {S : Nat → Nat → Prop} (h : ∀ i k, ¬ S i k) : Least far S 0 := Or.inl ⟨rfl, h⟩

theorem Least.same {far : Nat → Nat → Int} {S S' : Nat → Nat → Prop} {b : Int} (h : Least far S b) (e : ∀ i k, S i k ↔ S' i k) : Least far S' b := by
  rcases h with ⟨h1, h2⟩ | ⟨h1, ⟨i, k, h2, h3⟩, h4⟩
  · exact Or.inl ⟨h1, fun i k h => h2 i k ((e i k).2 h)⟩
  · exact Or.inr ⟨h1, ⟨i, k, (e i k).1 h2, h3⟩, fun i k h => h4 i k ((e i k).2 h)⟩

theorem Least.step {far : Nat → Nat → Int} {S : Nat → Nat → Prop} {b : Int} {i k : Nat} (h : Least far S b) (hp : 1 ≤ far i k) :
    Least far (fun x y => S x y ∨ (x = i ∧ y = k)) (if b = 0 ∨ far i k < b then far i k else b) := by
  rcases h with ⟨h1, h2⟩ | ⟨h1, ⟨x, y, h2, h3⟩, h4⟩
  · rw [if_pos (Or.inl h1)]
    exact Or.inr ⟨hp, ⟨i, k, Or.inr ⟨rfl, rfl⟩, rfl⟩, fun x y h => by
      rcases h with h | ⟨rfl, rfl⟩
      · exact absurd h (h2 x y)
      · exact Int.le_refl _⟩
  · by_cases c : far i k < b
    · rw [if_pos (Or.inr c)]
      exact Or.inr ⟨hp, ⟨i, k, Or.inr ⟨rfl, rfl⟩, rfl⟩, fun x y h => by
        rcases h with h | ⟨rfl, rfl⟩
        · have := h4 x y h; omega
        · exact Int.le_refl _⟩
    · rw [if_neg (by omega)]
      exact Or.inr ⟨h1, ⟨x, y, Or.inl h2, h3⟩, fun x y h => by
        rcases h with h | ⟨rfl, rfl⟩
        · exact h4 x y h
        · omega⟩

theorem Least.one {far : Nat → Nat → Int} {S S' : Nat → Nat → Prop} {b b' : Int} (h : Least far S b) (h' : Least far S' b') (hs : ∀ i k, far i k = far k i) (e1 : ∀ i k, S i k → S' i k ∨ S' k i) (e2 : ∀ i k, S' i k → S i k ∨ S k i) : b = b' := by
  rcases h with ⟨h1, h2⟩ | ⟨h1, ⟨x, y, h2, h3⟩, h4⟩
  · rcases h' with ⟨g1, g2⟩ | ⟨g1, ⟨u, v, g2, g3⟩, g4⟩
    · rw [h1, g1]
    · rcases e2 u v g2 with h | h
      · exact absurd h (h2 _ _)
      · exact absurd h (h2 _ _)
  · rcases h' with ⟨g1, g2⟩ | ⟨g1, ⟨u, v, g2, g3⟩, g4⟩
    · rcases e1 x y h2 with h | h
      · exact absurd h (g2 _ _)
      · exact absurd h (g2 _ _)
    · have p1 : b' ≤ b := by
        rcases e1 x y h2 with h | h
        · have := g4 _ _ h; omega
        · have := g4 _ _ h; have := hs x y; omega
      have p2 : b ≤ b' := by
        rcases e2 u v g2 with h | h
        · have := h4 _ _ h; omega
        · have := h4 _ _ h; have := hs u v; omega
      omega

theorem Least.zero {far : Nat → Nat → Int} {S : Nat → Nat → Prop} {b : Int} (h : Least far S b) (hn : ∀ i k, ¬ S i k) : b = 0 := by
  rcases h with ⟨h1, _⟩ | ⟨_, ⟨i, k, h2, _⟩, _⟩
  · exact h1
  · exact absurd h2 (hn i k)

/-- Row k, from its beginning, a place further, and at its end. -/
def upTo (p : Nat → Prop) (k j : Nat) (x y : Nat) : Prop := (x < k ∧ y < x ∧ p x ∧ p y) ∨ (x = k ∧ y < j ∧ p x ∧ p y)

theorem Least.open {far : Nat → Nat → Int} {p : Nat → Prop} {k : Nat} {b : Int} (h : Least far (fun x y => x < k ∧ y < x ∧ p x ∧ p y) b) : Least far (upTo p k 0) b :=
  h.same (fun x y => by
    unfold upTo
    constructor
    · exact Or.inl
    · rintro (h | h)
      · exact h
      · omega)

theorem Least.close {far : Nat → Nat → Int} {p : Nat → Prop} {k : Nat} {b : Int} (h : Least far (upTo p k k) b) : Least far (fun x y => x < k + 1 ∧ y < x ∧ p x ∧ p y) b :=
  h.same (fun x y => by
    unfold upTo
    constructor
    · rintro (⟨h1, h2, h3⟩ | ⟨rfl, h2, h3⟩)
      · exact ⟨by omega, h2, h3⟩
      · exact ⟨by omega, h2, h3⟩
    · rintro ⟨h1, h2, h3⟩
      by_cases e : x = k
      · exact Or.inr ⟨e, by omega, h3⟩
      · exact Or.inl ⟨by omega, h2, h3⟩)

theorem Least.pass {far : Nat → Nat → Int} {p : Nat → Prop} {k j : Nat} {b : Int} (h : Least far (upTo p k j) b) (hn : ¬ (p k ∧ p j)) : Least far (upTo p k (j + 1)) b :=
  h.same (fun x y => by
    unfold upTo
    constructor
    · rintro (h | ⟨h1, h2, h3⟩)
      · exact Or.inl h
      · exact Or.inr ⟨h1, by omega, h3⟩
    · rintro (h | ⟨h1, h2, h3⟩)
      · exact Or.inl h
      · by_cases e : y = j
        · subst h1; subst e; exact absurd h3 hn
        · exact Or.inr ⟨h1, by omega, h3⟩)

theorem Least.take {far : Nat → Nat → Int} {p : Nat → Prop} {k j : Nat} {b : Int} (h : Least far (upTo p k j) b) (h1 : p k) (h2 : p j) (hp : 1 ≤ far k j) : Least far (upTo p k (j + 1)) (if b = 0 ∨ far k j < b then far k j else b) :=
  (h.step (i := k) (k := j) hp).same (fun x y => by
    unfold upTo
    constructor
    · rintro ((h | ⟨h1, h2, h3⟩) | ⟨rfl, rfl⟩)
      · exact Or.inl h
      · exact Or.inr ⟨h1, by omega, h3⟩
      · exact Or.inr ⟨rfl, by omega, h1, h2⟩
    · rintro (h | ⟨h1, h2, h3⟩)
      · exact Or.inl (Or.inl h)
      · by_cases e : y = j
        · exact Or.inr ⟨h1, e⟩
        · exact Or.inl (Or.inr ⟨h1, by omega, h3⟩))

/-- The spread: gone through in the order of the pairs k < i. -/
def pairsG (n : Nat) (p : Nat → Bool) : List (Nat × Nat) := ((List.range n).flatMap (fun i => (List.range i).map (fun k => (i, k)))).filter (fun q => p q.1 && p q.2)
def spreadG (far : Nat → Nat → Int) (L : List (Nat × Nat)) : Int := L.foldl (fun b q => if b = 0 ∨ far q.1 q.2 < b then far q.1 q.2 else b) 0

theorem mem_pairsG {n : Nat} {p : Nat → Bool} {i k : Nat} : (i, k) ∈ pairsG n p ↔ i < n ∧ k < i ∧ p i = true ∧ p k = true := by
  unfold pairsG
  simp only [List.mem_filter, List.mem_flatMap, List.mem_range, List.mem_map, Prod.mk.injEq, Bool.and_eq_true]
  constructor
  · rintro ⟨⟨x, hx, y, hy, rfl, rfl⟩, h1, h2⟩
    exact ⟨hx, hy, h1, h2⟩
  · rintro ⟨h1, h2, h3, h4⟩
    exact ⟨⟨i, h1, k, h2, rfl, rfl⟩, h3, h4⟩

theorem least_fold {far : Nat → Nat → Int} : ∀ (L : List (Nat × Nat)) (S : Nat → Nat → Prop) (b : Int), Least far S b → (∀ q ∈ L, 1 ≤ far q.1 q.2) →
    Least far (fun i k => S i k ∨ (i, k) ∈ L) (L.foldl (fun b q => if b = 0 ∨ far q.1 q.2 < b then far q.1 q.2 else b) b)
  | [], S, b, h, _ => h.same (fun i k => by simp)
  | q :: r, S, b, h, hp => by
    have h1 := h.step (i := q.1) (k := q.2) (hp q (by simp))
    have h2 := least_fold r _ _ h1 (fun x hx => hp x (by simp [hx]))
    exact h2.same (fun i k => by
      obtain ⟨u, v⟩ := q
      simp only [List.mem_cons, Prod.mk.injEq]
      constructor
      · rintro ((h | h) | h)
        · exact Or.inl h
        · exact Or.inr (Or.inl h)
        · exact Or.inr (Or.inr h)
      · rintro (h | h | h)
        · exact Or.inl (Or.inl h)
        · exact Or.inl (Or.inr h)
        · exact Or.inr h)

theorem spread_least {far : Nat → Nat → Int} {n : Nat} {p : Nat → Bool} (hp : ∀ i k, i < n → k < i → 1 ≤ far i k) : Least far (fun i k => i < n ∧ k < i ∧ p i = true ∧ p k = true) (spreadG far (pairsG n p)) := by
  have h := least_fold (pairsG n p) (fun _ _ => False) 0 (Least.none (fun _ _ h => h)) (fun q hq => by
    obtain ⟨i, k⟩ := q
    obtain ⟨h1, h2, _⟩ := mem_pairsG.1 hq
    exact hp i k h1 h2)
  exact h.same (fun i k => by simp [mem_pairsG])

end Go.Proofs.Ytipcahcljfheaaa
