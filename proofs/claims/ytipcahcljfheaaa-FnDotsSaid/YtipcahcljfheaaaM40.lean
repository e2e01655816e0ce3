/-
  Fields: weights, crowds, the first place with the least key, swaps, evening out and ranks, as plain functions. Nothing of the program.
-/
import Derived.Test.YtipcahcljfheaaaM20
namespace Go.Proofs.Ytipcahcljfheaaa
set_option linter.unusedVariables false
set_option linter.unusedSimpArgs false

def wtG (W H : Int) (i k : Nat) : Int := 4096 / (1 + farG W H i k)
def crowdTo (W H : Int) (xs : List Int) (i : Nat) : Nat → Int
  | 0 => 0
  | k + 1 => crowdTo W H xs i k + (if xs.getD k 0 = 1 then wtG W H i k else 0)
def crowdG (W H : Int) (xs : List Int) (i : Nat) : Int := crowdTo W H xs i xs.length
def fieldOk (W H : Int) (xs : List Int) : Bool := picOk W H xs 1 && decide (xs.length ≤ 256)
/-- The first place below k with this amount and the least key; -1 if there is none. -/
def bestTo (xs : List Int) (v : Int) (c : Nat → Int) : Nat → Int
  | 0 => -1
  | k + 1 => if xs.getD k 0 = v ∧ (bestTo xs v c k < 0 ∨ c k < c (bestTo xs v c k).toNat) then (k : Int) else bestTo xs v c k
def tightF (W H : Int) (xs : List Int) : Int := bestTo xs 1 (fun j => -(1 * crowdG W H xs j)) xs.length
def wideF (W H : Int) (xs : List Int) : Int := bestTo xs 0 (fun j => -(-1 * crowdG W H xs j)) xs.length
def flipT (W H : Int) (xs : List Int) : List Int := xs.set (tightF W H xs).toNat 0
def flipW (W H : Int) (xs : List Int) : List Int := xs.set (wideF W H xs).toNat 1
def swapG (W H : Int) (xs : List Int) : List Int × Bool :=
  if tightF W H xs < 0 then (xs, false) else (flipW W H (flipT W H xs), decide (wideF W H (flipT W H xs) ≠ tightF W H xs))
def evenG (W H : Int) : Nat → List Int → List Int × Nat
  | 0, xs => (xs, 0)
  | m + 1, xs => if (swapG W H xs).2 = true then ((evenG W H m (swapG W H xs).1).1, (evenG W H m (swapG W H xs).1).2 + 1) else (xs, 0)
def downG (W H : Int) (xs : List Int) (d : Nat) (rs : List Int) : Nat → List Int × List Int
  | 0 => (xs, rs)
  | k + 1 => (flipT W H (downG W H xs d rs k).1, (downG W H xs d rs k).2.set (tightF W H (downG W H xs d rs k).1).toNat ((d : Int) - 1 - k))
def upG (W H : Int) (xs : List Int) (d : Nat) (rs : List Int) : Nat → List Int × List Int
  | 0 => (xs, rs)
  | k + 1 => (flipW W H (upG W H xs d rs k).1, (upG W H xs d rs k).2.set (wideF W H (upG W H xs d rs k).1).toNat ((d : Int) + k))
def ranksG (W H : Int) (xs : List Int) : List Int :=
  (upG W H xs (icount 1 xs) (downG W H xs (icount 1 xs) (List.replicate xs.length 0) (icount 1 xs)).2 (xs.length - icount 1 xs)).2
def pairF (W H : Int) (xs : List Int) (i k : Int) : Int := if fieldOk W H xs = true ∧ (0 ≤ i ∧ i < (xs.length : Int)) ∧ 0 ≤ k ∧ k < (xs.length : Int) then wtG W H i.toNat k.toNat else 0
def crowdF (W H : Int) (xs : List Int) (i : Int) : Int := if fieldOk W H xs = true ∧ 0 ≤ i ∧ i < (xs.length : Int) then crowdG W H xs i.toNat else -1
def tightestF (W H : Int) (xs : List Int) : Int := if fieldOk W H xs = true then tightF W H xs else -1
def widestF (W H : Int) (xs : List Int) : Int := if fieldOk W H xs = true then wideF W H xs else -1
def swapF2 (W H : Int) (xs : List Int) : Pic × Bool := if fieldOk W H xs = true then (⟨W, H, (swapG W H xs).1⟩, (swapG W H xs).2) else (⟨W, H, xs⟩, false)
def evenF (W H : Int) (xs : List Int) (m : Int) : Pic × Int := if fieldOk W H xs = true ∧ 0 ≤ m ∧ m ≤ 64 then (⟨W, H, (evenG W H m.toNat xs).1⟩, ((evenG W H m.toNat xs).2 : Int)) else (⟨W, H, xs⟩, 0)
def rankF (W H : Int) (xs : List Int) : Mat × Bool := if fieldOk W H xs = true then (⟨W, H, ranksG W H xs⟩, true) else (noMat, false)
def seedF (W H e : Int) : Pic × Bool := if sizeOk W H = true ∧ W * H ≤ 256 ∧ 1 ≤ e ∧ e ≤ 100 then (⟨W, H, gen (W * H).toNat (fun i => if (i : Int) * 7 % e = 0 then 1 else 0)⟩, true) else (noPic, false)
def roughTo (W H : Int) (xs : List Int) : Nat → Int
  | 0 => 0
  | k + 1 => roughTo W H xs k + crowdG W H xs k * crowdG W H xs k
def roughF (W H : Int) (xs : List Int) : Int := if fieldOk W H xs = true then roughTo W H xs xs.length else -1

theorem field_bd {W H : Int} {xs : List Int} {n : Nat} (hn : xs.length = n) (h : fieldOk W H xs = true) : 1 ≤ W ∧ W ≤ 64 ∧ 1 ≤ H ∧ H ≤ 64 ∧ (n : Int) = W * H ∧ n ≤ 256 ∧ 1 ≤ n ∧ within xs 1 = true ∧ sizeOk W H = true := by
  unfold fieldOk at h
  simp only [Bool.and_eq_true, decide_eq_true_eq] at h
  obtain ⟨h1, h2⟩ := h
  obtain ⟨hs, hq, hi⟩ := picOk_bd hn h1
  obtain ⟨b1, b2, b3, b4, b5, b6⟩ := sizeOk_bd hs
  exact ⟨b1, b2, b3, b4, hq, by omega, by omega, hi, hs⟩

theorem field_mk {W H : Int} {xs : List Int} {n : Nat} (hn : xs.length = n) (hs : sizeOk W H = true) (hq : (n : Int) = W * H) (hi : within xs 1 = true) (h : n ≤ 256) : fieldOk W H xs = true := by
  unfold fieldOk
  rw [picOk_in hn hs hq, hi]
  simp; omega

theorem field_no {W H : Int} {xs : List Int} (h : picOk W H xs 1 = false) : fieldOk W H xs = false := by unfold fieldOk; rw [h]; rfl

/-- Plates: each amount is 0 or 1. -/
def Dots (xs : List Int) : Prop := ∀ k, k < xs.length → xs.getD k 0 = 0 ∨ xs.getD k 0 = 1

theorem dots_of {xs : List Int} (h : within xs 1 = true) : Dots xs := fun k hk => by
  have := within_at h k hk
  simp only [List.getD_eq_getElem?_getD]
  omega

theorem within_of {xs : List Int} (h : Dots xs) : within xs 1 = true := by
  unfold within
  rw [List.all_eq_true]
  intro v hv
  obtain ⟨k, hk, rfl⟩ := List.mem_iff_getElem.1 hv
  have := h k hk
  simp only [List.getD, List.getElem?_eq_getElem hk, Option.getD_some] at this
  simp; omega

theorem getD_set_eq {xs : List Int} {i : Nat} (h : i < xs.length) (v : Int) : (xs.set i v).getD i 0 = v := by
  simp [List.getD, List.getElem?_set, h]

theorem getD_set_ne {xs : List Int} {i k : Nat} (h : i ≠ k) (v : Int) : (xs.set i v).getD k 0 = xs.getD k 0 := by
  simp [List.getD, List.getElem?_set, h]

theorem Dots.set {xs : List Int} (h : Dots xs) (i : Nat) {v : Int} (hv : v = 0 ∨ v = 1) : Dots (xs.set i v) := fun k hk => by
  rw [List.length_set] at hk
  by_cases e : i = k
  · subst e; rw [getD_set_eq hk]; exact hv
  · rw [getD_set_ne e]; exact h k hk

theorem field_set {W H : Int} {xs : List Int} (h : fieldOk W H xs = true) (i : Nat) {v : Int} (hv : v = 0 ∨ v = 1) : fieldOk W H (xs.set i v) = true := by
  obtain ⟨_, _, _, _, b5, b6, _, b8, b9⟩ := field_bd rfl h
  exact field_mk (n := xs.length) (by simp) b9 b5 (within_of ((dots_of b8).set i hv)) b6

theorem far_nn {W H : Int} (hW : 1 ≤ W) (hH : 1 ≤ H) (i k : Nat) : 0 ≤ farG W H i k := by
  unfold farG
  have := sq_nn (wayG_bd (d := (i : Int) % W - (k : Int) % W) hW).1
  have := sq_nn (wayG_bd (d := (i : Int) / W - (k : Int) / W) hH).1
  omega

theorem wt_bd {W H : Int} (hW : 1 ≤ W) (hH : 1 ≤ H) (i k : Nat) : 0 ≤ wtG W H i k ∧ wtG W H i k ≤ 4096 := by
  have h := far_nn hW hH i k
  unfold wtG
  exact ⟨Int.ediv_nonneg (by omega) (by omega), Int.ediv_le_self _ (by omega)⟩

theorem wt_symm {W H : Int} (hW : 1 ≤ W) (hH : 1 ≤ H) (i k : Nat) : wtG W H i k = wtG W H k i := by unfold wtG; rw [farG_symm hW hH]

theorem crowdTo_bd {W H : Int} (hW : 1 ≤ W) (hH : 1 ≤ H) (xs : List Int) (i k : Nat) : 0 ≤ crowdTo W H xs i k ∧ crowdTo W H xs i k ≤ 4096 * k := by
  induction k with
  | zero => simp [crowdTo]
  | succ k ih =>
    have := wt_bd hW hH i k
    unfold crowdTo
    split <;> omega

theorem crowdG_bd {W H : Int} {xs : List Int} {n : Nat} (hn : xs.length = n) (h : fieldOk W H xs = true) (i : Nat) : 0 ≤ crowdG W H xs i ∧ crowdG W H xs i ≤ 1048576 := by
  obtain ⟨b1, _, b3, _, _, b6, _⟩ := field_bd hn h
  have := crowdTo_bd b1 b3 xs i xs.length
  unfold crowdG
  omega

theorem crowdTo_set {W H : Int} {xs : List Int} {i : Nat} (v : Int) (j k : Nat) (h : k ≤ i) : crowdTo W H (xs.set i v) j k = crowdTo W H xs j k := by
  induction k with
  | zero => rfl
  | succ k ih =>
    unfold crowdTo
    rw [ih (by omega), getD_set_ne (by omega)]

theorem crowdTo_put {W H : Int} {xs : List Int} {i : Nat} (j k : Nat) (hi : i < xs.length) (h0 : xs.getD i 0 = 0) (h : i < k) : crowdTo W H (xs.set i 1) j k = crowdTo W H xs j k + wtG W H j i := by
  induction k with
  | zero => omega
  | succ k ih =>
    unfold crowdTo
    by_cases e : k = i
    · subst e
      rw [crowdTo_set _ _ _ (by omega), getD_set_eq hi, h0, if_pos rfl, if_neg (by decide)]
      omega
    · rw [ih (by omega), getD_set_ne (by omega)]
      omega

theorem crowdTo_take {W H : Int} {xs : List Int} {i : Nat} (j k : Nat) (hi : i < xs.length) (h0 : xs.getD i 0 = 1) (h : i < k) : crowdTo W H (xs.set i 0) j k = crowdTo W H xs j k - wtG W H j i := by
  induction k with
  | zero => omega
  | succ k ih =>
    unfold crowdTo
    by_cases e : k = i
    · subst e
      rw [crowdTo_set _ _ _ (by omega), getD_set_eq hi, h0, if_pos rfl, if_neg (by decide)]
      omega
    · rw [ih (by omega), getD_set_ne (by omega)]
      omega

theorem crowd_put {W H : Int} {xs : List Int} {i : Nat} (j : Nat) (hi : i < xs.length) (h0 : xs.getD i 0 = 0) : crowdG W H (xs.set i 1) j = crowdG W H xs j + wtG W H j i := by
  unfold crowdG; rw [List.length_set]; exact crowdTo_put j _ hi h0 hi

theorem crowd_take {W H : Int} {xs : List Int} {i : Nat} (j : Nat) (hi : i < xs.length) (h0 : xs.getD i 0 = 1) : crowdG W H (xs.set i 0) j = crowdG W H xs j - wtG W H j i := by
  unfold crowdG; rw [List.length_set]; exact crowdTo_take j _ hi h0 hi

/-- b is the first place below n with this amount and the least key, or -1. -/
def BestIs (n : Nat) (xs : List Int) (v : Int) (c : Nat → Int) (b : Int) : Prop :=
  (b = -1 ∧ ∀ j, j < n → xs.getD j 0 ≠ v) ∨ ∃ i : Nat, b = (i : Int) ∧ i < n ∧ xs.getD i 0 = v ∧ ∀ j, j < n → xs.getD j 0 = v → c i ≤ c j ∧ (j < i → c i < c j)

theorem best_is (xs : List Int) (v : Int) (c : Nat → Int) (n : Nat) : BestIs n xs v c (bestTo xs v c n) := by
  induction n with
  | zero => exact Or.inl ⟨rfl, fun j h => by omega⟩
  | succ k ih =>
    unfold bestTo
    rcases ih with ⟨h1, h2⟩ | ⟨i, h1, h2, h3, h4⟩
    · rw [h1]
      by_cases e : xs.getD k 0 = v
      · rw [if_pos ⟨e, Or.inl (by omega)⟩]
        refine Or.inr ⟨k, rfl, by omega, e, fun j hj hv => ?_⟩
        by_cases hjk : j = k
        · subst hjk; exact ⟨Int.le_refl _, fun h => by omega⟩
        · exact absurd hv (h2 j (by omega))
      · rw [if_neg (fun h => e h.1)]
        refine Or.inl ⟨rfl, fun j hj => ?_⟩
        by_cases hjk : j = k
        · subst hjk; exact e
        · exact h2 j (by omega)
    · rw [h1]
      simp only [Int.toNat_natCast]
      by_cases e : xs.getD k 0 = v ∧ ((i : Int) < 0 ∨ c k < c i)
      · rw [if_pos e]
        have hc : c k < c i := by rcases e.2 with h | h; omega; exact h
        refine Or.inr ⟨k, rfl, by omega, e.1, fun j hj hv => ?_⟩
        by_cases hjk : j = k
        · subst hjk; exact ⟨Int.le_refl _, fun h => by omega⟩
        · have := h4 j (by omega) hv
          exact ⟨by omega, fun _ => by omega⟩
      · rw [if_neg e]
        refine Or.inr ⟨i, rfl, by omega, h3, fun j hj hv => ?_⟩
        by_cases hjk : j = k
        · subst hjk
          have : ¬ c j < c i := fun h => e ⟨hv, Or.inr h⟩
          exact ⟨by omega, fun h => by omega⟩
        · exact h4 j (by omega) hv

theorem BestIs.one {n : Nat} {xs : List Int} {v : Int} {c : Nat → Int} {b b' : Int} (h : BestIs n xs v c b) (h' : BestIs n xs v c b') : b = b' := by
  rcases h with ⟨h1, h2⟩ | ⟨i, h1, h2, h3, h4⟩
  · rcases h' with ⟨g1, g2⟩ | ⟨k, g1, g2, g3, g4⟩
    · rw [h1, g1]
    · exact absurd g3 (h2 k g2)
  · rcases h' with ⟨g1, g2⟩ | ⟨k, g1, g2, g3, g4⟩
    · exact absurd h3 (g2 i h2)
    · have a1 := h4 k g2 g3
      have a2 := g4 i h2 h3
      have : i = k := by
        rcases Nat.lt_trichotomy i k with h | h | h
        · have := a2.2 h; omega
        · exact h
        · have := a1.2 h; omega
      rw [h1, g1, this]

theorem BestIs.congr {n : Nat} {xs : List Int} {v : Int} {c c' : Nat → Int} {b : Int} (h : BestIs n xs v c b) (e : ∀ j, j < n → c j = c' j) : BestIs n xs v c' b := by
  rcases h with h | ⟨i, h1, h2, h3, h4⟩
  · exact Or.inl h
  · exact Or.inr ⟨i, h1, h2, h3, fun j hj hv => by rw [← e i h2, ← e j hj]; exact h4 j hj hv⟩

theorem best_cases (xs : List Int) (v : Int) (c : Nat → Int) (n : Nat) : (bestTo xs v c n = -1 ∧ ∀ j, j < n → xs.getD j 0 ≠ v) ∨ ∃ i : Nat, bestTo xs v c n = i ∧ i < n ∧ xs.getD i 0 = v := by
  rcases best_is xs v c n with h | ⟨i, h1, h2, h3, _⟩
  · exact Or.inl h
  · exact Or.inr ⟨i, h1, h2, h3⟩

theorem tight_cases (W H : Int) (xs : List Int) : (tightF W H xs = -1 ∧ ∀ j, j < xs.length → xs.getD j 0 ≠ 1) ∨ ∃ i : Nat, tightF W H xs = i ∧ i < xs.length ∧ xs.getD i 0 = 1 := best_cases _ _ _ _
theorem wide_cases (W H : Int) (xs : List Int) : (wideF W H xs = -1 ∧ ∀ j, j < xs.length → xs.getD j 0 ≠ 0) ∨ ∃ i : Nat, wideF W H xs = i ∧ i < xs.length ∧ xs.getD i 0 = 0 := best_cases _ _ _ _

theorem set_back {xs : List Int} {i : Nat} {v u : Int} (hi : i < xs.length) (h : xs.getD i 0 = v) : (xs.set i u).set i v = xs := by
  rw [List.set_set]
  apply List.ext_getElem?
  intro k
  rw [List.getElem?_set]
  by_cases e : i = k
  · subst e
    rw [if_pos rfl, if_pos hi, List.getElem?_eq_getElem hi]
    simp only [List.getD, List.getElem?_eq_getElem hi, Option.getD_some] at h
    rw [h]
  · rw [if_neg e]

/-- Where a dot is taken away there is a void. -/
theorem wide_after {W H : Int} {xs : List Int} {i : Nat} (hi : i < xs.length) : ∃ k : Nat, wideF W H (xs.set i 0) = k ∧ k < xs.length ∧ (xs.set i 0).getD k 0 = 0 := by
  rcases wide_cases W H (xs.set i 0) with ⟨_, h⟩ | ⟨k, h1, h2, h3⟩
  · exact absurd (getD_set_eq hi 0) (h i (by simpa using hi))
  · exact ⟨k, h1, by simpa using h2, h3⟩

theorem swap_same {W H : Int} {xs : List Int} (h : (swapG W H xs).2 = false) : (swapG W H xs).1 = xs := by
  unfold swapG at h ⊢
  rcases tight_cases W H xs with ⟨h1, h2⟩ | ⟨i, h1, h2, h3⟩
  · rw [if_pos (by omega)]
  · have e : ¬ tightF W H xs < 0 := by omega
    rw [if_neg e] at h ⊢
    simp only [decide_eq_false_iff_not, Decidable.not_not, ne_eq] at h
    unfold flipW
    rw [h]
    unfold flipT
    rw [h1]
    simp only [Int.toNat_natCast]
    exact set_back h2 h3

theorem swap_full {W H : Int} {xs : List Int} (hd : Dots xs) (h : wideF W H xs < 0) : swapG W H xs = (xs, false) := by
  unfold swapG
  rcases tight_cases W H xs with ⟨h1, h2⟩ | ⟨i, h1, h2, h3⟩
  · rw [if_pos (by omega)]
  · rw [if_neg (by omega)]
    have hv : ∀ j, j < xs.length → xs.getD j 0 ≠ 0 := by
      rcases wide_cases W H xs with ⟨_, g⟩ | ⟨k, g1, _, _⟩
      · exact g
      · omega
    obtain ⟨k, k1, k2, k3⟩ := wide_after (W := W) (H := H) h2
    have e : k = i := by
      by_cases e : i = k
      · exact e.symm
      · rw [getD_set_ne e] at k3
        exact absurd k3 (hv k k2)
    subst e
    unfold flipW flipT
    rw [h1]
    simp only [Int.toNat_natCast, k1, set_back h2 h3]
    simp

theorem tight_len (W H : Int) (xs : List Int) : (flipT W H xs).length = xs.length := by simp [flipT]
theorem wide_len (W H : Int) (xs : List Int) : (flipW W H xs).length = xs.length := by simp [flipW]
theorem field_flipT {W H : Int} {xs : List Int} (h : fieldOk W H xs = true) : fieldOk W H (flipT W H xs) = true := field_set h _ (Or.inl rfl)
theorem field_flipW {W H : Int} {xs : List Int} (h : fieldOk W H xs = true) : fieldOk W H (flipW W H xs) = true := field_set h _ (Or.inr rfl)

theorem field_swap {W H : Int} {xs : List Int} (h : fieldOk W H xs = true) : fieldOk W H (swapG W H xs).1 = true := by
  unfold swapG
  split
  · exact h
  · exact field_flipW (field_flipT h)

theorem swap_len (W H : Int) (xs : List Int) : (swapG W H xs).1.length = xs.length := by
  unfold swapG
  split
  · rfl
  · rw [wide_len, tight_len]

theorem even_no {W H : Int} {xs : List Int} (m : Nat) (h : (swapG W H xs).2 = false) : evenG W H m xs = (xs, 0) := by
  cases m with
  | zero => rfl
  | succ m => unfold evenG; rw [if_neg (by rw [h]; decide)]

theorem even_yes {W H : Int} {xs : List Int} {m : Nat} (h : (swapG W H xs).2 = true) : evenG W H (m + 1) xs = ((evenG W H m (swapG W H xs).1).1, (evenG W H m (swapG W H xs).1).2 + 1) := by
  rw [evenG, if_pos h]

theorem even_le (W H : Int) (m : Nat) (xs : List Int) : (evenG W H m xs).2 ≤ m := by
  induction m generalizing xs with
  | zero => exact Nat.le_refl _
  | succ m ih =>
    unfold evenG
    split
    · have := ih (swapG W H xs).1; simp only; omega
    · exact Nat.zero_le _

theorem field_even {W H : Int} (m : Nat) {xs : List Int} (h : fieldOk W H xs = true) : fieldOk W H (evenG W H m xs).1 = true := by
  induction m generalizing xs with
  | zero => exact h
  | succ m ih =>
    unfold evenG
    split
    · exact ih (field_swap h)
    · exact h

theorem even_len (W H : Int) (m : Nat) (xs : List Int) : (evenG W H m xs).1.length = xs.length := by
  induction m generalizing xs with
  | zero => rfl
  | succ m ih =>
    unfold evenG
    split
    · rw [ih, swap_len]
    · rfl

/-- How many dots a plate has, when one is put or taken. -/
theorem icount_set {xs : List Int} {i : Nat} (hi : i < xs.length) (v u : Int) : icount v (xs.set i u) + (if xs.getD i 0 = v then 1 else 0) = icount v xs + (if u = v then 1 else 0) := by
  induction xs generalizing i with
  | nil => simp at hi
  | cons a r ih =>
    cases i with
    | zero =>
      rw [List.set_cons_zero, icount_cons, icount_cons]
      simp only [List.getD_cons_zero]
      omega
    | succ i =>
      rw [List.set_cons_succ, icount_cons, icount_cons]
      have := ih (i := i) (by simpa using hi)
      simp only [List.getD_cons_succ]
      omega

theorem icount_zero {v : Int} {xs : List Int} (h : ∀ j, j < xs.length → xs.getD j 0 ≠ v) : icount v xs = 0 := by
  unfold icount
  rw [List.length_eq_zero_iff, List.filter_eq_nil_iff]
  intro a ha
  obtain ⟨k, hk, rfl⟩ := List.mem_iff_getElem.1 ha
  have := h k hk
  simp only [List.getD, List.getElem?_eq_getElem hk, Option.getD_some] at this
  simpa using this

theorem dots_count {xs : List Int} (h : Dots xs) : icount 0 xs + icount 1 xs = xs.length := by
  induction xs with
  | nil => rfl
  | cons a r ih =>
    rw [icount_cons, icount_cons]
    have h0 := h 0 (by simp)
    have hr : Dots r := fun k hk => by have := h (k + 1) (by simpa using hk); simpa using this
    have := ih hr
    simp only [List.getD_cons_zero] at h0
    simp only [List.length_cons]
    rcases h0 with h0 | h0 <;> subst h0 <;> simp <;> omega

theorem flipT_count {W H : Int} {xs : List Int} {i : Nat} (h1 : tightF W H xs = i) (h2 : i < xs.length) (h3 : xs.getD i 0 = 1) : icount 1 (flipT W H xs) + 1 = icount 1 xs := by
  unfold flipT
  rw [h1]
  have := icount_set h2 1 0
  rw [h3] at this
  simpa using this

theorem flipW_count {W H : Int} {xs : List Int} {i : Nat} (h1 : wideF W H xs = i) (h2 : i < xs.length) (h3 : xs.getD i 0 = 0) : icount 1 (flipW W H xs) = icount 1 xs + 1 := by
  unfold flipW
  rw [h1]
  have := icount_set h2 1 1
  rw [h3] at this
  simpa using this

theorem tight_some {W H : Int} {xs : List Int} (h : 0 < icount 1 xs) : ∃ i : Nat, tightF W H xs = i ∧ i < xs.length ∧ xs.getD i 0 = 1 := by
  rcases tight_cases W H xs with ⟨_, h2⟩ | h2
  · have := icount_zero h2; omega
  · exact h2

theorem wide_some {W H : Int} {xs : List Int} (hd : Dots xs) (h : icount 1 xs < xs.length) : ∃ i : Nat, wideF W H xs = i ∧ i < xs.length ∧ xs.getD i 0 = 0 := by
  rcases wide_cases W H xs with ⟨_, h2⟩ | h2
  · have := icount_zero h2; have := dots_count hd; omega
  · exact h2

theorem down_inv {W H : Int} {xs : List Int} (h : fieldOk W H xs = true) (rs : List Int) (k : Nat) (hk : k ≤ icount 1 xs) :
    fieldOk W H (downG W H xs (icount 1 xs) rs k).1 = true ∧ (downG W H xs (icount 1 xs) rs k).1.length = xs.length ∧ icount 1 (downG W H xs (icount 1 xs) rs k).1 + k = icount 1 xs ∧ (downG W H xs (icount 1 xs) rs k).2.length = rs.length := by
  induction k with
  | zero => exact ⟨h, rfl, rfl, rfl⟩
  | succ k ih =>
    obtain ⟨h1, h2, h3, h4⟩ := ih (by omega)
    obtain ⟨i, i1, i2, i3⟩ := tight_some (W := W) (H := H) (xs := (downG W H xs (icount 1 xs) rs k).1) (by omega)
    have := flipT_count i1 i2 i3
    unfold downG
    exact ⟨field_flipT h1, by rw [tight_len]; exact h2, by simp only []; omega, by simp only [List.length_set]; exact h4⟩

theorem up_inv {W H : Int} {xs : List Int} (h : fieldOk W H xs = true) (d : Nat) (rs : List Int) (k : Nat) (hk : icount 1 xs + k ≤ xs.length) :
    fieldOk W H (upG W H xs d rs k).1 = true ∧ (upG W H xs d rs k).1.length = xs.length ∧ icount 1 (upG W H xs d rs k).1 = icount 1 xs + k ∧ (upG W H xs d rs k).2.length = rs.length := by
  induction k with
  | zero => exact ⟨h, rfl, rfl, rfl⟩
  | succ k ih =>
    obtain ⟨h1, h2, h3, h4⟩ := ih (by omega)
    obtain ⟨i, i1, i2, i3⟩ := wide_some (W := W) (H := H) (xs := (upG W H xs d rs k).1) (dots_of (field_bd rfl h1).2.2.2.2.2.2.2.1) (by omega)
    have := flipW_count i1 i2 i3
    unfold upG
    exact ⟨field_flipW h1, by rw [wide_len]; exact h2, by simp only []; omega, by simp only [List.length_set]; exact h4⟩

theorem icount_le (v : Int) (xs : List Int) : icount v xs ≤ xs.length := List.length_filter_le _ _

theorem isum_dots {xs : List Int} (h : Dots xs) : isum xs = (icount 1 xs : Int) := by
  induction xs with
  | nil => rfl
  | cons a r ih =>
    rw [icount_cons]
    have h0 := h 0 (by simp)
    have hr : Dots r := fun k hk => by have := h (k + 1) (by simpa using hk); simpa using this
    have := ih hr
    simp only [List.getD_cons_zero] at h0
    unfold isum
    rcases h0 with h0 | h0 <;> subst h0 <;> simp <;> omega

end Go.Proofs.Ytipcahcljfheaaa
