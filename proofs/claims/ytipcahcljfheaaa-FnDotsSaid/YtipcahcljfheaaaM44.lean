/-
  Plates grown and shrunk on a torus, plain. Nothing of the program.
-/
import Derived.Test.YtipcahcljfheaaaM43
namespace Go.Proofs.Ytipcahcljfheaaa
set_option linter.unusedVariables false
set_option linter.unusedSimpArgs false

def rightI (w i : Nat) : Nat := w * (i / w) + (i % w + 1) % w
def leftI (w i : Nat) : Nat := w * (i / w) + (i % w + (w - 1)) % w
def downI (w h i : Nat) : Nat := w * ((i / w + 1) % h) + i % w
def upI (w h i : Nat) : Nat := w * ((i / w + (h - 1)) % h) + i % w

theorem grid_lt {w h x y : Nat} (hx : x < w) (hy : y < h) : w * y + x < w * h := by
  have : w * (y + 1) ≤ w * h := Nat.mul_le_mul_left w (by omega)
  rw [Nat.mul_succ] at this
  omega

theorem grid_div {w x y : Nat} (hx : x < w) : (w * y + x) / w = y := by
  rw [Nat.mul_add_div (by omega), Nat.div_eq_of_lt hx, Nat.add_zero]

theorem grid_mod {w x y : Nat} (hx : x < w) : (w * y + x) % w = x := by
  rw [Nat.mul_add_mod, Nat.mod_eq_of_lt hx]

section
variable {w h n i : Nat}

theorem grid_at (hw : 0 < w) (hn : n = w * h) (hi : i < n) : i % w < w ∧ i / w < h ∧ w * (i / w) + i % w = i :=
  ⟨Nat.mod_lt _ hw, by rw [Nat.div_lt_iff_lt_mul hw, Nat.mul_comm h w]; omega, Nat.div_add_mod i w⟩

theorem right_lt (hw : 0 < w) (hn : n = w * h) (hi : i < n) : rightI w i < n := by
  obtain ⟨a, b, c⟩ := grid_at hw hn hi
  rw [hn]; exact grid_lt (Nat.mod_lt _ hw) b
theorem left_lt (hw : 0 < w) (hn : n = w * h) (hi : i < n) : leftI w i < n := by
  obtain ⟨a, b, c⟩ := grid_at hw hn hi
  rw [hn]; exact grid_lt (Nat.mod_lt _ hw) b
theorem down_lt (hw : 0 < w) (hn : n = w * h) (hi : i < n) : downI w h i < n := by
  obtain ⟨a, b, c⟩ := grid_at hw hn hi
  rw [hn]; exact grid_lt a (Nat.mod_lt _ (Nat.lt_of_le_of_lt (Nat.zero_le _) b))
theorem up_lt (hw : 0 < w) (hn : n = w * h) (hi : i < n) : upI w h i < n := by
  obtain ⟨a, b, c⟩ := grid_at hw hn hi
  rw [hn]; exact grid_lt a (Nat.mod_lt _ (Nat.lt_of_le_of_lt (Nat.zero_le _) b))

theorem ring_back {m x : Nat} (hx : x < m) : ((x + 1) % m + (m - 1)) % m = x ∧ ((x + (m - 1)) % m + 1) % m = x := by
  constructor
  · rw [Nat.mod_add_mod, show x + 1 + (m - 1) = x + m by omega, Nat.add_mod_right, Nat.mod_eq_of_lt hx]
  · rw [Nat.mod_add_mod, show x + (m - 1) + 1 = x + m by omega, Nat.add_mod_right, Nat.mod_eq_of_lt hx]

theorem left_right (hw : 0 < w) (hn : n = w * h) (hi : i < n) : leftI w (rightI w i) = i ∧ rightI w (leftI w i) = i := by
  obtain ⟨a, b, c⟩ := grid_at hw hn hi
  obtain ⟨r1, r2⟩ := ring_back a
  unfold leftI rightI
  rw [grid_div (Nat.mod_lt _ hw), grid_mod (Nat.mod_lt _ hw), grid_div (Nat.mod_lt _ hw), grid_mod (Nat.mod_lt _ hw), r1, r2]
  exact ⟨c, c⟩

theorem up_down (hw : 0 < w) (hn : n = w * h) (hi : i < n) : upI w h (downI w h i) = i ∧ downI w h (upI w h i) = i := by
  obtain ⟨a, b, c⟩ := grid_at hw hn hi
  obtain ⟨r1, r2⟩ := ring_back b
  unfold upI downI
  rw [grid_div a, grid_mod a, grid_div a, grid_mod a, r1, r2]
  exact ⟨c, c⟩

theorem sum_right (f : Nat → Int) (hw : 0 < w) : sumJ (fun i => f (rightI w i)) (w * h) = sumJ f (w * h) := by
  rw [sumJ_grid, sumJ_grid]
  refine sumJ_congr (fun y _ => ?_)
  obtain ⟨m, rfl⟩ : ∃ m, w = m + 1 := ⟨w - 1, by omega⟩
  rw [← sumJ_ring (fun x => f ((m + 1) * y + x)) m]
  exact sumJ_congr (fun x hx => by unfold rightI; rw [grid_div hx, grid_mod hx])

theorem sum_left (f : Nat → Int) (hw : 0 < w) : sumJ (fun i => f (leftI w i)) (w * h) = sumJ f (w * h) := by
  rw [sumJ_grid, sumJ_grid]
  refine sumJ_congr (fun y _ => ?_)
  obtain ⟨m, rfl⟩ : ∃ m, w = m + 1 := ⟨w - 1, by omega⟩
  rw [← sumJ_ring' (fun x => f ((m + 1) * y + x)) m]
  exact sumJ_congr (fun x hx => by unfold leftI; rw [grid_div hx, grid_mod hx]; rfl)

theorem sum_down (f : Nat → Int) (hw : 0 < w) (hh : 0 < h) : sumJ (fun i => f (downI w h i)) (w * h) = sumJ f (w * h) := by
  rw [sumJ_grid, sumJ_grid]
  obtain ⟨m, rfl⟩ : ∃ m, h = m + 1 := ⟨h - 1, by omega⟩
  rw [← sumJ_ring (fun y => sumJ (fun x => f (w * y + x)) w) m]
  refine sumJ_congr (fun y _ => ?_)
  exact sumJ_congr (fun x hx => by unfold downI; rw [grid_div hx, grid_mod hx])

theorem sum_up (f : Nat → Int) (hw : 0 < w) (hh : 0 < h) : sumJ (fun i => f (upI w h i)) (w * h) = sumJ f (w * h) := by
  rw [sumJ_grid, sumJ_grid]
  obtain ⟨m, rfl⟩ : ∃ m, h = m + 1 := ⟨h - 1, by omega⟩
  rw [← sumJ_ring' (fun y => sumJ (fun x => f (w * y + x)) w) m]
  refine sumJ_congr (fun y _ => ?_)
  exact sumJ_congr (fun x hx => by unfold upI; rw [grid_div hx, grid_mod hx]; rfl)
end

/-- The dots of a point and its four neighbours. -/
def nearS (w h : Nat) (xs : List Int) (i : Nat) : Int := xs.getD i 0 + xs.getD (rightI w i) 0 + xs.getD (leftI w i) 0 + xs.getD (downI w h i) 0 + xs.getD (upI w h i) 0
def leastG (w h : Nat) (xs : List Int) (n : Nat) (m : Int) : List Int := gen n (fun i => if m ≤ nearS w h xs i then 1 else 0)

/-- Plates: each amount below n is 0 or 1. -/
def DotsN (n : Nat) (xs : List Int) : Prop := ∀ k, k < n → xs.getD k 0 = 0 ∨ xs.getD k 0 = 1

theorem dotsN_of {xs : List Int} {n : Nat} (hn : xs.length = n) (h : within xs 1 = true) : DotsN n xs := fun k hk => by
  have := within_at h k (by omega)
  simp only [List.getD_eq_getElem?_getD]
  omega

theorem least_dots (w h n : Nat) (xs : List Int) (m : Int) : DotsN n (leastG w h xs n m) := fun k hk => by
  unfold leastG
  rw [gen_get _ _ _ hk]
  split
  · exact Or.inr rfl
  · exact Or.inl rfl

theorem least_within (w h n : Nat) (xs : List Int) (m : Int) : within (leastG w h xs n m) 1 = true := by
  unfold within leastG gen
  rw [List.all_eq_true]
  intro v hv
  obtain ⟨i, _, rfl⟩ := List.mem_map.1 hv
  split <;> simp

section
variable {w h n : Nat} {xs : List Int}

theorem near_bd (hw : 0 < w) (hn : n = w * h) (hx : DotsN n xs) {i : Nat} (hi : i < n) : 0 ≤ nearS w h xs i ∧ nearS w h xs i ≤ 5 ∧ (xs.getD i 0 = 1 → 1 ≤ nearS w h xs i) ∧ (5 ≤ nearS w h xs i → xs.getD i 0 = 1) := by
  have a := hx i hi
  have b := hx _ (right_lt hw hn hi)
  have c := hx _ (left_lt hw hn hi)
  have d := hx _ (down_lt hw hn hi)
  have e := hx _ (up_lt hw hn hi)
  unfold nearS
  omega

/-- A plate is covered by its grown one, and covers its shrunk one. -/
theorem grow_covers (hw : 0 < w) (hn : n = w * h) (hx : DotsN n xs) {i : Nat} (hi : i < n) : xs.getD i 0 ≤ (leastG w h xs n 1).getD i 0 ∧ (leastG w h xs n 5).getD i 0 ≤ xs.getD i 0 := by
  obtain ⟨a, b, c, d⟩ := near_bd hw hn hx hi
  unfold leastG
  rw [gen_get _ _ _ hi, gen_get _ _ _ hi]
  rcases hx i hi with e | e <;> rw [e] at c d ⊢
  · refine ⟨by split <;> omega, ?_⟩
    split
    · rename_i q; have := d q; omega
    · omega
  · refine ⟨by rw [if_pos (c rfl)]; omega, by split <;> omega⟩

theorem grown_at (hw : 0 < w) (hn : n = w * h) (hx : DotsN n xs) {i j : Nat} (hi : i < n) (hj : j < n) (h1 : xs.getD i 0 = 1) (he : j = i ∨ rightI w j = i ∨ leftI w j = i ∨ downI w h j = i ∨ upI w h j = i) : (leastG w h xs n 1).getD j 0 = 1 := by
  have a := hx j hj
  have b := hx _ (right_lt hw hn hj)
  have c := hx _ (left_lt hw hn hj)
  have d := hx _ (down_lt hw hn hj)
  have e := hx _ (up_lt hw hn hj)
  unfold leastG
  rw [gen_get _ _ _ hj, if_pos]
  unfold nearS
  rcases he with q | q | q | q | q
  · have : xs.getD j 0 = 1 := by rw [q]; exact h1
    omega
  · have : xs.getD (rightI w j) 0 = 1 := by rw [q]; exact h1
    omega
  · have : xs.getD (leftI w j) 0 = 1 := by rw [q]; exact h1
    omega
  · have : xs.getD (downI w h j) 0 = 1 := by rw [q]; exact h1
    omega
  · have : xs.getD (upI w h j) 0 = 1 := by rw [q]; exact h1
    omega

/-- Shrinking a grown plate covers the plate. -/
theorem shrink_grown (hw : 0 < w) (hn : n = w * h) (hx : DotsN n xs) {i : Nat} (hi : i < n) : xs.getD i 0 ≤ (leastG w h (leastG w h xs n 1) n 5).getD i 0 := by
  rcases hx i hi with e | e
  · have := least_dots w h n (leastG w h xs n 1) 5 i hi
    omega
  · obtain ⟨r1, r2⟩ := left_right hw hn hi
    obtain ⟨u1, u2⟩ := up_down hw hn hi
    have g0 := grown_at hw hn hx hi hi e (Or.inl rfl)
    have g1 := grown_at hw hn hx hi (right_lt hw hn hi) e (Or.inr (Or.inr (Or.inl r1)))
    have g2 := grown_at hw hn hx hi (left_lt hw hn hi) e (Or.inr (Or.inl r2))
    have g3 := grown_at hw hn hx hi (down_lt hw hn hi) e (Or.inr (Or.inr (Or.inr (Or.inr u1))))
    have g4 := grown_at hw hn hx hi (up_lt hw hn hi) e (Or.inr (Or.inr (Or.inr (Or.inl u2))))
    rw [e]
    have : (leastG w h (leastG w h xs n 1) n 5).getD i 0 = 1 := by
      show (gen n (fun i => if (5 : Int) ≤ nearS w h (leastG w h xs n 1) i then 1 else 0)).getD i 0 = 1
      rw [gen_get _ _ _ hi, if_pos]
      unfold nearS
      omega
    omega

/-- The negative of the shrunk plate is the grown negative. -/
theorem shrink_negative (hw : 0 < w) (hn : n = w * h) (hl : xs.length = n) (hx : DotsN n xs) : (leastG w h xs n 5).map (fun v => 1 - v) = leastG w h (xs.map (fun v => 1 - v)) n 1 := by
  have hm : ∀ j, j < n → (xs.map (fun v => 1 - v)).getD j 0 = 1 - xs.getD j 0 := fun j hj => by
    simp [List.getD, List.getElem?_map, List.getElem?_eq_getElem (show j < xs.length by omega)]
  refine gen_ext n _ _ (by simp [leastG, gen_len]) (fun i hi => ?_)
  obtain ⟨a, b, c, d⟩ := near_bd hw hn hx hi
  have e : nearS w h (xs.map (fun v => 1 - v)) i = 5 - nearS w h xs i := by
    unfold nearS
    rw [hm i hi, hm _ (right_lt hw hn hi), hm _ (left_lt hw hn hi), hm _ (down_lt hw hn hi), hm _ (up_lt hw hn hi)]
    omega
  rw [e]
  have e2 : ((leastG w h xs n 5).map (fun v => 1 - v)).getD i 0 = 1 - (leastG w h xs n 5).getD i 0 := by
    have hll : (leastG w h xs n 5).length = n := gen_len _ _
    simp [List.getD, List.getElem?_map, List.getElem?_eq_getElem (show i < (leastG w h xs n 5).length by omega)]
  rw [e2]
  unfold leastG
  rw [gen_get _ _ _ hi]
  split <;> split <;> omega

/-- The gain of a plate: from 0 to four times its dots. -/
theorem gain_bd (hw : 0 < w) (hh : 0 < h) (hn : n = w * h) (hl : xs.length = n) (hx : DotsN n xs) : isum xs ≤ isum (leastG w h xs n 1) ∧ isum (leastG w h xs n 1) ≤ 5 * isum xs := by
  rw [isum_list hl, isum_list (xs := leastG w h xs n 1) (n := n) (by unfold leastG; exact gen_len _ _)]
  constructor
  · exact sumJ_le (fun i hi => (grow_covers hw hn hx hi).1)
  · have h1 : sumJ (fun i => (leastG w h xs n 1).getD i 0) n ≤ sumJ (fun i => nearS w h xs i) n := sumJ_le (fun i hi => by
      obtain ⟨a, b, c, d⟩ := near_bd hw hn hx hi
      unfold leastG
      rw [gen_get _ _ _ hi]
      split <;> omega)
    have h2 : sumJ (fun i => nearS w h xs i) n = 5 * sumJ (fun i => xs.getD i 0) n := by
      have e : sumJ (fun i => nearS w h xs i) n = sumJ (fun i => xs.getD i 0) n + sumJ (fun i => xs.getD (rightI w i) 0) n + sumJ (fun i => xs.getD (leftI w i) 0) n + sumJ (fun i => xs.getD (downI w h i) 0) n + sumJ (fun i => xs.getD (upI w h i) 0) n := by
        rw [← sumJ_add, ← sumJ_add, ← sumJ_add, ← sumJ_add]
        rfl
      rw [e, hn, sum_right (fun i => xs.getD i 0) hw, sum_left (fun i => xs.getD i 0) hw, sum_down (fun i => xs.getD i 0) hw hh, sum_up (fun i => xs.getD i 0) hw hh]
      omega
    omega
end

end Go.Proofs.Ytipcahcljfheaaa
