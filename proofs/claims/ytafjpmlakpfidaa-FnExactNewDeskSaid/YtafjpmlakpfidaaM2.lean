/-
  Places of points: rows and columns, turned and mirrored places; lists that are written in another order. Nothing of the program.
-/
import Derived.Test.YtafjpmlakpfidaaM1
namespace Go.Proofs.Ytafjpmlakpfidaa
set_option linter.unusedVariables false
set_option linter.unusedSimpArgs false

theorem join_dm {q r m : Int} (h0 : 0 ≤ r) (h1 : r < m) : (q * m + r) / m = q ∧ (q * m + r) % m = r := by
  constructor
  · rw [Int.add_comm, Int.add_mul_ediv_right _ _ (by omega), Int.ediv_eq_zero_of_lt h0 h1]; omega
  · rw [Int.add_comm, Int.add_mul_emod_self_right, Int.emod_eq_of_lt h0 h1]

theorem split_dm {i W H : Int} (hW : 1 ≤ W) (h0 : 0 ≤ i) (h1 : i < W * H) : ∃ x y, 0 ≤ x ∧ x < W ∧ 0 ≤ y ∧ y < H ∧ i = y * W + x ∧ i % W = x ∧ i / W = y := by
  refine ⟨i % W, i / W, Int.emod_nonneg _ (by omega), Int.emod_lt_of_pos _ (by omega), Int.ediv_nonneg h0 (by omega), ?_, ?_, rfl, rfl⟩
  · exact Int.ediv_lt_of_lt_mul (by omega) (by rw [Int.mul_comm]; exact h1)
  · have := Int.mul_ediv_add_emod i W
    rw [Int.mul_comm] at this
    omega

theorem row_bd {x y W H : Int} (h0 : 0 ≤ x) (h1 : x < W) (h2 : 0 ≤ y) (h3 : y < H) : 0 ≤ y * W ∧ y * W + x < W * H := by
  have e1 : 0 ≤ y * W := Int.mul_nonneg h2 (by omega)
  have e2 : (y + 1) * W ≤ H * W := Int.mul_le_mul_of_nonneg_right (by omega) (by omega)
  rw [Int.add_mul, Int.one_mul, Int.mul_comm H W] at e2
  omega

def turnT (W H i : Int) : Int := (W - 1 - i % W) * H + i / W
def turnI (W H j : Int) : Int := j % H * W + (W - 1 - j / H)

theorem turn_left {W H i : Int} (hW : 1 ≤ W) (h0 : 0 ≤ i) (h1 : i < W * H) : 0 ≤ turnT W H i ∧ turnT W H i < W * H ∧ turnI W H (turnT W H i) = i ∧ 0 ≤ (W - 1 - i % W) * H := by
  obtain ⟨x, y, x0, x1, y0, y1, e, ex, ey⟩ := split_dm hW h0 h1
  unfold turnT turnI
  rw [ex, ey]
  obtain ⟨j1, j2⟩ := join_dm (q := W - 1 - x) (m := H) y0 y1
  obtain ⟨r1, r2⟩ := row_bd (x := y) (y := W - 1 - x) (W := H) (H := W) y0 y1 (by omega) (by omega)
  rw [Int.mul_comm H W] at r2
  refine ⟨by omega, r2, ?_, r1⟩
  rw [j1, j2, e]; omega

theorem turn_right {W H j : Int} (hW : 1 ≤ W) (hH : 1 ≤ H) (h0 : 0 ≤ j) (h1 : j < W * H) : 0 ≤ turnI W H j ∧ turnI W H j < W * H ∧ turnT W H (turnI W H j) = j := by
  obtain ⟨x, y, x0, x1, y0, y1, e, ex, ey⟩ := split_dm (W := H) (H := W) hH h0 (by rw [Int.mul_comm]; exact h1)
  unfold turnT turnI
  rw [ex, ey]
  obtain ⟨j1, j2⟩ := join_dm (q := x) (r := W - 1 - y) (m := W) (by omega) (by omega)
  obtain ⟨r1, r2⟩ := row_bd (x := W - 1 - y) (y := x) (W := W) (H := H) (by omega) (by omega) x0 x1
  refine ⟨by omega, r2, ?_⟩
  rw [j1, j2, e]
  have : W - 1 - (W - 1 - y) = y := by omega
  rw [this]

def mirT (W i : Int) : Int := i / W * W + W - 1 - i % W

theorem mir_self {W H i : Int} (hW : 1 ≤ W) (h0 : 0 ≤ i) (h1 : i < W * H) : 0 ≤ mirT W i ∧ mirT W i < W * H ∧ mirT W (mirT W i) = i ∧ 0 ≤ i / W * W ∧ i / W * W + W ≤ W * H := by
  obtain ⟨x, y, x0, x1, y0, y1, e, ex, ey⟩ := split_dm hW h0 h1
  unfold mirT
  rw [ex, ey]
  have e2 : y * W + W - 1 - x = y * W + (W - 1 - x) := by omega
  obtain ⟨j1, j2⟩ := join_dm (q := y) (r := W - 1 - x) (m := W) (by omega) (by omega)
  obtain ⟨r1, r2⟩ := row_bd (x := W - 1) (y := y) (W := W) (H := H) (by omega) (by omega) y0 y1
  rw [e2, j1, j2]
  refine ⟨by omega, by omega, by omega, r1, by omega⟩

theorem getD_set (ys : List Int) (a b : Nat) (v : Int) (ha : a < ys.length) : (ys.set a v).getD b 0 = if a = b then v else ys.getD b 0 := by
  simp only [List.getD, List.getElem?_set]
  by_cases h : a = b
  · subst h; simp [ha]
  · simp [h]

theorem scat_step {ys xs : List Int} {t : Nat → Nat} {k : Nat} {v : Int} (hinj : ∀ i, i < k → t i ≠ t k) (hr : ∀ i, i < k → ys.getD (t i) 0 = xs.getD i 0) (htk : t k < ys.length) (hv : v = xs.getD k 0) :
    ∀ i, i < k + 1 → (ys.set (t k) v).getD (t i) 0 = xs.getD i 0 := by
  intro i hi
  rw [getD_set _ _ _ _ htk]
  by_cases h : i = k
  · subst h; rw [if_pos rfl, hv]
  · rw [if_neg (fun e => hinj i (by omega) e.symm)]
    exact hr i (by omega)

theorem scat_done {ys xs : List Int} {n : Nat} {t : Nat → Nat} (inv : Nat → Nat) (hl : ys.length = n) (hinv : ∀ j, j < n → inv j < n ∧ t (inv j) = j) (hr : ∀ i, i < n → ys.getD (t i) 0 = xs.getD i 0) :
    ys = gen n (fun j => xs.getD (inv j) 0) := by
  refine gen_ext n _ ys hl (fun j hj => ?_)
  obtain ⟨h1, h2⟩ := hinv j hj
  rw [← hr _ h1, h2]

theorem turn_perm {W H : Int} {n : Nat} (hW : 1 ≤ W) (hH : 1 ≤ H) (hn : (n : Int) = W * H) :
    (∀ i, i < n → (turnT W H (i : Nat)).toNat < n ∧ (turnI W H ((turnT W H (i : Nat)).toNat : Nat)).toNat = i) ∧ (∀ j, j < n → (turnI W H (j : Nat)).toNat < n ∧ (turnT W H ((turnI W H (j : Nat)).toNat : Nat)).toNat = j) := by
  constructor
  · intro i hi
    obtain ⟨a, b, c, _⟩ := turn_left (i := i) hW (by omega) (by omega : (i : Int) < W * H)
    refine ⟨by omega, ?_⟩
    rw [Int.toNat_of_nonneg a, c]; omega
  · intro j hj
    obtain ⟨a, b, c⟩ := turn_right (j := j) hW hH (by omega) (by omega : (j : Int) < W * H)
    refine ⟨by omega, ?_⟩
    rw [Int.toNat_of_nonneg a, c]; omega

theorem mir_perm {W H : Int} {n : Nat} (hW : 1 ≤ W) (hn : (n : Int) = W * H) :
    ∀ i, i < n → (mirT W (i : Nat)).toNat < n ∧ (mirT W ((mirT W (i : Nat)).toNat : Nat)).toNat = i := by
  intro i hi
  obtain ⟨a, b, c, _⟩ := mir_self (H := H) (i := i) hW (by omega) (by omega)
  refine ⟨by omega, ?_⟩
  rw [Int.toNat_of_nonneg a, c]; omega

theorem inj_of {n : Nat} {t inv : Nat → Nat} (h : ∀ i, i < n → t i < n ∧ inv (t i) = i) {k : Nat} (hk : k < n) : ∀ i, i < k → t i ≠ t k := by
  intro i hi e
  have h1 := (h i (by omega)).2
  have h2 := (h k hk).2
  rw [e, h2] at h1
  omega

theorem sizeOk_comm {W H : Int} (h : sizeOk W H = true) : sizeOk H W = true := by
  obtain ⟨b1, b2, b3, b4, b5, b6⟩ := sizeOk_bd h
  unfold sizeOk
  rw [decide_eq_true_iff, Int.mul_comm]
  exact ⟨b3, b4, b1, b2, b5⟩

theorem map_get (xs : List Int) (f : Int → Int) (k : Nat) (h : k < xs.length) : (xs.map f).getD k 0 = f (xs[k]?.getD 0) := by
  simp [List.getD, h]

end Go.Proofs.Ytafjpmlakpfidaa
