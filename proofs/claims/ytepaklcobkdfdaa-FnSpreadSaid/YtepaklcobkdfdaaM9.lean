/-
  Bayer's matrices as plain lists: the rank in each cell, and the next one.
-/
import Derived.Test.YtepaklcobkdfdaaM8
import Derived.Test.YtepaklcobkdfdaaD7b
import Derived.Test.YtepaklcobkdfdaaD8
namespace Go.Proofs.Ytepaklcobkdfdaa
open Go.RowKit
set_option linter.unusedVariables false
set_option linter.unusedSimpArgs false

theorem half_bit (k : Nat) (h : k ≤ 3) (x : Int) : x % (2 * 2 ^ k) / 2 ^ k = bitA k x := by
  unfold bitA
  match k, h with
  | 0, _ => simp
  | 1, _ => simp <;> omega
  | 2, _ => simp <;> omega
  | 3, _ => simp <;> omega

theorem bayer_rank (k : Nat) (h : k ≤ 4) (x y : Int) : rankOf (2 ^ k) (2 ^ k) (bayerM k).ranks x y = bayerR x y k := by
  induction k generalizing x y with
  | zero =>
    unfold rankOf bayerR bayerM
    simp [Int.emod_one]
  | succ k ih =>
    obtain ⟨o1, o2, o3, o4⟩ := bayer_ok k (by omega)
    obtain ⟨m1, m2, m3, m4⟩ := matOk_bd rfl o1
    obtain ⟨b1, b2, b3, b4, b5, b6⟩ := matSize_bd m1
    have hb := bayer_len k (by omega)
    obtain ⟨s1, s2, s3, s4⟩ := dbl_size m2 b1 b3 hb
    have ihx := ih (by omega) x y
    have e2 : (2 : Int) ^ (k + 1) = 2 * 2 ^ k := by rw [Int.pow_succ, Int.mul_comm]
    rw [← o3] at e2
    have eH : (bayerM k).H = (bayerM k).W := by rw [o3, o4]
    rw [eH] at s2 b3
    have hW2 : 1 ≤ 2 * (bayerM k).W := by omega
    obtain ⟨i0, i1, i2, i3⟩ := rank_idx s2 hW2 hW2 x y
    obtain ⟨p0, p1⟩ := mod_bd x hW2
    obtain ⟨d1, d2⟩ := join_dm (q := y % (2 * (bayerM k).W)) p0 p1
    have er : (bayerM (k + 1)).ranks = gen (4 * (bayerM k).ranks.length) (dblG (bayerM k).W (bayerM k).H (bayerM k).ranks) := rfl
    have e : rankOf (2 ^ (k + 1)) (2 ^ (k + 1)) (bayerM (k + 1)).ranks x y = dblG (bayerM k).W (bayerM k).H (bayerM k).ranks (y % (2 * (bayerM k).W) * (2 * (bayerM k).W) + x % (2 * (bayerM k).W)).toNat := by
      rw [er, e2]
      unfold rankOf
      exact gen_get _ _ _ i3
    rw [e]
    unfold dblG
    rw [Int.toNat_of_nonneg i1, d1, d2, eH]
    have hr : rankOf (bayerM k).W (bayerM k).W (bayerM k).ranks (x % (2 * (bayerM k).W)) (y % (2 * (bayerM k).W)) = rankOf (2 ^ k) (2 ^ k) (bayerM k).ranks x y := by
      rw [← o3]
      unfold rankOf
      rw [Int.emod_emod_of_dvd x (Int.dvd_mul_left 2 (bayerM k).W), Int.emod_emod_of_dvd y (Int.dvd_mul_left 2 (bayerM k).W)]
    rw [hr, ihx, o3, half_bit k (by omega) x, half_bit k (by omega) y]
    rfl

structure IsB (k : Nat) (W : Int) (n : Nat) (xs : List Int) : Prop where
  k4 : k ≤ 4
  m : bayerM k = ⟨W, W, xs⟩
  w : W = 2 ^ k
  l : xs.length = n
  q : (n : Int) = W * W
  ok : matOk W W xs = true
  n4 : n = 4 ^ k

theorem isB (k : Nat) (h : k ≤ 4) : IsB k (bayerM k).W (bayerM k).ranks.length (bayerM k).ranks := by
  obtain ⟨o1, o2, o3, o4⟩ := bayer_ok k h
  have eH : (bayerM k).H = (bayerM k).W := by rw [o3, o4]
  rw [eH] at o1
  obtain ⟨m1, m2, m3, m4⟩ := matOk_bd rfl o1
  have e : bayerM k = ⟨(bayerM k).W, (bayerM k).H, (bayerM k).ranks⟩ := rfl
  rw [eH] at e
  exact ⟨h, e, o3, rfl, m2, o1, o2⟩

theorem IsB.rank {k : Nat} {W : Int} {n : Nat} {xs : List Int} (h : IsB k W n xs) (x y : Int) : rankOf W W xs x y = bayerR x y k := by
  have e := bayer_rank k h.k4 x y
  rw [h.m] at e
  rw [h.w]
  exact e

theorem IsB.bd {k : Nat} {W : Int} {n : Nat} {xs : List Int} (h : IsB k W n xs) : 1 ≤ W ∧ W ≤ 16 ∧ 1 ≤ n ∧ n ≤ 256 ∧ (k < 4 → 4 * n ≤ 256) ∧ (¬ k < 4 → n = 256) := by
  obtain ⟨p1, p2⟩ := pow2_le h.k4
  have hw := h.w
  have hn := h.n4
  refine ⟨by omega, by omega, ?_, ?_, ?_, ?_⟩
  · rw [hn]; exact Nat.pos_of_ne_zero (by simp)
  · rw [hn]; exact Nat.le_trans (Nat.pow_le_pow_right (by omega) h.k4) (by decide)
  · intro hk
    have : 4 ^ k ≤ 4 ^ 3 := Nat.pow_le_pow_right (by omega) (by omega)
    rw [hn]; omega
  · intro hk
    have h4 := h.k4
    obtain rfl : k = 4 := by omega
    rw [hn]

theorem IsB.at {k : Nat} {W : Int} {n : Nat} {xs : List Int} (h : IsB k W n xs) {i : Nat} (hi : i < n) : bayerR ((i : Int) % W) ((i : Int) / W) k = xs.getD i 0 := by
  rw [← h.rank]
  obtain ⟨b1, _⟩ := h.bd
  have hq := h.q
  obtain ⟨x, y, x0, x1, y0, y1, ei, eix, eiy⟩ := split_dm (i := (i : Int)) (W := W) (H := W) b1 (by omega) (by omega)
  rw [eix, eiy]
  unfold rankOf
  rw [Int.emod_eq_of_lt x0 x1, Int.emod_eq_of_lt y0 y1]
  congr 1
  omega

theorem IsB.next {k : Nat} {W : Int} {n : Nat} {xs : List Int} (h : IsB k W n xs) : bayerM (k + 1) = ⟨2 * W, 2 * W, gen (4 * n) (dblG W W xs)⟩ := by
  show dblM (bayerM k) = _
  rw [h.m]
  unfold dblM
  rw [h.l]

end Go.Proofs.Ytepaklcobkdfdaa
