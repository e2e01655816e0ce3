/-
  Doubled matrices as plain lists: a doubled matrix is a matrix.
-/
import Derived.Test.YtepaklcobkdfdaaM6
import Derived.Test.YtepaklcobkdfdaaD7
namespace Go.Proofs.Ytepaklcobkdfdaa
open Go.RowKit
set_option linter.unusedVariables false
set_option linter.unusedSimpArgs false

theorem nodup_genf {n : Nat} {f : Nat → Int} (hi : ∀ i j, i < n → j < n → f i = f j → i = j) : (gen n f).Nodup := by
  unfold gen List.Nodup
  rw [List.pairwise_map]
  refine List.Pairwise.imp_of_mem (R := (· < ·)) ?_ List.pairwise_lt_range
  intro a b ha hb hab e
  have := hi a b (List.mem_range.1 ha) (List.mem_range.1 hb) e
  omega

theorem rankOf_inj {W H : Int} {xs : List Int} {n : Nat} (hl : xs.length = n) (hn : (n : Int) = W * H) (hW : 1 ≤ W) (hH : 1 ≤ H) (hd : xs.Nodup) {x y x' y' : Int} (e : rankOf W H xs x y = rankOf W H xs x' y') : x % W = x' % W ∧ y % H = y' % H := by
  obtain ⟨i0, i1, i2, i3⟩ := rank_idx hn hW hH x y
  obtain ⟨j0, j1, j2, j3⟩ := rank_idx hn hW hH x' y'
  have e1 := nodup_at hd (by rw [hl]; exact i3) (by rw [hl]; exact j3) e
  have e2 : y % H * W + x % W = y' % H * W + x' % W := by omega
  obtain ⟨p0, p1⟩ := mod_bd x hW
  obtain ⟨q0, q1⟩ := mod_bd x' hW
  obtain ⟨d1, d2⟩ := join_dm (q := y % H) p0 p1
  obtain ⟨d3, d4⟩ := join_dm (q := y' % H) q0 q1
  rw [e2] at d1 d2
  exact ⟨by rw [← d2, d4], by rw [← d1, d3]⟩

theorem quarter_inj {a b a' b' : Int} (h0 : 0 ≤ a) (h1 : a ≤ 1) (h2 : 0 ≤ b) (h3 : b ≤ 1) (h4 : 0 ≤ a') (h5 : a' ≤ 1) (h6 : 0 ≤ b') (h7 : b' ≤ 1) (e : quarter a b = quarter a' b') : a = a' ∧ b = b' := by
  unfold quarter at e
  split at e <;> split at e <;> split at e <;> split at e <;> omega

theorem dbl_ok {W H : Int} {xs : List Int} {n m : Nat} (hl : xs.length = n) (mk : matOk W H xs = true) (hm : m = 4 * n) (h4 : 4 * n ≤ 256) : matOk (2 * W) (2 * H) (gen m (dblG W H xs)) = true := by
  obtain ⟨m1, m2, m3, m4⟩ := matOk_bd hl mk
  obtain ⟨b1, b2, b3, b4, b5, b6⟩ := matSize_bd m1
  obtain ⟨s1, s2, s3, s4⟩ := dbl_size m2 b1 b3 h4
  subst hm
  refine matOk_mk (gen_len _ _) s1 s2 (inR_gen (fun i hi => dbl_bd hl m2 b1 b3 m3 i)) (nodup_genf (fun i j hi hj e => ?_))
  obtain ⟨x0, x1, y0, y1, y2⟩ := dbl_xy m2 b1 b3 hi
  obtain ⟨u0, u1, v0, v1, v2⟩ := dbl_xy m2 b1 b3 hj
  unfold dblG at e
  obtain ⟨a0, a1⟩ := half_bd b1 x0 x1
  obtain ⟨c0, c1⟩ := half_bd b3 y0 y1
  obtain ⟨d0, d1⟩ := half_bd b1 u0 u1
  obtain ⟨e0, e1⟩ := half_bd b3 v0 v1
  have q1 := quarter_bd ((i : Int) % (2 * W) / W) ((i : Int) / (2 * W) / H)
  have q2 := quarter_bd ((j : Int) % (2 * W) / W) ((j : Int) / (2 * W) / H)
  obtain ⟨f1, f2⟩ := quarter_inj a0 a1 c0 c1 d0 d1 e0 e1 (by omega)
  obtain ⟨g1, g2⟩ := rankOf_inj hl m2 b1 b3 m4 (x := (i : Int) % (2 * W)) (y := (i : Int) / (2 * W)) (x' := (j : Int) % (2 * W)) (y' := (j : Int) / (2 * W)) (by omega)
  have hx : (i : Int) % (2 * W) = (j : Int) % (2 * W) := by
    rw [← Int.emod_add_mul_ediv ((i : Int) % (2 * W)) W, ← Int.emod_add_mul_ediv ((j : Int) % (2 * W)) W, f1, g1]
  have hy : (i : Int) / (2 * W) = (j : Int) / (2 * W) := by
    rw [← Int.emod_add_mul_ediv ((i : Int) / (2 * W)) H, ← Int.emod_add_mul_ediv ((j : Int) / (2 * W)) H, f2, g2]
  have : (i : Int) = j := by
    rw [← Int.emod_add_mul_ediv (i : Int) (2 * W), ← Int.emod_add_mul_ediv (j : Int) (2 * W), hx, hy]
  omega

theorem quarter_cases {a b : Int} (h0 : 0 ≤ a) (h1 : a ≤ 1) (h2 : 0 ≤ b) (h3 : b ≤ 1) : (a = 0 ∧ b = 0 ∧ quarter a b = 0) ∨ (a = 1 ∧ b = 0 ∧ quarter a b = 2) ∨ (a = 0 ∧ b = 1 ∧ quarter a b = 3) ∨ (a = 1 ∧ b = 1 ∧ quarter a b = 1) := by
  unfold quarter
  split <;> split <;> omega

end Go.Proofs.Ytepaklcobkdfdaa
