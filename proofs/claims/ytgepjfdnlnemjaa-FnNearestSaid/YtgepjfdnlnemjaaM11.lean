/-
  Tiled pictures as plain lists: the amounts of a tiled picture, and what is cut out at whole tiles.
-/
import Derived.Test.YtgepjfdnlnemjaaM10
namespace Go.Proofs.Ytgepjfdnlnemjaa
open Go.RowKit
set_option linter.unusedVariables false
set_option linter.unusedSimpArgs false

theorem gen_add (m n : Nat) (g : Nat → Int) : gen (m + n) g = gen m g ++ gen n (fun i => g (m + i)) := by
  unfold gen
  rw [List.range_add, List.map_append, List.map_map]
  rfl

theorem isum_rows (W H : Nat) (hW : 0 < W) (G : Nat → Nat → Int) : isum (gen (H * W) (fun i => G (i % W) (i / W))) = isum (gen H (fun y => isum (gen W (fun x => G x y)))) := by
  induction H with
  | zero => rw [Nat.zero_mul]; rfl
  | succ H ih =>
    rw [Nat.succ_mul, gen_add, isum_append, ih, ← gen_snoc, isum_append]
    congr 1
    have e : gen W (fun i => G ((H * W + i) % W) ((H * W + i) / W)) = gen W (fun x => G x H) := by
      refine gen_congr (fun i hi => ?_)
      rw [Nat.add_comm, Nat.add_mul_mod_self_right, Nat.mod_eq_of_lt hi, Nat.add_mul_div_right _ _ hW, Nat.div_eq_of_lt hi, Nat.zero_add]
    rw [e]
    simp [isum]

theorem isum_per (A W : Nat) (g : Nat → Int) : isum (gen (A * W) (fun x => g (x % W))) = A * isum (gen W g) := by
  induction A with
  | zero => rw [Nat.zero_mul]; simp [gen, isum]
  | succ A ih =>
    rw [Nat.succ_mul, gen_add, isum_append, ih]
    have e : gen W (fun i => g ((A * W + i) % W)) = gen W g := by
      refine gen_congr (fun i hi => ?_)
      rw [Nat.add_comm, Nat.add_mul_mod_self_right, Nat.mod_eq_of_lt hi]
    rw [e, Int.natCast_succ, Int.add_mul, Int.one_mul]

theorem isum_mul (A : Int) (n : Nat) (g : Nat → Int) : isum (gen n (fun i => A * g i)) = A * isum (gen n g) := by
  induction n with
  | zero => simp [gen, isum]
  | succ n ih => rw [← gen_snoc, ← gen_snoc, isum_append, isum_append, ih]; simp [isum, Int.mul_add]

theorem isum_tile (A B W H : Nat) (hA : 0 < A) (hW : 0 < W) (G : Nat → Nat → Int) :
    isum (gen (B * H * (A * W)) (fun i => G (i % (A * W) % W) (i / (A * W) % H))) = A * B * isum (gen (H * W) (fun i => G (i % W) (i / W))) := by
  have h1 := isum_rows (A * W) (B * H) (Nat.mul_pos hA hW) (fun x y => G (x % W) (y % H))
  have h2 := isum_rows W H hW G
  rw [h1, h2]
  have e : gen (B * H) (fun y => isum (gen (A * W) (fun x => G (x % W) (y % H)))) = gen (B * H) (fun y => (fun y => (A : Int) * isum (gen W (fun x => G x y))) (y % H)) :=
    gen_congr (fun y hy => isum_per A W (fun x => G x (y % H)))
  rw [e, isum_per B H (fun y => (A : Int) * isum (gen W (fun x => G x y))), isum_mul, ← Int.mul_assoc, Int.mul_comm (B : Int) A]

def tileL (W H w : Int) (N : Nat) (xs : List Int) : List Int := gen N (fun i => xs.getD ((i : Int) / w % H * W + (i : Int) % w % W).toNat 0)

theorem tile_sum {W H : Int} {n N : Nat} {xs : List Int} (A B : Nat) (hl : xs.length = n) (hn : (n : Int) = W * H) (hW : 1 ≤ W) (hH : 1 ≤ H) (hA : 0 < A) (hN : (N : Int) = (A : Int) * W * ((B : Int) * H)) :
    isum (tileL W H ((A : Int) * W) N xs) = (A : Int) * B * isum xs := by
  obtain ⟨V, rfl⟩ : ∃ V : Nat, W = (V : Int) := ⟨W.toNat, by omega⟩
  obtain ⟨U, rfl⟩ : ∃ U : Nat, H = (U : Int) := ⟨H.toNat, by omega⟩
  have eN : N = B * U * (A * V) := by
    have : (N : Int) = ((B * U * (A * V) : Nat) : Int) := by rw [hN]; push_cast; exact Int.mul_comm _ _
    omega
  have en : n = U * V := by
    have : (n : Int) = ((U * V : Nat) : Int) := by rw [hn]; push_cast; exact Int.mul_comm _ _
    omega
  have h := isum_tile A B V U hA (by omega) (fun x y => xs.getD (y * V + x) 0)
  have e1 : tileL (V : Int) (U : Int) ((A : Int) * (V : Int)) N xs = gen (B * U * (A * V)) (fun i => xs.getD (i / (A * V) % U * V + i % (A * V) % V) 0) := by
    unfold tileL
    rw [eN]
    refine gen_congr (fun i hi => ?_)
    congr 1
  have e2 : xs = gen (U * V) (fun i => xs.getD (i / V * V + i % V) 0) := by
    refine gen_ext _ _ xs (by omega) (fun k hk => ?_)
    rw [Nat.mul_comm, Nat.div_add_mod]
  rw [e1, h, ← e2]

theorem tile_crop {W H : Int} {n N : Nat} {xs : List Int} (A B : Int) (hl : xs.length = n) (hn : (n : Int) = W * H) (hW : 1 ≤ W) (hH : 1 ≤ H) (hA : 1 ≤ A) (hB : 1 ≤ B) (hN : (N : Int) = A * W * (B * H)) :
    gen n (fun i => (tileL W H (A * W) N xs).getD (((B - 1) * H + (i : Int) / W) * (A * W) + (A - 1) * W + (i : Int) % W).toNat 0) = xs := by
  refine (gen_ext n _ xs hl (fun k hk => ?_)).symm
  obtain ⟨x, y, x0, x1, y0, y1, ei, eix, eiy⟩ := split_dm (i := (k : Int)) (W := W) (H := H) hW (by omega) (by omega)
  rw [eix, eiy]
  have eA : (A - 1) * W = A * W - W := by rw [Int.sub_mul, Int.one_mul]
  have eB : (B - 1) * H = B * H - H := by rw [Int.sub_mul, Int.one_mul]
  have a0 : 0 ≤ (A - 1) * W := Int.mul_nonneg (by omega) (by omega)
  have b0 : 0 ≤ (B - 1) * H := Int.mul_nonneg (by omega) (by omega)
  obtain ⟨r0, r1⟩ := row_bd (x := (A - 1) * W + x) (y := (B - 1) * H + y) (W := A * W) (H := B * H) (by omega) (by omega) (by omega) (by omega)
  obtain ⟨d1, d2⟩ := join_dm (q := (B - 1) * H + y) (r := (A - 1) * W + x) (m := A * W) (by omega) (by omega)
  have e0 : ((B - 1) * H + y) * (A * W) + (A - 1) * W + x = ((B - 1) * H + y) * (A * W) + ((A - 1) * W + x) := by omega
  rw [e0]
  have hi : (((B - 1) * H + y) * (A * W) + ((A - 1) * W + x)).toNat < N := by omega
  rw [show (tileL W H (A * W) N xs).getD (((B - 1) * H + y) * (A * W) + ((A - 1) * W + x)).toNat 0 = xs.getD (((((B - 1) * H + y) * (A * W) + ((A - 1) * W + x)).toNat : Int) / (A * W) % H * W + ((((B - 1) * H + y) * (A * W) + ((A - 1) * W + x)).toNat : Int) % (A * W) % W).toNat 0 from gen_get N _ _ hi]
  rw [Int.toNat_of_nonneg (by omega), d1, d2, Int.add_comm _ y, Int.add_mul_emod_self_right, Int.emod_eq_of_lt y0 y1, Int.add_comm _ x, Int.add_mul_emod_self_right, Int.emod_eq_of_lt x0 x1, ← ei]
  rfl

end Go.Proofs.Ytgepjfdnlnemjaa
