/-
  Turned and mirrored pictures as plain lists: four turns, two mirrors, and the amounts.
-/
import Derived.Test.YtepaklcobkdfdaaM8
namespace Go.Proofs.Ytepaklcobkdfdaa
open Go.RowKit
set_option linter.unusedVariables false
set_option linter.unusedSimpArgs false

/-- The turned list: n amounts, a width W and a height H of before. -/
def turnL (W H : Int) (n : Nat) (xs : List Int) : List Int := gen n (fun i => xs.getD (turnI W H (i : Int)).toNat 0)
def mirL (W : Int) (n : Nat) (xs : List Int) : List Int := gen n (fun i => xs.getD (mirT W (i : Int)).toNat 0)
/-- A list by places. -/
def byXY (W : Int) (n : Nat) (f : Int → Int → Int) : List Int := gen n (fun i => f ((i : Int) % W) ((i : Int) / W))

theorem byXY_self {W H : Int} {n : Nat} {xs : List Int} (hl : xs.length = n) (hn : (n : Int) = W * H) (hW : 1 ≤ W) : xs = byXY W n (fun x y => xs.getD (y * W + x).toNat 0) := by
  refine gen_ext n _ xs hl (fun k hk => ?_)
  obtain ⟨x, y, x0, x1, y0, y1, ei, eix, eiy⟩ := split_dm (i := (k : Int)) (W := W) (H := H) hW (by omega) (by omega)
  rw [eix, eiy]
  show xs.getD k 0 = xs.getD (y * W + x).toNat 0
  rw [← ei]
  rfl

theorem turn_by {W H : Int} {n : Nat} (hn : (n : Int) = W * H) (hW : 1 ≤ W) (hH : 1 ≤ H) (f : Int → Int → Int) : turnL W H n (byXY W n f) = byXY H n (fun x y => f (W - 1 - y) x) := by
  refine gen_congr (fun i hi => ?_)
  obtain ⟨t0, t1, t2⟩ := turn_right (j := (i : Int)) hW hH (by omega) (by omega)
  rw [show (byXY W n f).getD (turnI W H (i : Int)).toNat 0 = f (((turnI W H (i : Int)).toNat : Int) % W) (((turnI W H (i : Int)).toNat : Int) / W) from gen_get n _ _ (by omega)]
  rw [Int.toNat_of_nonneg t0]
  obtain ⟨x, y, x0, x1, y0, y1, ei, eix, eiy⟩ := split_dm (i := (i : Int)) (W := H) (H := W) hH (by omega) (by rw [Int.mul_comm]; omega)
  unfold turnI
  rw [eix, eiy]
  obtain ⟨d1, d2⟩ := join_dm (q := x) (r := W - 1 - y) (m := W) (by omega) (by omega)
  rw [d1, d2]

theorem mir_by {W H : Int} {n : Nat} (hn : (n : Int) = W * H) (hW : 1 ≤ W) (f : Int → Int → Int) : mirL W n (byXY W n f) = byXY W n (fun x y => f (W - 1 - x) y) := by
  refine gen_congr (fun i hi => ?_)
  obtain ⟨t0, t1, t2, t3, t4⟩ := mir_self (i := (i : Int)) hW (by omega) (by omega : (i : Int) < W * H)
  rw [show (byXY W n f).getD (mirT W (i : Int)).toNat 0 = f (((mirT W (i : Int)).toNat : Int) % W) (((mirT W (i : Int)).toNat : Int) / W) from gen_get n _ _ (by omega)]
  rw [Int.toNat_of_nonneg t0]
  obtain ⟨x, y, x0, x1, y0, y1, ei, eix, eiy⟩ := split_dm (i := (i : Int)) (W := W) (H := H) hW (by omega) (by omega)
  unfold mirT
  rw [eix, eiy]
  obtain ⟨d1, d2⟩ := join_dm (q := y) (r := W - 1 - x) (m := W) (by omega) (by omega)
  rw [show y * W + W - 1 - x = y * W + (W - 1 - x) by omega, d1, d2]

theorem by_ext {W : Int} {n : Nat} {f g : Int → Int → Int} (h : ∀ x y, f x y = g x y) : byXY W n f = byXY W n g := gen_congr (fun i hi => h _ _)

theorem turn_4 {W H : Int} {n : Nat} {xs : List Int} (hl : xs.length = n) (hn : (n : Int) = W * H) (hW : 1 ≤ W) (hH : 1 ≤ H) : turnL H W n (turnL W H n (turnL H W n (turnL W H n xs))) = xs := by
  have hn2 : (n : Int) = H * W := by rw [Int.mul_comm]; exact hn
  obtain ⟨f, e⟩ : ∃ f, xs = byXY W n f := ⟨_, byXY_self hl hn hW⟩
  rw [e, turn_by hn hW hH, turn_by hn2 hH hW, turn_by hn hW hH, turn_by hn2 hH hW]
  refine by_ext (fun x y => ?_)
  congr 1 <;> omega

theorem mir_2 {W H : Int} {n : Nat} {xs : List Int} (hl : xs.length = n) (hn : (n : Int) = W * H) (hW : 1 ≤ W) : mirL W n (mirL W n xs) = xs := by
  obtain ⟨f, e⟩ : ∃ f, xs = byXY W n f := ⟨_, byXY_self hl hn hW⟩
  rw [e, mir_by hn hW, mir_by hn hW]
  refine by_ext (fun x y => ?_)
  congr 1
  omega

theorem turn_mir {W H : Int} {n : Nat} {xs : List Int} (hl : xs.length = n) (hn : (n : Int) = W * H) (hW : 1 ≤ W) (hH : 1 ≤ H) : turnL H W n (mirL H n (turnL W H n xs)) = mirL W n xs := by
  have hn2 : (n : Int) = H * W := by rw [Int.mul_comm]; exact hn
  obtain ⟨f, e⟩ : ∃ f, xs = byXY W n f := ⟨_, byXY_self hl hn hW⟩
  rw [e, turn_by hn hW hH, mir_by hn2 hH, turn_by hn2 hH hW, mir_by hn hW]
  refine by_ext (fun x y => ?_)
  congr 1
  omega

theorem isum_perm {xs ys : List Int} (h : xs.Perm ys) : isum xs = isum ys := by
  induction h with
  | nil => rfl
  | cons x _ ih => simp [isum, ih]
  | swap x y l => simp [isum]; omega
  | trans _ _ i1 i2 => rw [i1, i2]

theorem icount_perm {xs ys : List Int} (v : Int) (h : xs.Perm ys) : icount v xs = icount v ys := by
  unfold icount
  exact (h.filter _).length_eq

theorem index_perm {n : Nat} {t : Nat → Nat} (ht : ∀ i, i < n → t i < n) (hi : ∀ i j, i < n → j < n → t i = t j → i = j) : (gen n (fun i => (t i : Int))).Perm (gen n (fun i => (i : Int))) := by
  have a1 : inR (gen n (fun i => (t i : Int))) n = true := inR_gen (fun i h => ⟨by omega, by have := ht i h; omega⟩)
  have a2 : inR (gen n (fun i => (i : Int))) n = true := inR_gen (fun i h => ⟨by omega, by omega⟩)
  have b1 : (gen n (fun i => (t i : Int))).Nodup := nodup_genf (fun i j h1 h2 e => hi i j h1 h2 (by omega))
  have b2 : (gen n (fun i => (i : Int))).Nodup := nodup_genf (fun i j h1 h2 e => by omega)
  rw [List.perm_iff_count]
  intro v
  have c : ∀ l : List Int, List.count v l = icount v l := fun l => by unfold icount; rw [List.count, List.countP_eq_length_filter]
  rw [c, c]
  by_cases hv : 0 ≤ v ∧ v < (n : Int)
  · obtain ⟨r, rfl⟩ : ∃ r : Nat, v = (r : Int) := ⟨v.toNat, by omega⟩
    rw [perm_icount (gen_len _ _) a1 b1 r (by omega), perm_icount (gen_len _ _) a2 b2 r (by omega)]
  · rw [icount_out a1 v hv, icount_out a2 v hv]

theorem moved_perm {n : Nat} {t : Nat → Nat} {xs : List Int} (hl : xs.length = n) (ht : ∀ i, i < n → t i < n) (hi : ∀ i j, i < n → j < n → t i = t j → i = j) : (gen n (fun i => xs.getD (t i) 0)).Perm xs := by
  have h := (index_perm ht hi).map (fun j : Int => xs.getD j.toNat 0)
  have e1 : (gen n (fun i => (t i : Int))).map (fun j : Int => xs.getD j.toNat 0) = gen n (fun i => xs.getD (t i) 0) := by unfold gen; rw [List.map_map]; rfl
  have e2 : (gen n (fun i => (i : Int))).map (fun j : Int => xs.getD j.toNat 0) = xs := by
    refine Eq.trans ?_ (gen_ext n (fun i => xs.getD i 0) xs hl (fun k hk => rfl)).symm
    unfold gen; rw [List.map_map]; rfl
  rw [e1, e2] at h
  exact h

theorem turn_permL {W H : Int} {n : Nat} {xs : List Int} (hl : xs.length = n) (hn : (n : Int) = W * H) (hW : 1 ≤ W) (hH : 1 ≤ H) : (turnL W H n xs).Perm xs := by
  refine moved_perm (t := fun i => (turnI W H (i : Int)).toNat) hl (fun i hi => ?_) (fun i j hi hj e => ?_)
  · obtain ⟨t0, t1, t2⟩ := turn_right (j := (i : Int)) hW hH (by omega) (by omega)
    omega
  · obtain ⟨t0, t1, t2⟩ := turn_right (j := (i : Int)) hW hH (by omega) (by omega)
    obtain ⟨s0, s1, s2⟩ := turn_right (j := (j : Int)) hW hH (by omega) (by omega)
    have e2 : turnI W H (i : Int) = turnI W H (j : Int) := by omega
    rw [e2, s2] at t2
    omega

theorem turnL_len {W H : Int} {n : Nat} {xs : List Int} : (turnL W H n xs).length = n := gen_len _ _
theorem mirL_len {W : Int} {n : Nat} {xs : List Int} : (mirL W n xs).length = n := gen_len _ _

theorem within_getD {xs : List Int} {m : Int} (h : within xs m = true) (k : Nat) (hk : k < xs.length) : 0 ≤ xs.getD k 0 ∧ xs.getD k 0 ≤ m := within_at h k hk

theorem within_gen {n : Nat} {m : Int} {f : Nat → Int} (h : ∀ i, i < n → 0 ≤ f i ∧ f i ≤ m) : within (gen n f) m = true := by
  unfold within gen
  rw [List.all_map, List.all_eq_true]
  intro i hi
  simpa using h i (List.mem_range.1 hi)

theorem turn_ok {W H : Int} {n : Nat} {xs : List Int} (hl : xs.length = n) (hp : picOk W H xs 255 = true) : turnF W H xs = ⟨H, W, turnL W H n xs⟩ ∧ picOk H W (turnL W H n xs) 255 = true := by
  obtain ⟨hs, hn, hw⟩ := picOk_bd hl hp
  obtain ⟨b1, b2, b3, b4, b5, b6⟩ := sizeOk_bd hs
  have hN : (W * H).toNat = n := by omega
  refine ⟨?_, ?_⟩
  · unfold turnF
    rw [if_pos hp, hN]
    rfl
  · refine picOk_mk (sizeOk_comm hs) turnL_len (by rw [Int.mul_comm]; exact hn) (within_gen (fun i hi => ?_))
    obtain ⟨t0, t1, t2⟩ := turn_right (j := (i : Int)) b1 b3 (by omega) (by omega)
    exact within_getD hw _ (by omega)

theorem mir_ok {W H : Int} {n : Nat} {xs : List Int} (hl : xs.length = n) (hp : picOk W H xs 255 = true) : mirrorF W H xs = ⟨W, H, mirL W n xs⟩ ∧ picOk W H (mirL W n xs) 255 = true := by
  obtain ⟨hs, hn, hw⟩ := picOk_bd hl hp
  obtain ⟨b1, b2, b3, b4, b5, b6⟩ := sizeOk_bd hs
  have hN : (W * H).toNat = n := by omega
  refine ⟨?_, ?_⟩
  · unfold mirrorF
    rw [if_pos hp, hN]
    rfl
  · refine picOk_mk hs mirL_len hn (within_gen (fun i hi => ?_))
    obtain ⟨t0, t1, t2, t3, t4⟩ := mir_self (i := (i : Int)) b1 (by omega) (by omega : (i : Int) < W * H)
    exact within_getD hw _ (by omega)

end Go.Proofs.Ytepaklcobkdfdaa
