/-
  Sums over tiles, as plain functions on lists; nothing of the program.
-/
import Derived.Test.YtgepjfdnlnemjaaM12
namespace Go.Proofs.Ytgepjfdnlnemjaa
set_option linter.unusedVariables false
set_option linter.unusedSimpArgs false

def sumR (f : Nat → Int) : Nat → Int
  | 0 => 0
  | k + 1 => sumR f k + f k

/-- The sum of w numbers from a place on. -/
def winS (xs : List Int) (s w : Nat) : Int := isum ((xs.drop s).take w)
/-- The sum of a part of h rows. -/
def tileS (W : Nat) (xs : List Int) (x y w h : Nat) : Int := sumR (fun r => winS xs ((y + r) * W + x) w) h

theorem sumR_congr {f g : Nat → Int} {n : Nat} (h : ∀ i, i < n → f i = g i) : sumR f n = sumR g n := by
  induction n with
  | zero => rfl
  | succ n ih => simp only [sumR]; rw [ih (fun i hi => h i (by omega)), h n (by omega)]

theorem winS_zero (xs : List Int) (s : Nat) : winS xs s 0 = 0 := by simp [winS, isum]

theorem winS_succ (xs : List Int) (s w : Nat) (h : s + w < xs.length) : winS xs s (w + 1) = winS xs s w + xs.getD (s + w) 0 := by
  unfold winS
  rw [isum_snoc _ _ (by rw [List.length_drop]; omega), List.getElem?_drop]
  rfl

theorem winS_sumR (xs : List Int) (s w : Nat) (h : s + w ≤ xs.length) : winS xs s w = sumR (fun c => xs.getD (s + c) 0) w := by
  induction w with
  | zero => rw [winS_zero]; rfl
  | succ w ih => rw [winS_succ xs s w (by omega), ih (by omega)]; rfl

theorem isum_gen (f : Nat → Int) (n : Nat) : isum (gen n f) = sumR f n := by
  induction n with
  | zero => rfl
  | succ n ih =>
    have e : gen (n + 1) f = gen n f ++ [f n] := by simp [gen, List.range_succ]
    rw [e, isum_append, ih]
    simp [isum, sumR]

theorem sumR_add (f : Nat → Int) (a b : Nat) : sumR f (a + b) = sumR f a + sumR (fun c => f (a + c)) b := by
  induction b with
  | zero => simp [sumR]
  | succ b ih => rw [← Nat.add_assoc]; simp only [sumR]; rw [ih]; omega

theorem sumR_rows (f : Nat → Int) (w h : Nat) : sumR f (w * h) = sumR (fun r => sumR (fun c => f (r * w + c)) w) h := by
  induction h with
  | zero => simp [sumR]
  | succ h ih =>
    rw [Nat.mul_succ, sumR_add, ih]
    simp only [sumR]
    rw [Nat.mul_comm w h]

theorem winS_bd {xs : List Int} (hx : within xs 255 = true) (s w : Nat) (h : s + w ≤ xs.length) : 0 ≤ winS xs s w ∧ winS xs s w ≤ 255 * w := by
  induction w with
  | zero => rw [winS_zero]; omega
  | succ w ih =>
    have := ih (by omega)
    have h2 := within_at hx (s + w) (by omega)
    rw [winS_succ xs s w (by omega)]
    have e : xs.getD (s + w) 0 = xs[s + w]?.getD 0 := rfl
    omega

/-- A tile within the picture: its rows lie in the list. -/
theorem row_in {W H n x y w h r : Nat} (hn : n = W * H) (hx : x + w ≤ W) (hy : y + h ≤ H) (hr : r < h) : (y + r) * W + x + w ≤ n := by
  have e : (y + r + 1) * W ≤ H * W := Nat.mul_le_mul_right W (by omega)
  rw [Nat.add_mul, Nat.one_mul, Nat.mul_comm H W] at e
  omega

theorem tileS_bd {W H x y w h n : Nat} {xs : List Int} (hx : within xs 255 = true) (hl : xs.length = n) (hn : n = W * H) (h1 : x + w ≤ W) (h2 : y + h ≤ H) (k : Nat) (hk : k ≤ h) :
    0 ≤ tileS W xs x y w k ∧ tileS W xs x y w k ≤ 255 * w * k := by
  induction k with
  | zero => simp [tileS, sumR]
  | succ k ih =>
    have := ih (by omega)
    have hb := winS_bd hx ((y + k) * W + x) w (by rw [hl]; exact row_in hn h1 h2 (by omega))
    simp only [tileS, sumR] at this ⊢
    have e : (255 * (w : Int)) * ((k + 1 : Nat) : Int) = 255 * (w : Int) * (k : Int) + 255 * (w : Int) := by rw [Int.natCast_succ, Int.mul_add, Int.mul_one]
    omega

/-- What is cut out has the sum of the tile. -/
theorem crop_sum {W H x y w h n : Nat} {xs : List Int} (hl : xs.length = n) (hn : n = W * H) (hw : 1 ≤ w) (h1 : x + w ≤ W) (h2 : y + h ≤ H) :
    isum (gen (w * h) (fun i => xs.getD (((y : Int) + (i : Int) / (w : Int)) * (W : Int) + (x : Int) + (i : Int) % (w : Int)).toNat 0)) = tileS W xs x y w h := by
  rw [isum_gen, sumR_rows]
  unfold tileS
  refine sumR_congr (fun r hr => ?_)
  rw [winS_sumR _ _ _ (by rw [hl]; exact row_in hn h1 h2 hr)]
  refine sumR_congr (fun c hc => ?_)
  congr 1
  have hd : ((r * w + c : Nat) : Int) / (w : Int) = (r : Int) := by
    rw [← Int.natCast_ediv, Nat.mul_comm r w, Nat.mul_add_div (by omega), Nat.div_eq_of_lt hc]; simp
  have hm : ((r * w + c : Nat) : Int) % (w : Int) = (c : Int) := by
    rw [← Int.natCast_emod, Nat.mul_comm r w, Nat.mul_add_mod, Nat.mod_eq_of_lt hc]
  rw [hd, hm]
  have e : ((y : Int) + (r : Int)) * (W : Int) + (x : Int) + (c : Int) = (((y + r) * W + x + c : Nat) : Int) := by
    simp [Int.natCast_add, Int.natCast_mul]
  rw [e]
  rfl

def tileSumsF (W H : Int) (xs : List Int) (w h : Int) : List Int :=
  if picOk W H xs 255 = true ∧ 1 ≤ w ∧ 1 ≤ h then
    gen (W.toNat / w.toNat * (H.toNat / h.toNat)) (fun i => tileS W.toNat xs (i % (W.toNat / w.toNat) * w.toNat) (i / (W.toNat / w.toNat) * h.toNat) w.toNat h.toNat)
  else []

theorem tileSumsF_no {W H : Int} {xs : List Int} {w h : Int} (hh : ¬ (picOk W H xs 255 = true ∧ 1 ≤ w ∧ 1 ≤ h)) : tileSumsF W H xs w h = [] := by unfold tileSumsF; rw [if_neg hh]

theorem tileSumsF_yes {W H w h : Nat} {xs : List Int} (hp : picOk W H xs 255 = true) (h1 : 1 ≤ w) (h2 : 1 ≤ h) :
    tileSumsF W H xs w h = gen (W / w * (H / h)) (fun i => tileS W xs (i % (W / w) * w) (i / (W / w) * h) w h) := by
  unfold tileSumsF; rw [if_pos ⟨hp, by omega, by omega⟩]; simp

end Go.Proofs.Ytgepjfdnlnemjaa
