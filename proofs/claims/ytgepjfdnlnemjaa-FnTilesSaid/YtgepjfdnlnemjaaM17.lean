/-
  Blurred plates, as plain functions on lists; nothing of the program.
-/
import Derived.Test.YtgepjfdnlnemjaaM16
namespace Go.Proofs.Ytgepjfdnlnemjaa
set_option linter.unusedVariables false
set_option linter.unusedSimpArgs false

/-- A row of the torus, gone on with to n numbers. -/
def perR (W : Nat) (xs : List Int) (y n : Nat) : List Int := gen n (fun j => xs.getD (y * W + j % W) 0)
def blurP (W H : Nat) (xs : List Int) (w i k : Nat) : Int := xs.getD ((i / W + k / w) % H * W + (i % W + k % w) % W) 0
def blurS (W H : Nat) (xs : List Int) (w i m : Nat) : Int := sumR (blurP W H xs w i) m
def blurG (W H : Nat) (xs : List Int) (w h i : Nat) : Int := 255 * blurS W H xs w i (w * h) / ((w * h : Nat) : Int)
def blurF (W H : Int) (xs : List Int) (w h : Int) : Pic × Bool :=
  if picOk W H xs 1 = true ∧ 1 ≤ w ∧ w ≤ 16 ∧ 1 ≤ h ∧ h ≤ 16 then (⟨W, H, gen xs.length (blurG W.toNat H.toNat xs w.toNat h.toNat)⟩, true) else (noPic, false)

theorem blurF_no {W H : Int} {xs : List Int} {w h : Int} (hh : ¬ (picOk W H xs 1 = true ∧ 1 ≤ w ∧ w ≤ 16 ∧ 1 ≤ h ∧ h ≤ 16)) : blurF W H xs w h = (noPic, false) := by unfold blurF; rw [if_neg hh]

theorem blurF_yes {W H w h n : Nat} {xs : List Int} (hl : xs.length = n) (hp : picOk W H xs 1 = true) (h1 : 1 ≤ w) (h2 : w ≤ 16) (h3 : 1 ≤ h) (h4 : h ≤ 16) :
    blurF W H xs w h = (⟨W, H, gen n (blurG W H xs w h)⟩, true) := by
  unfold blurF; rw [if_pos ⟨hp, by omega, by omega, by omega, by omega⟩, hl]; simp

theorem getD_bd {xs : List Int} {m : Int} (h : within xs m = true) (hm : 0 ≤ m) (i : Nat) : 0 ≤ xs.getD i 0 ∧ xs.getD i 0 ≤ m := by
  by_cases hi : i < xs.length
  · exact within_at h i hi
  · have e : xs.getD i 0 = 0 := by simp [List.getD, List.getElem?_eq_none (show xs.length ≤ i by omega)]
    rw [e]
    exact ⟨Int.le_refl _, hm⟩

theorem sumR_bd {f : Nat → Int} {m : Int} (h : ∀ i, 0 ≤ f i ∧ f i ≤ m) (n : Nat) : 0 ≤ sumR f n ∧ sumR f n ≤ m * n := by
  induction n with
  | zero => simp [sumR]
  | succ n ih =>
    have := h n
    simp only [sumR]
    rw [Int.natCast_succ, Int.mul_add, Int.mul_one]
    omega

theorem blurS_bd {W H w i : Nat} {xs : List Int} (h : within xs 1 = true) (m : Nat) : 0 ≤ blurS W H xs w i m ∧ blurS W H xs w i m ≤ (m : Int) := by
  have := sumR_bd (f := blurP W H xs w i) (m := 1) (fun k => getD_bd h (by omega) _) m
  unfold blurS
  omega

theorem perR_len (W : Nat) (xs : List Int) (y n : Nat) : (perR W xs y n).length = n := gen_len _ _

theorem perR_within {W y n : Nat} {xs : List Int} {m : Int} (h : within xs m = true) (hm : 0 ≤ m) : within (perR W xs y n) m = true := by
  unfold perR within gen
  rw [List.all_eq_true]
  intro v hv
  obtain ⟨i, hi, rfl⟩ := List.mem_map.1 hv
  have := getD_bd h hm (y * W + i % W)
  simpa using this

theorem blur_row {W H w i r n : Nat} {xs : List Int} (hw : 1 ≤ w) (hn : i % W + w ≤ n) :
    winS (perR W xs ((i / W + r) % H) n) (i % W) w = sumR (fun c => blurP W H xs w i (r * w + c)) w := by
  rw [winS_sumR _ _ _ (by rw [perR_len]; exact hn)]
  refine sumR_congr (fun c hc => ?_)
  unfold perR blurP
  rw [gen_get _ _ _ (by omega)]
  have e1 : (r * w + c) / w = r := by rw [Nat.mul_comm, Nat.mul_add_div (by omega), Nat.div_eq_of_lt hc, Nat.add_zero]
  have e2 : (r * w + c) % w = c := by rw [Nat.mul_comm, Nat.mul_add_mod, Nat.mod_eq_of_lt hc]
  rw [e1, e2]

theorem blur_next {W H w i r n : Nat} {xs : List Int} (hw : 1 ≤ w) (hn : i % W + w ≤ n) :
    blurS W H xs w i (w * r) + winS (perR W xs ((i / W + r) % H) n) (i % W) w = blurS W H xs w i (w * (r + 1)) := by
  rw [blur_row hw hn]
  unfold blurS
  rw [Nat.mul_succ, sumR_add]
  congr 1
  refine sumR_congr (fun c hc => ?_)
  rw [Nat.mul_comm r w]

theorem blurG_bd {W H w h i : Nat} {xs : List Int} (hx : within xs 1 = true) (h1 : 1 ≤ w * h) : 0 ≤ blurG W H xs w h i ∧ blurG W H xs w h i ≤ 255 := by
  obtain ⟨b0, b1⟩ := blurS_bd (W := W) (H := H) (w := w) (i := i) hx (w * h)
  unfold blurG
  constructor
  · exact Int.ediv_nonneg (by omega) (by omega)
  · have : 255 * blurS W H xs w i (w * h) < (255 + 1) * ((w * h : Nat) : Int) := by omega
    have := Int.ediv_lt_of_lt_mul (by omega) this
    omega

theorem per_snoc {W y m : Nat} {xs zs : List Int} (hW : 1 ≤ W) (hz : zs.length = W) (h : ∀ j, j < W → zs.getD j 0 = xs.getD (y * W + j) 0) : perR W xs y (m * W) ++ zs = perR W xs y ((m + 1) * W) := by
  refine gen_ext _ _ _ (by rw [List.length_append, perR_len, hz, Nat.add_mul, Nat.one_mul]) (fun k hk => ?_)
  simp only [List.getD, List.getElem?_append, perR_len]
  rw [Nat.add_mul, Nat.one_mul] at hk
  by_cases hm : k < m * W
  · rw [if_pos hm]
    exact gen_get _ _ k hm
  · rw [if_neg hm]
    obtain ⟨j, rfl⟩ : ∃ j, k = m * W + j := ⟨k - m * W, by omega⟩
    rw [Nat.add_sub_cancel_left]
    have e : (m * W + j) % W = j := by rw [Nat.mul_comm, Nat.mul_add_mod, Nat.mod_eq_of_lt (by omega)]
    rw [e]
    exact h j (by omega)

end Go.Proofs.Ytgepjfdnlnemjaa
