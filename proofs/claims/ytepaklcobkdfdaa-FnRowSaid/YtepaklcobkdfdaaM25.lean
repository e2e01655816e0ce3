/-
  Diffusion in one row with the plain kernel: the error is carried on. Nothing of the program.
-/
import Derived.Test.YtepaklcobkdfdaaM23
namespace Go.Proofs.Ytepaklcobkdfdaa
set_option linter.unusedVariables false
set_option linter.unusedSimpArgs false

def plainP : List Prt := [⟨1, 0, 1⟩]

/-- The error that comes to a point of the row. -/
def rowE (xs : List Int) : Nat → Int
  | 0 => 0
  | t + 1 => errOf (xs.getD t 0 + rowE xs t)
def rowD (xs : List Int) (t : Nat) : Int := dotOf (xs.getD t 0 + rowE xs t)

theorem rowE_bd {xs : List Int} (h : within xs 255 = true) (t : Nat) (ht : t ≤ xs.length) : -127 ≤ rowE xs t ∧ rowE xs t ≤ 127 := by
  induction t with
  | zero => simp [rowE]
  | succ t ih =>
    have h1 := ih (by omega)
    have h2 := within_at h t (by omega)
    have e : xs.getD t 0 = xs[t]?.getD 0 := rfl
    simp only [rowE, e]
    unfold errOf dotOf
    split <;> omega

theorem rowE_step (xs : List Int) (t : Nat) : rowE xs t + xs.getD t 0 - 255 * rowD xs t = rowE xs (t + 1) := by
  simp only [rowE, rowD, errOf]; omega

theorem plain_shares (e : Int) : sharesG plainP (wtTo plainP plainP.length) e = [e] := by
  have a : (plainP.length) = 1 := rfl
  have b : wtTo plainP 1 = 1 := by decide
  have c : shareB plainP 1 e 0 = e := by unfold shareB; simp [prt, plainP]
  have d : shSum plainP 1 e 1 = e := by simp [shSum, c]
  unfold sharesG
  rw [a, b, d, c]
  simp [gen, c]

theorem pos_row {n t : Nat} (ht : t < n) : posAt false n t = t := by
  unfold posAt xAt
  have h1 : (t : Int) / (n : Int) = 0 := Int.ediv_eq_zero_of_lt (by omega) (by omega)
  have h2 : (t : Int) % (n : Int) = t := Int.emod_eq_of_lt (by omega) (by omega)
  rw [h1, h2]; simp

theorem tgt_row {n t : Nat} (ht : t < n) : tgtAt false n 1 t ⟨1, 0, 1⟩ = if t + 1 < n then some (t + 1) else none := by
  unfold tgtAt tgt xAt wayAt
  have h1 : (t : Int) / (n : Int) = 0 := Int.ediv_eq_zero_of_lt (by omega) (by omega)
  have h2 : (t : Int) % (n : Int) = t := Int.emod_eq_of_lt (by omega) (by omega)
  rw [h1, h2]
  by_cases h : t + 1 < n
  · rw [if_pos h]
    simp only [Bool.false_eq_true, false_and, if_false]
    rw [if_pos (by refine ⟨by omega, by omega, by omega, by omega⟩)]
    congr 1; omega
  · rw [if_neg h]
    simp only [Bool.false_eq_true, false_and, if_false]
    rw [if_neg (by omega)]

theorem row_run {xs : List Int} {n : Nat} (hn : xs.length = n) (t : Nat) (ht : t ≤ n) :
    (∀ i, t < i → i < n → (runG false plainP n 1 xs t).pend.getD i 0 = xs.getD i 0) ∧ (t < n → (runG false plainP n 1 xs t).pend.getD t 0 = xs.getD t 0 + rowE xs t) ∧ (∀ i, i < t → (runG false plainP n 1 xs t).dots.getD i 0 = rowD xs i) := by
  induction t with
  | zero => exact ⟨fun i _ _ => rfl, fun _ => by simp [runG, rowE], fun i hi => by omega⟩
  | succ t ih =>
    obtain ⟨a, b, c⟩ := ih (by omega)
    obtain ⟨l1, l2, l3⟩ := run_len (alt := false) (ks := plainP) (W := (n : Int)) (H := 1) (ink := xs) t
    have hb := b (by omega)
    obtain ⟨d, hd⟩ : ∃ d, runG false plainP n 1 xs t = d := ⟨_, rfl⟩
    have hr : runG false plainP n 1 xs (t + 1) = passG false plainP n 1 d t := by rw [runG, hd]
    rw [hd] at a hb c l1 l2
    rw [hr]
    have g : givesAt false plainP n 1 t (errOf (d.pend.getD t 0)) (d.pend.set t 0, d.lost) plainP.length = give (d.pend.set t 0, d.lost) (if t + 1 < n then some (t + 1) else none) (errOf (d.pend.getD t 0)) := by
      unfold givesAt
      rw [plain_shares]
      show give (gives _ _ _ 0) (tgtAt false n 1 t (prt plainP 0)) (List.getD [errOf (d.pend.getD t 0)] 0 0) = _
      rw [show prt plainP 0 = ⟨1, 0, 1⟩ from rfl, tgt_row (by omega)]
      rfl
    simp only [passG, pos_row (show t < n by omega)]
    rw [g]
    refine ⟨fun i hi hin => ?_, fun hin => ?_, fun i hi => ?_⟩
    · by_cases h : t + 1 < n
      · rw [if_pos h]
        simp only [give]
        rw [getD_set_ne _ _ (by omega), getD_set_ne _ _ (by omega)]
        exact a i (by omega) hin
      · omega
    · rw [if_pos hin]
      simp only [give]
      rw [getD_set _ _ _ _ (by simp; omega), if_pos rfl, getD_set_ne _ _ (by omega), a (t + 1) (by omega) hin, hb]
      rfl
    · by_cases e : i = t
      · subst e
        rw [getD_set _ _ _ _ (by omega), if_pos rfl, hb]; rfl
      · rw [getD_set_ne _ _ (by omega)]
        exact c i (by omega)

end Go.Proofs.Ytepaklcobkdfdaa
