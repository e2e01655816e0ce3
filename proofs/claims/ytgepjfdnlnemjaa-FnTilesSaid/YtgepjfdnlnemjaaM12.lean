/-
  What the functions of chapter 4 come to, as plain functions on lists; nothing of the program.
-/
import Derived.Test.YtgepjfdnlnemjaaM3
namespace Go.Proofs.Ytgepjfdnlnemjaa
set_option linter.unusedVariables false
set_option linter.unusedSimpArgs false

def levelG (n : Nat) (v : Int) : Int := (v * (n : Int) * 2 + 255) / 510
def levelOfF (W H : Int) (xs : List Int) (v : Int) : Int := if matOk W H xs = true ∧ 0 ≤ v ∧ v ≤ 255 then levelG xs.length v else -1
def levelsF (W H : Int) (xs : List Int) (W' H' : Int) (ys : List Int) : List Int := if matOk W H xs = true ∧ picOk W' H' ys 255 = true then ys.map (levelG xs.length) else []
/-- The dot at a point, for the levels ls of the points. -/
def dotG (W H : Int) (xs ls : List Int) (tw : Int) (i : Nat) : Int := if rankOf W H xs ((i : Int) % tw) ((i : Int) / tw) < ls[i]?.getD 0 then 1 else 0
def screenLevelF (W H : Int) (xs : List Int) (l tw th : Int) : Pic × Bool :=
  if matOk W H xs = true ∧ 0 ≤ l ∧ l ≤ (xs.length : Int) ∧ sizeOk tw th = true then (⟨tw, th, gen (tw * th).toNat (dotG W H xs (List.replicate (tw * th).toNat l) tw)⟩, true) else (noPic, false)
def screenF (W H : Int) (xs : List Int) (W' H' : Int) (ys : List Int) : Pic :=
  if matOk W H xs = true ∧ picOk W' H' ys 255 = true then ⟨W', H', gen ys.length (dotG W H xs (ys.map (levelG xs.length)) W')⟩ else noPic
def screenShiftF (W H : Int) (xs : List Int) (W' H' : Int) (ys : List Int) (dx dy : Int) : Pic :=
  screenF (shiftF W H xs dx dy).W (shiftF W H xs dx dy).H (shiftF W H xs dx dy).ranks W' H' ys
def errD (xs ys : List Int) (i : Nat) : Int := 255 * ys[i]?.getD 0 - xs[i]?.getD 0
def errS (xs ys : List Int) : Nat → Int
  | 0 => 0
  | k + 1 => errS xs ys k + errD xs ys k * errD xs ys k
def errF (W H : Int) (xs : List Int) (W' H' : Int) (ys : List Int) : Int := if pairOk W H xs W' H' ys = true ∧ picOk W' H' ys 1 = true then errS xs ys ys.length else -1

theorem mul_lev {n : Nat} {v : Int} (h1 : 0 ≤ v) (h2 : v ≤ 255) (h3 : n ≤ 256) : 0 ≤ v * (n : Int) ∧ v * (n : Int) ≤ 65280 := by
  constructor
  · exact Int.mul_nonneg h1 (by omega)
  · have := Int.mul_le_mul h2 (show (n : Int) ≤ 256 by omega) (by omega) (by omega); omega

theorem levelG_bd {n : Nat} {v : Int} (h1 : 0 ≤ v) (h2 : v ≤ 255) (h3 : n ≤ 256) : 0 ≤ levelG n v ∧ levelG n v ≤ (n : Int) := by
  obtain ⟨b0, b1⟩ := mul_lev h1 h2 h3
  have e : v * (n : Int) ≤ 255 * (n : Int) := Int.mul_le_mul_of_nonneg_right h2 (by omega)
  unfold levelG
  omega

theorem levelOfF_no {W H : Int} {xs : List Int} {v : Int} (h : ¬ (matOk W H xs = true ∧ 0 ≤ v ∧ v ≤ 255)) : levelOfF W H xs v = -1 := by unfold levelOfF; rw [if_neg h]

theorem levelOfF_yes {W H : Int} {xs : List Int} {n : Nat} {v : Int} (hn : xs.length = n) (h : matOk W H xs = true) (h1 : 0 ≤ v) (h2 : v ≤ 255) : levelOfF W H xs v = levelG n v := by unfold levelOfF; rw [if_pos ⟨h, h1, h2⟩, hn]

theorem levelsF_no {W H : Int} {xs : List Int} {W' H' : Int} {ys : List Int} (h : ¬ (matOk W H xs = true ∧ picOk W' H' ys 255 = true)) : levelsF W H xs W' H' ys = [] := by unfold levelsF; rw [if_neg h]

theorem levelsF_yes {W H : Int} {xs : List Int} {n : Nat} {W' H' : Int} {ys : List Int} (hn : xs.length = n) (h : matOk W H xs = true) (h2 : picOk W' H' ys 255 = true) : levelsF W H xs W' H' ys = ys.map (levelG n) := by unfold levelsF; rw [if_pos ⟨h, h2⟩, hn]

theorem screenLevelF_no {W H : Int} {xs : List Int} {l tw th : Int} (h : ¬ (matOk W H xs = true ∧ 0 ≤ l ∧ l ≤ (xs.length : Int) ∧ sizeOk tw th = true)) : screenLevelF W H xs l tw th = (noPic, false) := by unfold screenLevelF; rw [if_neg h]

theorem screenLevelF_yes {W H : Int} {xs : List Int} {n m : Nat} {l tw th : Int} (hn : xs.length = n) (hm : (m : Int) = tw * th) (h : matOk W H xs = true) (h1 : 0 ≤ l) (h2 : l ≤ (n : Int)) (h3 : sizeOk tw th = true) :
    screenLevelF W H xs l tw th = (⟨tw, th, gen m (dotG W H xs (List.replicate m l) tw)⟩, true) := by
  unfold screenLevelF; rw [if_pos ⟨h, h1, by rw [hn]; exact h2, h3⟩, ← hm]; simp

theorem screenF_no {W H : Int} {xs : List Int} {W' H' : Int} {ys : List Int} (h : ¬ (matOk W H xs = true ∧ picOk W' H' ys 255 = true)) : screenF W H xs W' H' ys = noPic := by unfold screenF; rw [if_neg h]

theorem screenF_yes {W H : Int} {xs : List Int} {n m : Nat} {W' H' : Int} {ys : List Int} (hn : xs.length = n) (hm : ys.length = m) (h : matOk W H xs = true) (h2 : picOk W' H' ys 255 = true) :
    screenF W H xs W' H' ys = ⟨W', H', gen m (dotG W H xs (ys.map (levelG n)) W')⟩ := by unfold screenF; rw [if_pos ⟨h, h2⟩, hn, hm]

theorem errF_no {W H : Int} {xs : List Int} {W' H' : Int} {ys : List Int} (h : ¬ (pairOk W H xs W' H' ys = true ∧ picOk W' H' ys 1 = true)) : errF W H xs W' H' ys = -1 := by unfold errF; rw [if_neg h]

theorem errF_yes {W H : Int} {xs : List Int} {W' H' : Int} {ys : List Int} {n : Nat} (hn : ys.length = n) (h : pairOk W H xs W' H' ys = true) (h2 : picOk W' H' ys 1 = true) : errF W H xs W' H' ys = errS xs ys n := by unfold errF; rw [if_pos ⟨h, h2⟩, hn]

theorem sq_bd {d : Int} (h0 : -255 ≤ d) (h1 : d ≤ 255) : 0 ≤ d * d ∧ d * d ≤ 65025 := by
  by_cases h : 0 ≤ d
  · refine ⟨Int.mul_nonneg h h, ?_⟩
    have := Int.mul_le_mul h1 h1 h (by omega); omega
  · have e : d * d = (-d) * (-d) := by rw [Int.neg_mul_neg]
    rw [e]
    refine ⟨Int.mul_nonneg (by omega) (by omega), ?_⟩
    have := Int.mul_le_mul (show -d ≤ 255 by omega) (show -d ≤ 255 by omega) (by omega) (by omega); omega

theorem errD_bd {xs ys : List Int} (hx : within xs 255 = true) (hy : within ys 1 = true) {k : Nat} (h1 : k < xs.length) (h2 : k < ys.length) : -255 ≤ errD xs ys k ∧ errD xs ys k ≤ 255 := by
  have := within_at hx k h1
  have := within_at hy k h2
  unfold errD
  omega

theorem errS_bd {xs ys : List Int} (hx : within xs 255 = true) (hy : within ys 1 = true) (hn : ys.length ≤ xs.length) (k : Nat) (hk : k ≤ ys.length) : 0 ≤ errS xs ys k ∧ errS xs ys k ≤ 65025 * k := by
  induction k with
  | zero => simp [errS]
  | succ k ih =>
    have h := ih (by omega)
    obtain ⟨d0, d1⟩ := errD_bd hx hy (k := k) (by omega) (by omega)
    have := sq_bd d0 d1
    simp only [errS]
    omega

end Go.Proofs.Ytgepjfdnlnemjaa
