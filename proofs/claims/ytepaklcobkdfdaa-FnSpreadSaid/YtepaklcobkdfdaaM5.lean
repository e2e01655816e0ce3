/-
  The spiral, as a plain walk on lists; checked by reckoning for the sides 1 to 16. Nothing of the program.
-/
import Derived.Test.YtepaklcobkdfdaaM3
namespace Go.Proofs.Ytepaklcobkdfdaa
set_option linter.unusedVariables false
set_option linter.unusedSimpArgs false

structure Sp where
  r : List Int
  x : Int
  y : Int
  dx : Int
  dy : Int

def spInit (s : Nat) : Sp := ⟨List.replicate (s * s) (-1), 0, 0, 1, 0⟩
/-- Must the way turn here? The rank at the place is set already. -/
def spTurn (s : Nat) (r : List Int) (u v : Int) : Bool := !(decide (0 ≤ u ∧ u ≤ (s : Int) - 1)) || (!(decide (0 ≤ v ∧ v ≤ (s : Int) - 1)) || decide (0 ≤ r.getD (v * s + u).toNat 0))
def spStep (s : Nat) (n : Nat) (t : Sp) : Sp :=
  match spTurn s (t.r.set (t.y * s + t.x).toNat (n : Int)) (t.x + t.dx) (t.y + t.dy) with
  | true => ⟨t.r.set (t.y * s + t.x).toNat (n : Int), t.x - t.dy, t.y + t.dx, -t.dy, t.dx⟩
  | false => ⟨t.r.set (t.y * s + t.x).toNat (n : Int), t.x + t.dx, t.y + t.dy, t.dx, t.dy⟩
def spState (s : Nat) : Nat → Sp
  | 0 => spInit s
  | k + 1 => spStep s k (spState s k)
def spOk (s : Nat) (t : Sp) : Bool := decide (0 ≤ t.x ∧ t.x < (s : Int) ∧ 0 ≤ t.y ∧ t.y < (s : Int) ∧ -1 ≤ t.dx ∧ t.dx ≤ 1 ∧ -1 ≤ t.dy ∧ t.dy ≤ 1 ∧ t.dy * (s : Int) + t.dx ≠ 0)
def spCheck (s : Nat) : Nat → Nat → Sp → Bool
  | 0, _, t => matOk s s t.r
  | f + 1, k, t => spOk s t && spCheck s f (k + 1) (spStep s k t)
def spAll : Bool := [1, 2, 3, 4, 5, 6, 7, 8, 9, 10, 11, 12, 13, 14, 15, 16].all (fun s => spCheck s (s * s) 0 (spInit s))

theorem spAll_ok : spAll = true := by decide +kernel

theorem spCheck_at (s : Nat) : ∀ (f k : Nat), spCheck s f k (spState s k) = true → (∀ j, j < f → spOk s (spState s (k + j)) = true) ∧ matOk s s (spState s (k + f)).r = true := by
  intro f
  induction f with
  | zero => intro k h; exact ⟨fun j hj => absurd hj (by omega), h⟩
  | succ f ih =>
    intro k h
    unfold spCheck at h
    rw [Bool.and_eq_true] at h
    have e : spStep s k (spState s k) = spState s (k + 1) := rfl
    rw [e] at h
    obtain ⟨h1, h2⟩ := ih (k + 1) h.2
    refine ⟨fun j hj => ?_, ?_⟩
    · match j with
      | 0 => exact h.1
      | j + 1 => have := h1 j (by omega); rwa [Nat.add_right_comm] at this
    · rwa [Nat.add_right_comm] at h2

theorem sp_facts (s : Nat) (h1 : 1 ≤ s) (h2 : s ≤ 16) : (∀ j, j < s * s → spOk s (spState s j) = true) ∧ matOk s s (spState s (s * s)).r = true := by
  have h := spAll_ok
  unfold spAll at h
  rw [List.all_eq_true] at h
  have h3 := h s (by simp; omega)
  have h4 := spCheck_at s (s * s) 0 h3
  simpa using h4

theorem sp_len (s k : Nat) : (spState s k).r.length = s * s := by
  induction k with
  | zero => simp [spState, spInit]
  | succ k ih =>
    simp only [spState, spStep]
    split <;> simp [ih]

def spiralF (side : Int) : Mat × Bool := if 1 ≤ side ∧ side ≤ 16 then (⟨side, side, (spState side.toNat (side.toNat * side.toNat)).r⟩, true) else (noMat, false)

theorem spiralF_no {s : Int} (h : ¬ (1 ≤ s ∧ s ≤ 16)) : spiralF s = (noMat, false) := by unfold spiralF; rw [if_neg h]

theorem spiralF_yes {s : Nat} (h1 : 1 ≤ s) (h2 : s ≤ 16) : spiralF (s : Int) = (⟨s, s, (spState s (s * s)).r⟩, true) := by unfold spiralF; rw [if_pos ⟨by omega, by omega⟩]; rfl

theorem spOk_bd {s : Nat} {t : Sp} (h : spOk s t = true) : 0 ≤ t.x ∧ t.x < (s : Int) ∧ 0 ≤ t.y ∧ t.y < (s : Int) ∧ -1 ≤ t.dx ∧ t.dx ≤ 1 ∧ -1 ≤ t.dy ∧ t.dy ≤ 1 ∧ t.dy * (s : Int) + t.dx ≠ 0 := by
  unfold spOk at h
  exact of_decide_eq_true h

theorem spStep_turn {s k : Nat} {t : Sp} (h : spTurn s (t.r.set (t.y * s + t.x).toNat (k : Int)) (t.x + t.dx) (t.y + t.dy) = true) : spStep s k t = ⟨t.r.set (t.y * s + t.x).toNat (k : Int), t.x - t.dy, t.y + t.dx, -t.dy, t.dx⟩ := by
  unfold spStep; rw [h]

theorem spStep_on {s k : Nat} {t : Sp} (h : spTurn s (t.r.set (t.y * s + t.x).toNat (k : Int)) (t.x + t.dx) (t.y + t.dy) = false) : spStep s k t = ⟨t.r.set (t.y * s + t.x).toNat (k : Int), t.x + t.dx, t.y + t.dy, t.dx, t.dy⟩ := by
  unfold spStep; rw [h]

theorem spTurn_u {s : Nat} {r : List Int} {u v : Int} (h : ¬ (0 ≤ u ∧ u ≤ (s : Int) - 1)) : spTurn s r u v = true := by
  unfold spTurn; rw [decide_eq_false h]; rfl

theorem spTurn_v {s : Nat} {r : List Int} {u v : Int} (h : ¬ (0 ≤ v ∧ v ≤ (s : Int) - 1)) : spTurn s r u v = true := by
  unfold spTurn; rw [decide_eq_false h]; simp

theorem spTurn_r {s : Nat} {r : List Int} {u v x : Int} (h1 : 0 ≤ u ∧ u ≤ (s : Int) - 1) (h2 : 0 ≤ v ∧ v ≤ (s : Int) - 1) (h : r.getD (v * s + u).toNat 0 = x) : spTurn s r u v = decide (0 ≤ x) := by
  unfold spTurn; rw [decide_eq_true h1, decide_eq_true h2, h]; simp

end Go.Proofs.Ytepaklcobkdfdaa
