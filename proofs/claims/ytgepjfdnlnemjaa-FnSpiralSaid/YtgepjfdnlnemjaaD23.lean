/-
  Contracts of the program's steps on cells.
-/
import Derived.Test.YtgepjfdnlnemjaaD7b
import Derived.Test.YtgepjfdnlnemjaaM5
import Derived.Test.YtgepjfdnlnemjaaVM
namespace Go.Proofs.Ytgepjfdnlnemjaa
open Go.RowKit
set_option linter.unusedVariables false
set_option linter.unusedSimpArgs false

set_option maxHeartbeats 400000 in
theorem impl_plus (a b c d : Int) (w : World) (h1 : IntKind.i64.wrap (a + c) = a + c) (h2 : IntKind.i64.wrap (b + d) = b + d) :
    Calls Try.prog 71 #[.agg #[.int .i64 a, .int .i64 b], .agg #[.int .i64 c, .int .i64 d]] w fun e w' => e = .returned (.agg #[.int .i64 (a + c), .int .i64 (b + d)]) ∧ Below w.heap.size w w' := by
  go_enter Try.func71, Try.ntmps71
  go_wp2
  refine bodyPost_ret (v := .agg #[.int .i64 (a + c), .int .i64 (b + d)]) (by simp [results, Try.results71, go_sem]) rfl ⟨rfl, (Joins.below_alloc2 _ _ _).trans ((Joins.below_alloc1 _ _).mono (by simp; omega))⟩

set_option maxHeartbeats 400000 in
theorem impl_turned (a b : Int) (w : World) (h1 : IntKind.i64.wrap (-b) = -b) :
    Calls Try.prog 73 #[.agg #[.int .i64 a, .int .i64 b]] w fun e w' => e = .returned (.agg #[.int .i64 (-b), .int .i64 a]) ∧ Below w.heap.size w w' := by
  go_enter Try.func73, Try.ntmps73
  go_wp2
  refine bodyPost_ret (v := .agg #[.int .i64 (-b), .int .i64 a]) (by simp [results, Try.results73, go_sem]) rfl ⟨rfl, Joins.below_alloc2 _ _ _⟩

theorem cell_idx {s : Nat} {x y u v : Int} (x0 : 0 ≤ x) (x1 : x < (s : Int)) (u0 : 0 ≤ u) (u1 : u < (s : Int)) (h : v * (s : Int) + u = y * (s : Int) + x) : u = x ∧ v = y := by
  have hs : (0 : Int) ≤ (s : Int) := by omega
  have hvy : v = y := by
    rcases Int.lt_trichotomy v y with h1 | h1 | h1
    · have := Int.mul_le_mul_of_nonneg_right (show v + 1 ≤ y by omega) hs
      rw [Int.add_mul, Int.one_mul] at this
      omega
    · exact h1
    · have := Int.mul_le_mul_of_nonneg_right (show y + 1 ≤ v by omega) hs
      rw [Int.add_mul, Int.one_mul] at this
      omega
  subst hvy
  exact ⟨by omega, rfl⟩

theorem putS_ok {s k : Nat} {r : List Int} {S : Int → Int → Bool} {x y : Int} (hl : r.length = s * s) (x0 : 0 ≤ x) (x1 : x < (s : Int)) (y0 : 0 ≤ y) (y1 : y < (s : Int))
    (h : ∀ u v, 0 ≤ u ∧ u ≤ (s : Int) - 1 → 0 ≤ v ∧ v ≤ (s : Int) - 1 → S u v = decide (0 ≤ r.getD (v * s + u).toNat 0)) :
    ∀ u v, 0 ≤ u ∧ u ≤ (s : Int) - 1 → 0 ≤ v ∧ v ≤ (s : Int) - 1 → putS S x y u v = decide (0 ≤ (r.set (y * s + x).toNat (k : Int)).getD (v * s + u).toNat 0) := by
  intro u v hu hv
  obtain ⟨i0, i1⟩ := row_bd x0 x1 y0 y1
  obtain ⟨j0, j1⟩ := row_bd (x := u) (y := v) (W := (s : Int)) (H := (s : Int)) hu.1 (by omega) hv.1 (by omega)
  have hlt : (y * (s : Int) + x).toNat < r.length := by
    rw [hl]
    have e : ((s * s : Nat) : Int) = (s : Int) * (s : Int) := by simp
    omega
  rw [getD_set _ _ _ _ hlt]
  unfold putS
  by_cases e : u = x ∧ v = y
  · obtain ⟨rfl, rfl⟩ := e
    rw [if_pos rfl]
    simp
  · have hne : (y * (s : Int) + x).toNat ≠ (v * (s : Int) + u).toNat := fun hh => e (cell_idx x0 x1 hu.1 (by omega) (by omega))
    rw [if_neg hne, h u v hu hv]
    have : (decide (u = x) && decide (v = y)) = false := by
      simp only [Bool.and_eq_false_iff, decide_eq_false_iff_not]
      by_cases e1 : u = x
      · exact Or.inr (fun e2 => e ⟨e1, e2⟩)
      · exact Or.inl e1
    rw [this]
    simp

theorem spTurn_b {s : Nat} {r : List Int} {u v : Int} {b : Bool} (h : 0 ≤ u ∧ u ≤ (s : Int) - 1 → 0 ≤ v ∧ v ≤ (s : Int) - 1 → b = decide (0 ≤ r.getD (v * s + u).toNat 0)) (hb : b = true) : spTurn s r u v = true := by
  by_cases hu : 0 ≤ u ∧ u ≤ (s : Int) - 1
  · by_cases hv : 0 ≤ v ∧ v ≤ (s : Int) - 1
    · unfold spTurn
      rw [← h hu hv, hb]
      simp
    · exact spTurn_v hv
  · exact spTurn_u hu

theorem spTurn_on {s : Nat} {r : List Int} {u v : Int} {b : Bool} (h : 0 ≤ u ∧ u ≤ (s : Int) - 1 → 0 ≤ v ∧ v ≤ (s : Int) - 1 → b = decide (0 ≤ r.getD (v * s + u).toNat 0)) (hb : b = false) (hu : 0 ≤ u ∧ u ≤ (s : Int) - 1) (hv : 0 ≤ v ∧ v ≤ (s : Int) - 1) : spTurn s r u v = false := by
  unfold spTurn
  rw [← h hu hv, hb, decide_eq_true hu, decide_eq_true hv]
  rfl

/-- The row as the program has it while it goes: 0 where the way has not been yet. -/
def cl (r : List Int) : List Int := r.map (fun v => if v < 0 then 0 else v)

theorem cl_start (n : Nat) : cl (List.replicate n (-1)) = List.replicate n 0 := by unfold cl; rw [List.map_replicate]; rfl

theorem cl_set (r : List Int) (i k : Nat) : cl (r.set i (k : Int)) = (cl r).set i (k : Int) := by
  unfold cl
  rw [List.map_set, if_neg (by omega)]

theorem cl_end {r : List Int} (h : ∀ v ∈ r, 0 ≤ v) : cl r = r := by
  unfold cl
  conv => rhs; rw [← List.map_id r]
  exact List.map_congr_left (fun v hv => by have := h v hv; rw [if_neg (by omega)]; rfl)

theorem sp_start {s : Nat} {u v : Int} (hu : 0 ≤ u ∧ u ≤ (s : Int) - 1) (hv : 0 ≤ v ∧ v ≤ (s : Int) - 1) : false = decide (0 ≤ (spState s 0).r.getD (v * s + u).toNat 0) := by
  obtain ⟨j0, j1⟩ := row_bd (x := u) (y := v) (W := (s : Int)) (H := (s : Int)) hu.1 (by omega) hv.1 (by omega)
  have e : ((s * s : Nat) : Int) = (s : Int) * (s : Int) := by simp
  have hlt : (v * (s : Int) + u).toNat < s * s := by omega
  have h : (spState s 0).r.getD (v * s + u).toNat 0 = -1 := by
    simp only [spState, spInit, List.getD]
    rw [List.getElem?_replicate, if_pos hlt]
    rfl
  rw [h]
  rfl

theorem mat_pos {W H : Int} {xs : List Int} (h : matOk W H xs = true) : ∀ v ∈ xs, 0 ≤ v := by
  obtain ⟨_, _, h3, _⟩ := matOk_bd rfl h
  unfold inR at h3
  rw [List.all_eq_true] at h3
  intro v hv
  have := h3 v hv
  simp at this
  omega

end Go.Proofs.Ytgepjfdnlnemjaa
