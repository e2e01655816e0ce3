/-
  Contracts of the model's draws: a matrix.
-/
import Derived.Test.YtepaklcobkdfdaaR5
import Derived.Test.YtepaklcobkdfdaaR2
namespace Go.Proofs.Ytepaklcobkdfdaa
open Go.RowKit
set_option linter.unusedVariables false
set_option linter.unusedSimpArgs false

theorem icount_set (xs : List Int) (i : Nat) (a v : Int) (h : i < xs.length) : icount v (xs.set i a) + (if xs.getD i 0 = v then 1 else 0) = icount v xs + (if a = v then 1 else 0) := by
  induction xs generalizing i with
  | nil => simp at h
  | cons x xs ih =>
    match i with
    | 0 =>
      simp only [List.set_cons_zero, icount_cons, List.getD_cons_zero]
      omega
    | i + 1 =>
      simp only [List.set_cons_succ, icount_cons, List.getD_cons_succ]
      have := ih i (by simpa using h)
      omega

theorem icount_swap (xs : List Int) (i k : Nat) (v : Int) (hi : i < xs.length) (hk : k < xs.length) : icount v ((xs.set i (xs.getD k 0)).set k (xs.getD i 0)) = icount v xs := by
  have h1 := icount_set xs i (xs.getD k 0) v hi
  have h2 := icount_set (xs.set i (xs.getD k 0)) k (xs.getD i 0) v (by simpa using hk)
  rw [getD_set _ _ _ _ hi] at h2
  by_cases e : i = k
  · subst e; simp only [if_true] at h2; omega
  · rw [if_neg e] at h2; omega

theorem swap_nodup {xs : List Int} {i k : Nat} (hi : i < xs.length) (hk : k < xs.length) (h : xs.Nodup) : ((xs.set i (xs.getD k 0)).set k (xs.getD i 0)).Nodup :=
  nodup_of_icount (fun v => by rw [icount_swap xs i k v hi hk]; exact icount_nodup h v)

theorem inR_set {xs : List Int} {n : Nat} (h : inR xs n = true) (k : Nat) (v : Int) (h0 : 0 ≤ v) (h1 : v < (n : Int)) : inR (xs.set k v) n = true := by
  unfold inR at h ⊢
  rw [List.all_eq_true] at h ⊢
  intro x hx
  rcases List.mem_or_eq_of_mem_set hx with h2 | h2
  · exact h x h2
  · subst h2; simp [h0, h1]

theorem row_inR (n : Nat) : inR (gen n (fun i => (i : Int))) n = true := inR_gen (fun i hi => ⟨by omega, by omega⟩)

theorem row_nodup (n : Nat) : (gen n (fun i => (i : Int))).Nodup := by
  unfold gen List.Nodup
  rw [List.pairwise_map]
  exact List.nodup_range.imp (fun h => by omega)

/-- A new matrix is handed back by a function that moves the cursor c. -/
def DrawMat (w : World) (c : Nat) (ac : Option Addr) (nc capc : Nat) (bs : List Int) (e : Ending) (w' : World) : Prop :=
  ∃ (W H : Int) (a : Option Addr) (n cp : Nat) (xs : List Int), e = .returned (.agg #[.int .i64 W, .int .i64 H, .slice a n cp]) ∧ matOk W H xs = true ∧ W ≤ 16 ∧ H ≤ 16 ∧ OwnA w' w.heap.size a n cp xs ∧ Cur w' c ac nc capc bs ∧ w.grownBy w' (some c)

theorem small_size {v1 v2 : Int} (a0 : 0 ≤ v1) (a1 : v1 < 5) (b0 : 0 ≤ v2) (b1 : v2 < 5) : matSize (1 + v1) (1 + v2) = true := by
  have e : (1 + v1) * (1 + v2) ≤ 5 * 5 := Int.mul_le_mul (by omega) (by omega) (by omega) (by omega)
  exact matSize_mk (by omega) (by omega) (by omega)

/-- Some matrix and true are handed back, in new memory. -/
def SomeMat (w : World) (e : Ending) (w' : World) : Prop :=
  ∃ (W H : Int) (a : Option Addr) (n cp : Nat) (xs : List Int), e = .returned (.tuple #[.agg #[.int .i64 W, .int .i64 H, .slice a n cp], .bool true]) ∧ matOk W H xs = true ∧ W ≤ 16 ∧ H ≤ 16 ∧ OwnA w' w.heap.size a n cp xs ∧ Below w.heap.size w w'

theorem pow2_16 {j : Nat} (h : j ≤ 4) : (2 : Int) ^ j ≤ 16 := by
  match j, h with
  | 0, _ => decide
  | 1, _ => decide
  | 2, _ => decide
  | 3, _ => decide
  | 4, _ => decide

/-- Some matrix is handed back. -/
def MatMade (w : World) (e : Ending) (w' : World) : Prop :=
  ∃ (W H : Int) (a : Option Addr) (n cp : Nat) (xs : List Int), e = .returned (.agg #[.int .i64 W, .int .i64 H, .slice a n cp]) ∧ matOk W H xs = true ∧ W ≤ 16 ∧ H ≤ 16 ∧ OwnA w' w.heap.size a n cp xs ∧ Below w.heap.size w w'

end Go.Proofs.Ytepaklcobkdfdaa
