/-
  Contracts of chapter 3 at Bayer's matrices, as the laws call them.
-/
import Derived.Test.YtepaklcobkdfdaaM9
import Derived.Test.YtepaklcobkdfdaaR9
namespace Go.Proofs.Ytepaklcobkdfdaa
open Go.RowKit
set_option linter.unusedVariables false
set_option linter.unusedSimpArgs false

theorem bayer_call (k : Nat) (w : World) (h : k ≤ 4) :
    Calls Try.prog 34 #[.int .i64 (k : Int)] w fun e w' =>
      ∃ W a n c xs, e = .returned (.tuple #[.agg #[.int .i64 W, .int .i64 W, .slice a n c], .bool true]) ∧ IsB k W n xs ∧ OwnA w' w.heap.size a n c xs ∧ Below w.heap.size w w' := by
  refine (impl_BayerMatrix (k : Int) w).mono ?_
  rintro e w' ⟨a', n', c', he, ho, hn', hb⟩
  rw [bayerF_yes h] at he ho
  have hB := isB k h
  have eH : (bayerM k).H = (bayerM k).W := by rw [hB.m]
  have hm2 : n' = (bayerM k).ranks.length := ho.len.symm
  subst hm2
  dsimp only at he
  rw [eH] at he
  exact ⟨_, a', _, c', _, he, hB, ho, hb⟩

theorem bayer_next (k : Nat) (W : Int) (n m : Nat) (xs : List Int) (w : World) (h : IsB k W n xs) (hk : k < 4) (hm : m = 4 * n) (i : Int) (hi : i = (k : Int) + 1) :
    Calls Try.prog 34 #[.int .i64 i] w fun e w' =>
      ∃ a c, e = .returned (.tuple #[.agg #[.int .i64 (2 * W), .int .i64 (2 * W), .slice a m c], .bool true]) ∧ OwnA w' w.heap.size a m c (gen m (dblG W W xs)) ∧ Below w.heap.size w w' := by
  subst hi
  refine (impl_BayerMatrix ((k : Int) + 1) w).mono ?_
  rintro e w' ⟨a', n', c', he, ho, hn', hb⟩
  rw [show (k : Int) + 1 = ((k + 1 : Nat) : Int) by omega, bayerF_yes (by omega), h.next] at he ho
  subst hm
  dsimp only at he ho
  have hm2 : n' = 4 * n := by have := ho.len; rw [gen_len] at this; exact this.symm
  subst hm2
  exact ⟨a', c', he, ho, hb⟩

theorem bayer_end (w : World) (i : Int) (hi : ¬ i ≤ 4) :
    Calls Try.prog 34 #[.int .i64 i] w fun e w' =>
      ∃ a n c, e = .returned (.tuple #[.agg #[.int .i64 0, .int .i64 0, .slice a n c], .bool false]) ∧ OwnA w' w.heap.size a n c [] ∧ Below w.heap.size w w' := by
  refine (impl_BayerMatrix i w).mono ?_
  rintro e w' ⟨a', n', c', he, ho, hn', hb⟩
  rw [bayerF_no (fun h => hi h.2)] at he ho
  exact ⟨a', n', c', he, ho, hb⟩

theorem power_call (k : Nat) (W : Int) (n : Nat) (xs : List Int) (w : World) (h : IsB k W n xs) :
    Calls Try.prog 35 #[.int .i64 (k : Int)] w fun e w' => e = .returned (.int .i64 W) ∧ w = w' := by
  have hw := h.w
  subst hw
  exact laws_power k w (by have := h.k4; omega)

end Go.Proofs.Ytepaklcobkdfdaa
