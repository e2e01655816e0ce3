/-
  Contracts of chapter 5: the greatest common divisor, MeanOf of the program and of the model.
-/
import Derived.Test.YtipcahcljfheaaaC2
import Derived.Test.YtipcahcljfheaaaC4
import Derived.Deep.RegionHeld3
import Derived.Deep.QuietTactic
namespace Go.Proofs.Ytipcahcljfheaaa
open Go.RowKit
set_option linter.unusedVariables false
set_option linter.unusedSimpArgs false

def meanF (W H : Int) (xs : List Int) : Int × Int := if picOk W H xs 255 = true then (isum xs / (Nat.gcd (isum xs).toNat xs.length : Nat), (xs.length : Int) / (Nat.gcd (isum xs).toNat xs.length : Nat)) else (0, 0)

theorem meanF_no {W H : Int} {xs : List Int} (h : ¬ picOk W H xs 255 = true) : meanF W H xs = (0, 0) := by unfold meanF; rw [if_neg h]

theorem meanF_yes {W H : Int} {xs : List Int} {n S G : Nat} (hn : xs.length = n) (h : picOk W H xs 255 = true) (hS : isum xs = (S : Int)) (hG : Nat.gcd S n = G) : meanF W H xs = ((S : Int) / (G : Int), (n : Int) / (G : Int)) := by
  unfold meanF; rw [if_pos h, hn, hS]; simp [hG]

theorem gcd_go {a b : Nat} (hb : b ≠ 0) : Nat.gcd b (a % b) = Nat.gcd a b := by rw [Nat.gcd_comm b, ← Nat.gcd_rec, Nat.gcd_comm]

theorem cast_mod (a b : Nat) : ((a % b : Nat) : Int) = (a : Int) % (b : Int) := by simp

theorem sum_nat {xs : List Int} {n : Nat} (hn : xs.length = n) (h : within xs 255 = true) (hn2 : n ≤ 1024) : ∃ S : Nat, isum xs = (S : Int) ∧ S ≤ 261120 := by
  have := isum_take_bd h n
  rw [List.take_of_length_le (by omega)] at this
  exact ⟨(isum xs).toNat, by omega, by omega⟩

theorem gcd_facts {S n G : Nat} (hn : 1 ≤ n) (hG : Nat.gcd S n = G) (hn2 : n ≤ 1024) : 1 ≤ G ∧ G ≤ 1024 := by
  have h1 := Nat.gcd_pos_of_pos_right S (show 0 < n by omega)
  have h2 := Nat.gcd_le_right S (show 0 < n by omega)
  omega

theorem sumF_yes {W H : Int} {xs : List Int} (h : picOk W H xs 255 = true) : sumF W H xs = isum xs := by unfold sumF; rw [if_pos h]

theorem quo_facts {S G : Nat} (hG : 1 ≤ G) (hS : S ≤ 261120) : ∃ A : Nat, (S : Int) / (G : Int) = A ∧ (S : Int).tdiv (G : Int) = A ∧ IntKind.i64.wrap (A : Int) = A ∧ A ≤ 261120 := by
  have h := Nat.div_le_self S G
  have e : (S : Int) / (G : Int) = ((S / G : Nat) : Int) := by simp
  obtain ⟨A, hA⟩ : ∃ A, S / G = A := ⟨_, rfl⟩
  rw [hA] at h e
  exact ⟨A, e, by rw [Int.tdiv_eq_ediv_of_nonneg (by omega), e], IntWalk.i64_in _ (by omega), by omega⟩

theorem below_drewN {B : Nat} {w w' : World} (h : Below B w w') (n : Nat) : Below B w (w'.drewN n) := ⟨h.os, h.tape, h.output, h.size, h.block⟩

end Go.Proofs.Ytipcahcljfheaaa
