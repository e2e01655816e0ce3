/-
  Contracts of chapter 3: BayerRank (program and model).
-/
import Derived.Test.YtflegojobchgdaaD7
namespace Go.Proofs.Ytflegojobchgdaa
open Go.RowKit
set_option linter.unusedVariables false
set_option linter.unusedSimpArgs false

theorem i64_and1 (n : Int) : bits .and .i64 n 1 = n % 2 := by
  have h1 : (BitVec.ofInt 64 1).toNat = 2 ^ 1 - 1 := by decide
  have key : (BitVec.ofInt 64 n &&& BitVec.ofInt 64 1).toNat = (n % ((2 ^ 64 : Nat) : Int)).toNat % 2 ^ 1 := by
    rw [BitVec.toNat_and, BitVec.toNat_ofInt, h1, Nat.and_two_pow_sub_one_eq_mod]
  show IntKind.i64.wrap ((BitVec.ofInt 64 n &&& BitVec.ofInt 64 1).toNat : Nat) = n % 2
  rw [key, IntKind.wrap_i64]
  omega

def bitA (j : Nat) (x : Int) : Int := x / 2 ^ j % 2

theorem bitA_bd (j : Nat) (x : Int) : 0 ≤ bitA j x ∧ bitA j x ≤ 1 := by unfold bitA; omega

def bayerR (x y : Int) : Nat → Int
  | 0 => 0
  | j + 1 => 4 * bayerR x y j + quarter (bitA j x) (bitA j y)

theorem bayerR_bd (x y : Int) (j : Nat) : 0 ≤ bayerR x y j ∧ bayerR x y j < 4 ^ j := by
  induction j with
  | zero => exact ⟨by simp [bayerR], by simp [bayerR]⟩
  | succ j ih =>
    have := quarter_bd (bitA j x) (bitA j y)
    rw [Int.pow_succ]
    simp only [bayerR]
    omega

theorem bayerR_le (x y : Int) (j : Nat) (h : j ≤ 4) : 0 ≤ bayerR x y j ∧ bayerR x y j ≤ 255 := by
  obtain ⟨h1, h2⟩ := bayerR_bd x y j
  match j, h with
  | 0, _ => simp at h2; omega
  | 1, _ => simp at h2; omega
  | 2, _ => simp at h2; omega
  | 3, _ => simp at h2; omega
  | 4, _ => simp at h2; omega

def bayerRankF (k x y : Int) : Int := if 0 ≤ k ∧ k ≤ 4 then bayerR x y k.toNat else -1

theorem bayerRankF_no {k x y : Int} (h : ¬ (0 ≤ k ∧ k ≤ 4)) : bayerRankF k x y = -1 := by unfold bayerRankF; rw [if_neg h]

theorem bayerRankF_yes {k : Nat} {x y : Int} (h : k ≤ 4) : bayerRankF (k : Int) x y = bayerR x y k := by unfold bayerRankF; rw [if_pos ⟨by omega, by omega⟩]; rfl

theorem qraw_bits (a b : Int) : qraw (bits .and .i64 a 1) (bits .and .i64 b 1) = quarter (a % 2) (b % 2) := by
  rw [i64_and1, i64_and1, qraw_quarter (by omega) (by omega) (by omega) (by omega)]

theorem bitA_mod {j k : Nat} (x : Int) (hk : k ≤ 4) (h : j < k) : bitA j (x % 2 ^ k) = bitA j x := by
  unfold bitA
  match k, j, hk, h with
  | 1, 0, _, _ => simp <;> omega
  | 2, 0, _, _ => simp <;> omega
  | 2, 1, _, _ => simp <;> omega
  | 3, 0, _, _ => simp <;> omega
  | 3, 1, _, _ => simp <;> omega
  | 3, 2, _, _ => simp <;> omega
  | 4, 0, _, _ => simp <;> omega
  | 4, 1, _, _ => simp <;> omega
  | 4, 2, _, _ => simp <;> omega
  | 4, 3, _, _ => simp <;> omega

theorem spec_raw {R A B : Int} (r0 : 0 ≤ R) (r1 : R ≤ 255) (a0 : 0 ≤ A) (a1 : A ≤ 1) (b0 : 0 ≤ B) (b1 : B ≤ 1) : wrap64 (wrap64 (4 * R + wrap64 (2 * bits BinOp.xor IntKind.i64 A B)) + B) = 4 * R + quarter A B := by
  have key : ∀ q : Int, 0 ≤ q → q ≤ 2 → bits BinOp.xor IntKind.i64 A B * 2 = q → q + B = quarter A B → wrap64 (wrap64 (4 * R + wrap64 (2 * bits BinOp.xor IntKind.i64 A B)) + B) = 4 * R + quarter A B := by
    intro q q0 q1 e1 e2
    rw [show 2 * bits BinOp.xor IntKind.i64 A B = q by omega, IntWalk.wrap64_in q (by omega), IntWalk.wrap64_in (4 * R + q) (by omega), IntWalk.wrap64_in _ (by omega)]
    omega
  by_cases ha : A = 0
  · subst ha
    by_cases hb : B = 0
    · subst hb; exact key 0 (by omega) (by omega) (by decide) (by decide)
    · obtain rfl : B = 1 := by omega
      exact key 2 (by omega) (by omega) (by decide) (by decide)
  · obtain rfl : A = 1 := by omega
    by_cases hb : B = 0
    · subst hb; exact key 2 (by omega) (by omega) (by decide) (by decide)
    · obtain rfl : B = 1 := by omega
      exact key 0 (by omega) (by omega) (by decide) (by decide)

theorem pow2_le {k : Nat} (h : k ≤ 4) : (1 : Int) ≤ 2 ^ k ∧ (2 : Int) ^ k ≤ 16 := by
  match k, h with
  | 0, _ => simp
  | 1, _ => simp
  | 2, _ => simp
  | 3, _ => simp
  | 4, _ => simp

end Go.Proofs.Ytflegojobchgdaa
