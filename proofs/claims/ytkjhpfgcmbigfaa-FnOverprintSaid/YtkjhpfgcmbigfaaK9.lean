/-
  Contracts of chapter 5: the greatest common divisor, MeanOf of the program and of the model.
-/
import Derived.Test.YtkjhpfgcmbigfaaC2
import Derived.Test.YtkjhpfgcmbigfaaC4
import Derived.Deep.RegionHeld3
import Derived.Deep.QuietTactic
namespace Go.Proofs.Ytkjhpfgcmbigfaa
open Go.RowKit
set_option linter.unusedVariables false
set_option linter.unusedSimpArgs false

def meanF (W H : Int) (xs : List Int) : Int × Int := if picOk W H xs 255 = true then (isum xs / (Nat.gcd (isum xs).toNat xs.length : Nat), (xs.length : Int) / (Nat.gcd (isum xs).toNat xs.length : Nat)) else (0, 0)

theorem meanF_no {W H : Int} {xs : List Int} (h : ¬ picOk W H xs 255 = true) : meanF W H xs = (0, 0) := by unfold meanF; rw [if_neg h]

theorem meanF_yes {W H : Int} {xs : List Int} {n S G : Nat} (hn : xs.length = n) (h : picOk W H xs 255 = true) (hS : isum xs = (S : Int)) (hG : Nat.gcd S n = G) : meanF W H xs = ((S : Int) / (G : Int), (n : Int) / (G : Int)) := by
  unfold meanF; rw [if_pos h, hn, hS]; simp [hG]

theorem gcd_go {a b : Nat} (hb : b ≠ 0) : Nat.gcd b (a % b) = Nat.gcd a b := by rw [Nat.gcd_comm b, ← Nat.gcd_rec, Nat.gcd_comm]

theorem cast_mod (a b : Nat) : ((a % b : Nat) : Int) = (a : Int) % (b : Int) := by simp

set_option maxHeartbeats 800000 in
theorem impl_greatestDivisor (a b : Nat) (w : World) (ha : a ≤ 1000000) (hb : b ≤ 1000000) :
    Calls Try.prog 50 #[.int .i64 a, .int .i64 b] w fun e w' => e = .returned (.int .i64 (Nat.gcd a b : Nat)) ∧ ∃ q, w' = w.drewN q := by
  go_enter Try.func50, Try.ntmps50
  go_wp2_with fail
  go_loopw [0, 1] (fun x y wr => ∃ a' b' : Nat, a' ≤ 1000000 ∧ b' ≤ 1000000 ∧ x = .int .i64 a' ∧ y = .int .i64 b' ∧ Hid (Nat.gcd a' b' = Nat.gcd a b) ∧ ∃ q, wr = w.drewN q) (fun _ y _ => (intOf y).toNat)
  case atStart => exact ⟨a, b, ha, hb, rfl, rfl, Lib.hid rfl, 0, rfl⟩
  case round =>
    obtain ⟨a', b', ha', hb', rfl, rfl, HG, q, rfl⟩ := hrel
    by_cases h0 : b' = 0
    · subst h0
      go_wp2_with fail
      go_ret
      exact ⟨ret_int (by have := HG.out; rw [Nat.gcd_zero_right] at this; rw [this]), q, rfl⟩
    · have h1 : ((b' : Int) != 0) = true := by simpa using h0
      have h2 : ((b' : Int) == 0) = false := by simpa using h0
      have h3 : ¬ (b' : Int) = 0 := by omega
      have HR := Lib.hid (gcd_go (a := a') h0)
      have m1 := Nat.mod_lt a' (show 0 < b' by omega)
      obtain ⟨M, hM⟩ : ∃ M : Nat, a' % b' = M := ⟨_, rfl⟩
      rw [hM] at m1 HR
      have t1 : (a' : Int).tmod (b' : Int) = (M : Int) := by rw [Int.tmod_eq_emod_of_nonneg (by omega), ← cast_mod, hM]
      have t2 : IntKind.i64.wrap (M : Int) = (M : Int) := IntWalk.i64_in _ (by omega)
      clear h0 hM
      go_wp2_with fail
      go_quiet (fail)
      clear t1 t2
      go_wp2_with fail
      go_roundw
      case rel => exact ⟨b', M, hb', by omega, rfl, rfl, Lib.hid (by rw [HR.out]; exact HG.out), by first | exact draws1 _ _ | exact draws2 _ _ _⟩
      case measure => simp [intOf]; omega

theorem sum_nat {xs : List Int} {n : Nat} (hn : xs.length = n) (h : within xs 255 = true) (hn2 : n ≤ 1024) : ∃ S : Nat, isum xs = (S : Int) ∧ S ≤ 261120 := by
  have := isum_take_bd h n
  rw [List.take_of_length_le (by omega)] at this
  exact ⟨(isum xs).toNat, by omega, by omega⟩

theorem gcd_facts {S n G : Nat} (hn : 1 ≤ n) (hG : Nat.gcd S n = G) (hn2 : n ≤ 1024) : 1 ≤ G ∧ G ≤ 1024 := by
  have h1 := Nat.gcd_pos_of_pos_right S (show 0 < n by omega)
  have h2 := Nat.gcd_le_right S (show 0 < n by omega)
  omega

theorem sumF_yes {W H : Int} {xs : List Int} (h : picOk W H xs 255 = true) : sumF W H xs = isum xs := by unfold sumF; rw [if_pos h]

theorem quo_facts {S G : Nat} (hG : 1 ≤ G) (hS : S ≤ 261120) : ∃ A : Nat, (S : Int) / (G : Int) = A ∧ (S : Int).tdiv (G : Int) = A ∧ IntKind.i64.wrap (A : Int) = A ∧ A ≤ 261120 := by
  have h := Nat.div_le_self S G
  have e : (S : Int) / (G : Int) = ((S / G : Nat) : Int) := by simp
  obtain ⟨A, hA⟩ : ∃ A, S / G = A := ⟨_, rfl⟩
  rw [hA] at h e
  exact ⟨A, e, by rw [Int.tdiv_eq_ediv_of_nonneg (by omega), e], IntWalk.i64_in _ (by omega), by omega⟩

theorem below_drewN {B : Nat} {w w' : World} (h : Below B w w') (n : Nat) : Below B w (w'.drewN n) := ⟨h.os, h.tape, h.output, h.size, h.block⟩

end Go.Proofs.Ytkjhpfgcmbigfaa
