/-
  The sum of numbers of either sign, as the laws take it; a byte of the code.
-/
import Derived.Test.YtepaklcobkdfdaaR4
namespace Go.Proofs.Ytepaklcobkdfdaa
open Go.RowKit
set_option linter.unusedVariables false
set_option linter.unusedSimpArgs false

theorem at_callB (B : Nat) (ac : Option Addr) (nc capc : Nat) (bs : List Int) (i : Int) (w : World) (hl : bs.length = nc) (hr : RdU B w ac bs) (hn : nc ≤ 1048576) (h0 : 0 ≤ i) (h1 : i ≤ 100) :
    Calls Try.prog 12 #[.slice ac nc capc, .int .i64 i] w fun e w' => ∃ v : Nat, e = .returned (.int .i64 (v : Int)) ∧ v ≤ 255 ∧ w = w' := by
  have h := laws_at B ac nc capc bs i.toNat w hl hr hn (by omega)
  rw [Int.toNat_of_nonneg h0] at h
  exact h

theorem at_callC (B : Nat) (ac : Option Addr) (nc capc : Nat) (bs : List Int) (i : Int) (w : World) (hl : bs.length = nc) (hr : RdU B w ac bs) (hn : nc ≤ 1048576) (h0 : 0 ≤ i) (h1 : i ≤ 100) :
    Calls Try.prog 12 #[.slice ac nc capc, .int .i64 i] w fun e w' => ∃ v : Nat, e = .returned (.int .i64 (v : Int)) ∧ v ≤ 255 ∧ Below w.heap.size w w' :=
  (at_callB B ac nc capc bs i w hl hr hn h0 h1).mono fun e w' ⟨v, h1, h2, h3⟩ => ⟨v, h1, h2, by rw [← h3]; exact Below.refl _ _⟩

set_option maxHeartbeats 400000 in
theorem laws_totalB (ad : Option Addr) (n cap : Nat) (xs : List Int) (w : World) (hn : xs.length = n) (ha : Rd w ad xs) (hw : ∀ k, k ≤ n → -1000000000 ≤ isum (xs.take k) ∧ isum (xs.take k) ≤ 1000000000) (hl : n ≤ 1048576) :
    Calls Try.prog 15 #[.slice ad n cap] w fun e w' => e = .returned (.int .i64 (isum xs)) ∧ w = w' := by
  have HI := Lib.hid hw
  have HN := Lib.hid hn
  have HA := Lib.hid ha
  clear hn ha
  clear hw
  go_enter Try.func15, Try.ntmps15
  go_wp2_with fail
  go_loop [3, 8] (fun s i => ∃ k : Nat, k ≤ n ∧ i = .int .i64 k ∧ s = .int .i64 (isum (xs.take k))) (fun _ i => n - (intOf i).toNat)
  case atStart => exact ⟨0, Nat.zero_le _, rfl, rfl⟩
  case round =>
    obtain ⟨k, hk, rfl, rfl⟩ := hrel
    by_cases hlt : k < n
    · obtain ⟨ba, oa, hae, hal, hac⟩ := HA.out.at (by have := HN.out; omega)
      have h1 := hac k (by have := HN.out; omega)
      have t1 := HI.out k hk
      have t2 := HI.out (k + 1) (by omega)
      have t3 := isum_snoc xs k (by have := HN.out; omega)
      obtain ⟨S1, hS1⟩ : ∃ S, isum (xs.take k) = S := ⟨_, rfl⟩
      obtain ⟨S2, hS2⟩ : ∃ S, isum (xs.take (k + 1)) = S := ⟨_, rfl⟩
      obtain ⟨v, hv⟩ : ∃ v, xs[k]?.getD 0 = v := ⟨_, rfl⟩
      have h1' : w.cell? ⟨ba, oa + k, none⟩ = some (.int .i64 v) := by rw [← hv]; exact h1
      rw [hS2, hS1, hv] at t3
      rw [hS1] at t1 ⊢
      rw [hS2] at t2
      have HS2 := Lib.hid hS2
      subst hae
      clear hac h1 hS1 hS2 hv
      have t4 : S1 + v = S2 := t3.symm
      clear t3
      go_wp2_with fail
      go_round
      case rel => exact ⟨k + 1, by omega, by go_num, by rw [HS2.out]⟩
      case measure => simp [intOf]; omega
    · go_wp2_with fail
      go_ret
      obtain rfl : k = n := by omega
      exact ⟨ret_int (by rw [List.take_of_length_le (by have := HN.out; omega)]), rfl⟩

end Go.Proofs.Ytepaklcobkdfdaa
