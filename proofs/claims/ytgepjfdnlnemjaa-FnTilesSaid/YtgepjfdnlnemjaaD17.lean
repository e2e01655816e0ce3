/-
  Contracts of chapter 4: windows of a row, rows of a picture, sums (program).
-/
import Derived.Test.YtgepjfdnlnemjaaM16
import Derived.Test.YtgepjfdnlnemjaaD16
namespace Go.Proofs.Ytgepjfdnlnemjaa
open Go.RowKit
set_option linter.unusedVariables false
set_option linter.unusedSimpArgs false

theorem rd_window {w : World} {b off : Nat} {xs : List Int} (h : Rd w (some ⟨b, off, none⟩) xs) (s l : Nat) : Rd w (some ⟨b, off + s, none⟩) ((xs.drop s).take l) := by
  intro k hk
  rw [List.length_take, List.length_drop] at hk
  obtain ⟨b', off', h1, h2, h3⟩ := h (s + k) (by omega)
  have e := Option.some.inj h1
  simp only [Addr.mk.injEq] at e
  obtain ⟨rfl, rfl, _⟩ := e
  refine ⟨b, off + s, rfl, h2, ?_⟩
  rw [Nat.add_assoc, h3]
  congr 2
  simp only [List.getD, List.getElem?_take, List.getElem?_drop]
  rw [if_pos (by omega)]

set_option maxHeartbeats 800000 in
theorem impl_window (b off n cap s l : Nat) (S L : Int) (w : World) (hS : S = (s : Int)) (hL : L = (l : Int)) (h1 : 1 ≤ l) (h2 : s + l ≤ n) (h3 : n ≤ cap) (h4 : n ≤ 1048576) :
    Calls Try.prog 54 #[.slice (some ⟨b, off, none⟩) n cap, .int .i64 S, .int .i64 L] w fun e w' => e = .returned (.slice (some ⟨b, off + s, none⟩) l l) ∧ w = w' := by
  subst hS hL
  have f0 : (0 : Int) ≤ (s : Int) := by omega
  have f1 : (s : Int) ≤ (s : Int) + (l : Int) := by omega
  have f2 : (s : Int) + (l : Int) ≤ (cap : Int) := by omega
  have f3 : (s : Int) + (l : Int) ≤ (s : Int) + (l : Int) := by omega
  have f4 : ((s : Int) + (l : Int)).toNat = s + l := by omega
  have f5 : ¬ s + l = s := by omega
  go_enter Try.func54, Try.ntmps54
  go_wp2_with fail
  go_ret
  exact ⟨rfl, rfl⟩

set_option maxHeartbeats 800000 in
theorem impl_sumOf (ad : Option Addr) (n cap : Nat) (xs : List Int) (s : Int) (w : World) (hn : xs.length = n) (ha : Rd w ad xs) (hw : within xs 255 = true) (hl : n ≤ 1048576) (hs : isum xs = s) :
    Calls Try.prog 53 #[.slice ad n cap] w fun e w' => e = .returned (.int .i64 s) ∧ w = w' := by
  subst hs
  have HI := Lib.hid hw
  have HN := Lib.hid hn
  have HA := Lib.hid ha
  clear hn ha
  clear hw
  go_enter Try.func53, Try.ntmps53
  go_wp2_with fail
  go_loop [3, 8] (fun s i => ∃ k : Nat, k ≤ n ∧ i = .int .i64 k ∧ s = .int .i64 (isum (xs.take k))) (fun _ i => n - (intOf i).toNat)
  case atStart => exact ⟨0, Nat.zero_le _, rfl, rfl⟩
  case round =>
    obtain ⟨k, hk, rfl, rfl⟩ := hrel
    by_cases hlt : k < n
    · obtain ⟨ba, oa, hae, hal, hac⟩ := HA.out.at (by have := HN.out; omega)
      have h1 := hac k (by have := HN.out; omega)
      obtain ⟨v1, v2⟩ := within_at HI.out k (by have := HN.out; omega)
      obtain ⟨t1, t2⟩ := isum_take_bd (xs := xs) HI.out k
      subst hae
      clear hac
      go_wp2_with fail
      go_round
      case rel => exact ⟨k + 1, by omega, by go_num, by rw [isum_snoc _ _ (by have := HN.out; omega)]⟩
      case measure => simp [intOf]; omega
    · go_wp2_with fail
      go_ret
      obtain rfl : k = n := by omega
      exact ⟨ret_int (by rw [List.take_of_length_le (by have := HN.out; omega)]), rfl⟩

set_option maxHeartbeats 800000 in
theorem impl_rowOf (W : Nat) (H : Int) (b off n cap y : Nat) (Y : Int) (w : World) (hY : Y = (y : Int)) (h1 : 1 ≤ W) (hy : y ≤ 64) (hW : W ≤ 64) (h2 : y * W + W ≤ n) (h3 : n ≤ cap) (h4 : n ≤ 1048576) :
    Calls Try.prog 55 #[.agg #[.int .i64 W, .int .i64 H, .slice (some ⟨b, off, none⟩) n cap], .int .i64 Y] w fun e w' => e = .returned (.slice (some ⟨b, off + y * W, none⟩) W W) ∧ Below w.heap.size w w' := by
  subst hY
  have e0 : ((y : Int) * (W : Int)) = ((y * W : Nat) : Int) := by simp
  have b0 : 0 ≤ (y : Int) * (W : Int) := Int.mul_nonneg (by omega) (by omega)
  have b1 : (y : Int) * (W : Int) ≤ 1048576 := by rw [e0]; omega
  have E0 := Lib.hid e0
  clear e0
  go_enter Try.func55, Try.ntmps55
  go_wp2_with fail
  refine (impl_window b off n cap (y * W) W _ _ _ E0.out rfl h1 h2 h3 h4).mono ?_
  rintro e w2 ⟨rfl, rfl⟩
  go_wp2_with fail
  go_ret
  exact ⟨rfl, Joins.below_alloc1 _ _⟩

end Go.Proofs.Ytgepjfdnlnemjaa
