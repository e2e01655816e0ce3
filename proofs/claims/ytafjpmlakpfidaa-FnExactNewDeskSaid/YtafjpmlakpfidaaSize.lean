/-
  Contracts: sizes and amounts of a picture, in the program and in the model.
-/
import Derived.Test.YtafjpmlakpfidaaPic
import Derived.Test.YtafjpmlakpfidaaM1
import Derived.BigGuardPart
namespace Go.Proofs.Ytafjpmlakpfidaa
open Go.RowKit
set_option linter.unusedVariables false
set_option linter.unusedSimpArgs false

set_option maxHeartbeats 400000 in
theorem impl_isSize (W H : Int) (w : World) :
    Calls Try.prog 39 #[.int .i64 W, .int .i64 H] w fun e w' => e = .returned (.bool (sizeOk W H)) ∧ w = w' := by
  by_cases c : 1 ≤ W ∧ W ≤ 64 ∧ 1 ≤ H ∧ H ≤ 64
  · obtain ⟨h1, h2, h3, h4⟩ := c
    rw [sizeOk_in h1 h2 h3 h4]
    obtain ⟨m1, m2⟩ := mul_bd W H h1 h2 h3 h4
    go_enter Try.func39, Try.ntmps39
    go_wp2
    all_goals (go_ret; exact ⟨rfl, rfl⟩)
  · rw [sizeOk_out c]
    go_enter Try.func39, Try.ntmps39
    go_wp2
    all_goals (go_ret; first | exact ⟨rfl, rfl⟩ | (exfalso; exact c ⟨by omega, by omega, by omega, by omega⟩))

set_option maxHeartbeats 400000 in
theorem spec_l1In (x a b : Int) (w : World) :
    Calls Try.prog 49 #[.int .i64 x, .int .i64 a, .int .i64 b] w fun e w' => e = .returned (.bool (decide (a ≤ x ∧ x ≤ b))) ∧ w = w' := by
  go_enter Try.func49, Try.ntmps49
  go_wp2
  all_goals (go_ret; exact ⟨ret_bool (by first | (simp [*]; done) | (simp [*]; omega) | (simp; intros; omega)), rfl⟩)

set_option maxHeartbeats 400000 in
theorem spec_l1Size (W H : Int) (w : World) :
    Calls Try.prog 58 #[.int .i64 W, .int .i64 H] w fun e w' => e = .returned (.bool (sizeOk W H)) ∧ w = w' := by
  by_cases c : 1 ≤ W ∧ W ≤ 64 ∧ 1 ≤ H ∧ H ≤ 64
  · obtain ⟨h1, h2, h3, h4⟩ := c
    rw [sizeOk_in h1 h2 h3 h4]
    obtain ⟨m1, m2⟩ := mul_bd W H h1 h2 h3 h4
    go_enter Try.func58, Try.ntmps58
    go_wp2
    all_goals (go_ret; exact ⟨rfl, rfl⟩)
  · rw [sizeOk_out c]
    go_enter Try.func58, Try.ntmps58
    go_wp2
    all_goals (go_ret; first | exact ⟨rfl, rfl⟩ | (exfalso; exact c ⟨by omega, by omega, by omega, by omega⟩))

set_option maxHeartbeats 400000 in
theorem impl_allWithin (ad : Option Addr) (n cap : Nat) (xs : List Int) (m : Int) (w : World) (hn : xs.length = n) (ha : Rd w ad xs) (hl : n ≤ 9223372036854775807) :
    Calls Try.prog 52 #[.slice ad n cap, .int .i64 m] w fun e w' => e = .returned (.bool (within xs m)) ∧ w = w' := by
  have HN := Lib.hid hn
  have HA := Lib.hid ha
  clear hn ha
  go_enter Try.func52, Try.ntmps52
  go_wp2
  go_loop [9] (fun i => ∃ k : Nat, k ≤ n ∧ i = .int .i64 k ∧ Hid (within (xs.take k) m = true)) (fun i => n - (intOf i).toNat)
  case atStart => exact ⟨0, Nat.zero_le _, rfl, rfl⟩
  case round =>
    obtain ⟨k, hk, rfl, HT⟩ := hrel
    by_cases hlt : k < n
    · obtain ⟨ba, oa, hae, hal, hac⟩ := HA.out.at (by have := HN.out; omega)
      subst hae
      have h1 : w.cell? ⟨ba, oa + k, none⟩ = some (.int .i64 (xs.getD k 0)) := hac k (by have := HN.out; omega)
      clear hac
      go_wp2
      iterate 2
        · go_ret
          exact ⟨ret_bool (within_no xs k m (by have := HN.out; omega) (by omega)).symm, rfl⟩
      · go_round
        case rel => exact ⟨k + 1, by omega, by go_num, by rw [within_snoc _ _ _ (by have := HN.out; omega), HT.out, Bool.true_and, decide_eq_true_iff]; exact ⟨by omega, by omega⟩⟩
        case measure => simp [intOf]; omega
    · go_wp2
      go_ret
      obtain rfl : k = n := by omega
      have h := HT.out
      rw [List.take_of_length_le (by have := HN.out; omega)] at h
      exact ⟨ret_bool h.symm, rfl⟩

set_option maxHeartbeats 400000 in
theorem spec_l1Up (W H : Int) (ad : Option Addr) (n cap : Nat) (xs : List Int) (m : Int) (w : World) (hn : xs.length = n) (ha : Rd w ad xs) (hl : n ≤ 9223372036854775807) :
    Calls Try.prog 47 #[.agg #[.int .i64 W, .int .i64 H, .slice ad n cap], .int .i64 m] w fun e w' => e = .returned (.bool (picOk W H xs m)) ∧ Below w.heap.size w w' := by
  have HN := Lib.hid hn
  have HA := Lib.hid ha
  clear hn ha
  by_cases hs : sizeOk W H = true
  case neg =>
    have hs2 : sizeOk W H = false := by simpa using hs
    rw [picOk_no1 hs2]
    clear hs
    go_enter Try.func47, Try.ntmps47
    go_wp2_with (go_at_call 58; refine (spec_l1Size _ _ _).mono ?_; rintro e w' ⟨rfl, rfl⟩)
    go_ret
    exact ⟨rfl, Joins.below_alloc1 _ _⟩
  case pos =>
    obtain ⟨b1, b2, b3, b4, b5, b6⟩ := sizeOk_bd hs
    by_cases hq : (n : Int) = W * H
    case neg =>
      rw [picOk_no2 HN.out hq]
      have hq2 : ((n : Int) != W * H) = true := by simpa using hq
      clear hq
      go_enter Try.func47, Try.ntmps47
      go_wp2_with (go_at_call 58; refine (spec_l1Size _ _ _).mono ?_; rintro e w' ⟨rfl, rfl⟩)
      go_ret
      exact ⟨rfl, Joins.below_alloc1 _ _⟩
    case pos =>
      rw [picOk_in HN.out hs hq]
      have hq2 : ((n : Int) != W * H) = false := by simpa using hq
      clear hq
      go_enter Try.func47, Try.ntmps47
      go_wp2_with (go_at_call 58; refine (spec_l1Size _ _ _).mono ?_; rintro e w' ⟨rfl, rfl⟩)
      go_loop [27] (fun i => ∃ k : Nat, k ≤ n ∧ i = .int .i64 k ∧ Hid (within (xs.take k) m = true)) (fun i => n - (intOf i).toNat)
      case atStart => exact ⟨0, Nat.zero_le _, rfl, rfl⟩
      case round =>
        obtain ⟨k, hk, rfl, HT⟩ := hrel
        by_cases hlt : k < n
        · obtain ⟨ba, oa, hae, hal, hac⟩ := HA.out.at (by have := HN.out; omega)
          subst hae
          have h1 : w.cell? ⟨ba, oa + k, none⟩ = some (.int .i64 (xs.getD k 0)) := hac k (by have := HN.out; omega)
          clear hac
          by_cases hv : 0 ≤ xs[k]?.getD 0 ∧ xs[k]?.getD 0 ≤ m
          · have hv2 : decide (0 ≤ xs[k]?.getD 0 ∧ xs[k]?.getD 0 ≤ m) = true := by simpa using hv
            go_wp2_with fail
            refine (spec_l1In _ _ _ _).mono ?_
            rintro e w' ⟨rfl, rfl⟩
            rw [hv2]
            clear hv2
            go_wp2_with fail
            go_round
            case rel => exact ⟨k + 1, by omega, by go_num, by rw [within_snoc _ _ _ (by have := HN.out; omega), HT.out, Bool.true_and, decide_eq_true_iff]; exact hv⟩
            case measure => simp [intOf]; omega
          · have hv2 : decide (0 ≤ xs[k]?.getD 0 ∧ xs[k]?.getD 0 ≤ m) = false := by simpa using hv
            have HV := Lib.hid hv
            clear hv
            go_wp2_with fail
            refine (spec_l1In _ _ _ _).mono ?_
            rintro e w' ⟨rfl, rfl⟩
            rw [hv2]
            clear hv2
            go_wp2_with fail
            go_ret
            exact ⟨ret_bool (within_no xs k m (by have := HN.out; omega) HV.out).symm, Joins.below_alloc1 _ _⟩
        · go_wp2_with fail
          go_ret
          obtain rfl : k = n := by omega
          have h := HT.out
          rw [List.take_of_length_le (by have := HN.out; omega)] at h
          exact ⟨ret_bool h.symm, Joins.below_alloc1 _ _⟩

set_option maxHeartbeats 400000 in
theorem spec_IsPicture (W H : Int) (ad : Option Addr) (n cap : Nat) (xs : List Int) (w : World) (hn : xs.length = n) (ha : Rd w ad xs) (hl : n ≤ 9223372036854775807) :
    Calls Try.prog 29 #[.agg #[.int .i64 W, .int .i64 H, .slice ad n cap]] w fun e w' => e = .returned (.bool (picOk W H xs 255)) ∧ Below w.heap.size w w' := by
  have HN := Lib.hid hn
  have HA := Lib.hid ha
  clear hn ha
  go_enter Try.func29, Try.ntmps29
  go_wp2_with fail
  refine (spec_l1Up _ _ _ _ _ xs _ _ HN.out (HA.out.below (Joins.below_alloc1 _ _)) hl).mono ?_
  rintro e w' ⟨rfl, hb⟩
  have HB := Lib.hid hb
  clear hb
  go_wp2_with fail
  go_ret
  exact ⟨rfl, (Joins.below_alloc1 _ _).trans (HB.out.mono (by simp))⟩

set_option maxHeartbeats 400000 in
theorem impl_IsPicture (W H : Int) (ad : Option Addr) (n cap : Nat) (xs : List Int) (w : World) (hn : xs.length = n) (ha : Rd w ad xs) (hl : n ≤ 9223372036854775807) :
    Calls Try.prog 35 #[.agg #[.int .i64 W, .int .i64 H, .slice ad n cap]] w fun e w' => e = .returned (.bool (picOk W H xs 255)) ∧ Below w.heap.size w w' := by
  have HN := Lib.hid hn
  have HA := Lib.hid ha
  clear hn ha
  by_cases hs : sizeOk W H = true
  case neg =>
    have hs2 : sizeOk W H = false := by simpa using hs
    rw [picOk_no1 hs2]
    clear hs
    go_enter Try.func35, Try.ntmps35
    go_wp2_with (go_at_call 39; refine (impl_isSize _ _ _).mono ?_; rintro e w' ⟨rfl, rfl⟩)
    go_ret
    exact ⟨rfl, Joins.below_alloc1 _ _⟩
  case pos =>
    obtain ⟨b1, b2, b3, b4, b5, b6⟩ := sizeOk_bd hs
    by_cases hq : (n : Int) = W * H
    case neg =>
      rw [picOk_no2 HN.out hq]
      have hq2 : ((n : Int) == W * H) = false := by simpa using hq
      clear hq
      go_enter Try.func35, Try.ntmps35
      go_wp2_with (go_at_call 39; refine (impl_isSize _ _ _).mono ?_; rintro e w' ⟨rfl, rfl⟩)
      go_ret
      exact ⟨rfl, Joins.below_alloc1 _ _⟩
    case pos =>
      rw [picOk_in HN.out hs hq]
      have hq2 : ((n : Int) == W * H) = true := by simpa using hq
      clear hq
      go_enter Try.func35, Try.ntmps35
      go_wp2_with (go_at_call 39; refine (impl_isSize _ _ _).mono ?_; rintro e w' ⟨rfl, rfl⟩)
      refine (impl_allWithin _ _ _ xs _ _ HN.out (HA.out.below (Joins.below_alloc1 _ _)) hl).mono ?_
      rintro e w' ⟨rfl, rfl⟩
      go_wp2_with fail
      go_ret
      exact ⟨rfl, Joins.below_alloc1 _ _⟩

end Go.Proofs.Ytafjpmlakpfidaa
