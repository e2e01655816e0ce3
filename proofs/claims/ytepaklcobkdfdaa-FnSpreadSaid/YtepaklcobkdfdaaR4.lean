/-
  Contracts of the laws' own helpers: a byte of the code, sums, powers, comparisons.
-/
import Derived.Test.YtepaklcobkdfdaaR3
import Derived.Test.YtepaklcobkdfdaaC2
namespace Go.Proofs.Ytepaklcobkdfdaa
open Go.RowKit
set_option linter.unusedVariables false
set_option linter.unusedSimpArgs false

set_option maxHeartbeats 400000 in
theorem laws_at (B : Nat) (ac : Option Addr) (nc capc : Nat) (bs : List Int) (i : Nat) (w : World) (hl : bs.length = nc) (hr : RdU B w ac bs) (hn : nc ≤ 1048576) (hi : i ≤ 100) :
    Calls Try.prog 12 #[.slice ac nc capc, .int .i64 i] w fun e w' => ∃ v : Nat, e = .returned (.int .i64 (v : Int)) ∧ v ≤ 255 ∧ w = w' := by
  by_cases hlt : i < nc
  · obtain ⟨⟨u0, u1⟩, bb, bo, hae, bl, bl2, hcell⟩ := hr i (by omega)
    subst hae
    obtain ⟨v, hv⟩ : ∃ v : Nat, bs.getD i 0 = (v : Int) := ⟨(bs.getD i 0).toNat, by omega⟩
    rw [hv] at hcell
    have hv2 : v ≤ 255 := by omega
    clear u0 u1 hv hr
    go_enter Try.func12, Try.ntmps12
    go_wp2
    go_ret
    exact ⟨v, rfl, hv2, rfl⟩
  · clear hr
    go_enter Try.func12, Try.ntmps12
    go_wp2
    go_ret
    exact ⟨(((i : Int) * 37 + (nc : Int) * 11) % 256).toNat, ret_int (by omega), by omega, rfl⟩

set_option maxHeartbeats 400000 in
theorem laws_total (ad : Option Addr) (n cap : Nat) (xs : List Int) (w : World) (hn : xs.length = n) (ha : Rd w ad xs) (hw : within xs 255 = true) (hl : n ≤ 1048576) :
    Calls Try.prog 15 #[.slice ad n cap] w fun e w' => e = .returned (.int .i64 (isum xs)) ∧ w = w' := by
  have HI := Lib.hid hw
  have HN := Lib.hid hn
  have HA := Lib.hid ha
  clear hn ha
  clear hw
  go_enter Try.func15, Try.ntmps15
  go_wp2_with fail
  go_loop [3, 8] (fun s i => ∃ k : Nat, k ≤ n ∧ i = .int .i64 k ∧ s = .int .i64 (isum (xs.take k))) (fun _ i => n - (intOf i).toNat)
  case atStart => exact ⟨0, Nat.zero_le _, rfl, rfl⟩
  case round =>
    obtain ⟨k, hk, rfl, rfl⟩ := hrel
    by_cases hlt : k < n
    · obtain ⟨ba, oa, hae, hal, hac⟩ := HA.out.at (by have := HN.out; omega)
      have h1 := hac k (by have := HN.out; omega)
      obtain ⟨v1, v2⟩ := within_at HI.out k (by have := HN.out; omega)
      obtain ⟨t1, t2⟩ := isum_take_bd (xs := xs) HI.out k
      subst hae
      clear hac
      go_wp2_with fail
      go_round
      case rel => exact ⟨k + 1, by omega, by go_num, by rw [isum_snoc _ _ (by have := HN.out; omega)]⟩
      case measure => simp [intOf]; omega
    · go_wp2_with fail
      go_ret
      obtain rfl : k = n := by omega
      exact ⟨ret_int (by rw [List.take_of_length_le (by have := HN.out; omega)]), rfl⟩

set_option maxHeartbeats 400000 in
theorem laws_ints (a b : Option Addr) (n m c d : Nat) (xs ys : List Int) (w : World) (hn : xs.length = n) (hm : ys.length = m) (ha : Rd w a xs) (hb : Rd w b ys) (hl : n ≤ 9223372036854775807) (hl2 : m ≤ 9223372036854775807) :
    Calls Try.prog 51 #[.slice a n c, .slice b m d] w fun e w' => e = .returned (.bool (decide (xs = ys))) ∧ Below w.heap.size w w' := by
  by_cases hnm : n = m
  case neg =>
    have H : Hid (¬ xs = ys) := fun h => hnm (by rw [← hn, ← hm, h])
    have hq : ((n : Int) == (m : Int)) = false := by simp; omega
    have hq2 : ((n : Int) != (m : Int)) = true := by simp; omega
    have HN := Lib.hid hn
    have HM := Lib.hid hm
    have HA := Lib.hid ha
    have HB := Lib.hid hb
    clear hn hm hnm ha hb
    go_enter Try.func51, Try.ntmps51
    go_wp2
    go_ret
    exact ⟨by simp [H.out], Below.refl _ _⟩
  case pos =>
    subst hnm
    have HN := Lib.hid hn
    have HM := Lib.hid hm
    have HA := Lib.hid ha
    have HB := Lib.hid hb
    clear hn hm ha hb
    go_enter Try.func51, Try.ntmps51
    go_wp2
    go_loopw [13] (fun i wr => ∃ k : Nat, k ≤ n ∧ i = .int .i64 k ∧ Hid (xs.take k = ys.take k) ∧ ∃ q, wr = w.drewN q) (fun i _ => n - (intOf i).toNat)
    case atStart => exact ⟨0, Nat.zero_le _, rfl, rfl, 0, rfl⟩
    case round =>
      obtain ⟨k, hk, rfl, HT, q, rfl⟩ := hrel
      by_cases hlt : k < n
      · obtain ⟨ba, oa, hae, hal, hac⟩ := HA.out.at (by have := HN.out; omega)
        obtain ⟨bb, ob, hbe, hbl, hbc⟩ := HB.out.at (by have := HM.out; omega)
        subst hae hbe
        have h1 : w.cell? ⟨ba, oa + k, none⟩ = some (.int .i64 (xs.getD k 0)) := hac k (by have := HN.out; omega)
        have h2 : w.cell? ⟨bb, ob + k, none⟩ = some (.int .i64 (ys.getD k 0)) := hbc k (by have := HM.out; omega)
        clear hac hbc
        go_wp2
        go_quiet (fail)
        go_wp2
        · have hne : (xs[k]?.getD 0 != ys[k]?.getD 0) = true := by assumption
          go_ret
          refine ⟨ret_bool ?_, (Joins.below_draws _ _ _).trans (Joins.below_draws _ _ _)⟩
          symm; rw [decide_eq_false_iff_not]
          intro h; subst h; simp at hne
        · have hne : (xs[k]?.getD 0 != ys[k]?.getD 0) = false := by assumption
          go_roundw
          case rel => exact ⟨k + 1, by omega, by go_num, take_succ_eq (by have := HN.out; omega) (by have := HM.out; omega) HT.out (by simpa using hne), (by first | exact draws1 _ _ | exact draws2 _ _ _)⟩
          case measure => simp [intOf]; omega
      · go_wp2
        go_ret
        refine ⟨ret_bool ?_, Joins.below_draws _ _ _⟩
        symm; rw [decide_eq_true_iff]
        have h := HT.out
        rwa [List.take_of_length_le (by have := HN.out; omega), List.take_of_length_le (by have := HM.out; omega)] at h

set_option maxHeartbeats 400000 in
theorem laws_power (k : Nat) (w : World) (hk : k ≤ 8) :
    Calls Try.prog 35 #[.int .i64 k] w fun e w' => e = .returned (.int .i64 (2 ^ k)) ∧ w = w' := by
  have hp : ∀ j : Nat, j ≤ 8 → (1 : Int) ≤ 2 ^ j ∧ (2 : Int) ^ j ≤ 256 := by
    intro j hj
    match j, hj with
    | 0, _ => decide
    | 1, _ => decide
    | 2, _ => decide
    | 3, _ => decide
    | 4, _ => decide
    | 5, _ => decide
    | 6, _ => decide
    | 7, _ => decide
    | 8, _ => decide
  have HP := Lib.hid hp
  clear hp
  go_enter Try.func35, Try.ntmps35
  go_wp2_with fail
  go_loop [0, 3] (fun i r => ∃ j : Nat, j ≤ k ∧ i = .int .i64 ((k : Int) - j) ∧ r = .int .i64 (2 ^ j)) (fun i _ => (intOf i).toNat)
  case atStart => exact ⟨0, Nat.zero_le _, by go_num, rfl⟩
  case round =>
    obtain ⟨j, hj, rfl, rfl⟩ := hrel
    obtain ⟨p0, p1⟩ := HP.out j (by omega)
    by_cases hlt : j < k
    · go_wp2_with fail
      go_round
      case rel => exact ⟨j + 1, by omega, by go_num, congrArg _ (by rw [Int.pow_succ, Int.mul_comm])⟩
      case measure => simp [intOf]; omega
    · obtain rfl : k = j := by omega
      go_wp2_with fail
      go_ret
      exact ⟨rfl, rfl⟩

set_option maxHeartbeats 400000 in
theorem laws_same (W H : Int) (a : Option Addr) (n c : Nat) (xs : List Int) (W' H' : Int) (b : Option Addr) (m d : Nat) (ys : List Int) (w : World) (hn : xs.length = n) (ha : Rd w a xs) (hl : n ≤ 9223372036854775807) (hm : ys.length = m) (hb : Rd w b ys) (hl2 : m ≤ 9223372036854775807) :
    Calls Try.prog 25 #[.agg #[.int .i64 W, .int .i64 H, .slice a n c], .agg #[.int .i64 W', .int .i64 H', .slice b m d]] w fun e w' => e = .returned (.bool (decide (W = W' ∧ H = H' ∧ xs = ys))) ∧ Below w.heap.size w w' := by
  have HN := Lib.hid hn
  have HM := Lib.hid hm
  have HA := Lib.hid ha
  have HB := Lib.hid hb
  clear hn hm ha hb
  by_cases h1 : W = W'
  case neg =>
    have hq : (W == W') = false := by simpa using h1
    have HF : Hid (decide (W = W' ∧ H = H' ∧ xs = ys) = false) := Lib.hid (decide_eq_false (fun h => h1 h.1))
    clear h1
    go_enter Try.func25, Try.ntmps25
    go_wp2_with fail
    go_ret
    exact ⟨ret_bool HF.out.symm, Joins.below_alloc2 _ _ _⟩
  case pos =>
    by_cases h2 : H = H'
    case neg =>
      have hq : (W == W') = true := by simpa using h1
      have hq2 : (H == H') = false := by simpa using h2
      have HF : Hid (decide (W = W' ∧ H = H' ∧ xs = ys) = false) := Lib.hid (decide_eq_false (fun h => h2 h.2.1))
      clear h1 h2
      go_enter Try.func25, Try.ntmps25
      go_wp2_with fail
      go_ret
      exact ⟨ret_bool HF.out.symm, Joins.below_alloc2 _ _ _⟩
    case pos =>
      have hq : (W == W') = true := by simpa using h1
      have hq2 : (H == H') = true := by simpa using h2
      have HF : Hid (decide (W = W' ∧ H = H' ∧ xs = ys) = decide (xs = ys)) := Lib.hid (by simp [h1, h2])
      rw [HF.out]
      clear h1 h2
      go_enter Try.func25, Try.ntmps25
      go_wp2_with fail
      refine (laws_ints a b n m c d xs ys _ HN.out HM.out (HA.out.below (Joins.below_alloc2 _ _ _)) (HB.out.below (Joins.below_alloc2 _ _ _)) hl hl2).mono ?_
      rintro e w1 ⟨rfl, hb1⟩
      have HB1 := Lib.hid (bTrans (Joins.below_alloc2 w _ _) hb1)
      clear hb1
      go_wp2_with fail
      go_ret
      exact ⟨rfl, HB1.out⟩

end Go.Proofs.Ytepaklcobkdfdaa
