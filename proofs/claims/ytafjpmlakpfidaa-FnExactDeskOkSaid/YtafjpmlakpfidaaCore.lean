/-
  Contracts of the laws' own helpers over lists of numbers: sizes, copies, comparisons, marks.
-/
import Derived.Test.YtafjpmlakpfidaaRows
import Derived.Test.YtafjpmlakpfidaaLib
import Derived.BigQuiet
import Derived.Deep.QuietTactic
namespace Go.Proofs.Ytafjpmlakpfidaa
open Go.RowKit
set_option linter.unusedVariables false
set_option linter.unusedSimpArgs false

theorem infoInt : (Try.prog.info? 3).map (fun i => (i.zero, i.size, i.bytes)) = some (some (.int .i64 0), 1, 8) := by kernel_rfl

/-- 'make([]int, n)'. -/
theorem wp_make (w : World) {ops : Array Oper} {rest : List Oper} {o : Oper} {a : Act} {Q : Exit → Act → World → Prop}
    (hg : o.guard = none) (l c : Operand) (hop : o.op = Op.makeSlice 22 l c) (kl kc : IntKind) (L C : Int) (n : Nat) (hl : a.eval l = .int kl L) (hc : a.eval c = .int kc C) (hL : L = (n : Int)) (hC : C = (n : Int)) (hn : n ≤ 17592186044416)
    (hK : ∀ M : Array Value, RowM M n (List.replicate n 0) → wpList Try.prog ops Q rest (a.put o.dst (.slice (some ⟨w.heap.size, 0, none⟩) n n)) (w.alloc (.cells M 3))) :
    wpList Try.prog ops Q (o :: rest) a w := by
  obtain ⟨i, hi, hz0, hz1, hz2⟩ := info_parts infoInt
  refine wpList_plain hg fun K hK' => ?_
  subst hL
  subst hC
  have hr := run_make (P := Try.prog) w 22 3 i (.int .i64 0) Try.underlying22 hi hz0 kl kc n n (by omega) (Int.le_refl _) (by rw [hz2]; omega) (by omega)
  simp only [Int.toNat_natCast, hz1, Nat.mul_one] at hr
  have hm := RowM.zero n (by unfold maxLen; omega)
  unfold Oper.wp
  simp only [Value.cells] at hr
  simp [execOp, hop, hl, hc, hr, Result.andThen]
  exact hK' _ _ (hK _ hm)

set_option maxHeartbeats 400000 in
theorem sz_ok (ad : Option Addr) (n cap : Nat) (L : Int) (w : World) (h1 : (n : Int) ≤ L) (h2 : L ≤ 1048576) :
    Calls Try.prog 46 #[.slice ad n cap, .int .i64 L] w fun e w' => e = .returned (.int .i64 (L - n)) ∧ w = w' := by
  go_enter Try.func46, Try.ntmps46
  go_wp2
  go_ret
  exact ⟨rfl, rfl⟩

set_option maxHeartbeats 400000 in
theorem sz_no (ad : Option Addr) (n cap : Nat) (L : Int) (w : World) (h1 : L < (n : Int)) (h0 : 0 ≤ L) (h2 : L ≤ 1048576) (h3 : n ≤ 9223372036854775807) :
    Calls Try.prog 46 #[.slice ad n cap, .int .i64 L] w fun e w' => e = .returned (.int .i64 (-1)) ∧ w = w' := by
  go_enter Try.func46, Try.ntmps46
  go_wp2
  go_ret
  exact ⟨rfl, rfl⟩

set_option maxHeartbeats 400000 in
theorem eqInts (a b : Option Addr) (n m c d : Nat) (xs ys : List Int) (w : World) (hn : xs.length = n) (hm : ys.length = m) (ha : Rd w a xs) (hb : Rd w b ys) (hl : n ≤ 9223372036854775807) (hl2 : m ≤ 9223372036854775807) :
    Calls Try.prog 43 #[.slice a n c, .slice b m d] w fun e w' => e = .returned (.bool (decide (xs = ys))) ∧ ∃ q, w' = w.drewN q := by
  by_cases hnm : n = m
  case neg =>
    have H : Hid (¬ xs = ys) := fun h => hnm (by rw [← hn, ← hm, h])
    have hq : ((n : Int) == (m : Int)) = false := by simp; omega
    have hq2 : ((n : Int) != (m : Int)) = true := by simp; omega
    have HN := Lib.hid hn
    have HM := Lib.hid hm
    have HA := Lib.hid ha
    have HB := Lib.hid hb
    clear hn hm hnm ha hb
    go_enter Try.func43, Try.ntmps43
    go_wp2
    go_ret
    exact ⟨by simp [H.out], 0, rfl⟩
  case pos =>
    subst hnm
    have HN := Lib.hid hn
    have HM := Lib.hid hm
    have HA := Lib.hid ha
    have HB := Lib.hid hb
    clear hn hm ha hb
    go_enter Try.func43, Try.ntmps43
    go_wp2
    go_loopw [5] (fun i wr => ∃ k : Nat, k ≤ n ∧ i = .int .i64 k ∧ Hid (xs.take k = ys.take k) ∧ ∃ q, wr = w.drewN q) (fun i _ => n - (intOf i).toNat)
    case atStart => exact ⟨0, Nat.zero_le _, rfl, rfl, 0, rfl⟩
    case round =>
      obtain ⟨k, hk, rfl, HT, q, rfl⟩ := hrel
      by_cases hlt : k < n
      · obtain ⟨ba, oa, hae, hal, hac⟩ := HA.out.at (by have := HN.out; omega)
        obtain ⟨bb, ob, hbe, hbl, hbc⟩ := HB.out.at (by have := HM.out; omega)
        subst hae hbe
        have h1 : w.cell? ⟨ba, oa + k, none⟩ = some (.int .i64 (xs.getD k 0)) := hac k (by have := HN.out; omega)
        have h2 : w.cell? ⟨bb, ob + k, none⟩ = some (.int .i64 (ys.getD k 0)) := hbc k (by have := HM.out; omega)
        clear hac hbc
        go_wp2
        go_quiet (fail)
        go_wp2
        · have hne : (xs[k]?.getD 0 != ys[k]?.getD 0) = true := by assumption
          go_ret
          refine ⟨ret_bool ?_, (by first | exact draws1 _ _ | exact draws2 _ _ _)⟩
          symm; rw [decide_eq_false_iff_not]
          intro h; subst h; simp at hne
        · have hne : (xs[k]?.getD 0 != ys[k]?.getD 0) = false := by assumption
          go_roundw
          case rel => exact ⟨k + 1, by omega, by go_num, take_succ_eq (by have := HN.out; omega) (by have := HM.out; omega) HT.out (by simpa using hne), (by first | exact draws1 _ _ | exact draws2 _ _ _)⟩
          case measure => simp [intOf]; omega
      · go_wp2
        go_ret
        refine ⟨ret_bool ?_, _, rfl⟩
        symm; rw [decide_eq_true_iff]
        have h := HT.out
        rwa [List.take_of_length_le (by have := HN.out; omega), List.take_of_length_le (by have := HM.out; omega)] at h


set_option maxHeartbeats 400000 in
/-- toIntS: a copy in a new row. -/
theorem toInts (a : Option Addr) (n c : Nat) (xs : List Int) (w : World) (hn : xs.length = n) (ha : Rd w a xs) (hl : n ≤ 17592186044416) :
    Calls Try.prog 51 #[.slice a n c] w fun e w' => e = .returned (.slice (some ⟨w.heap.size, 0, none⟩) n n) ∧ Own w' w.heap.size n n xs ∧ Below w.heap.size w w' := by
  have HN := Lib.hid hn
  have HA := Lib.hid ha
  clear hn ha
  go_enter Try.func51, Try.ntmps51
  go_wp2_with (at_make; refine wp_make _ rfl _ _ rfl .i64 .i64 n n n rfl rfl rfl rfl hl ?_; intro M hM)
  have HM := Lib.hid hM
  clear hM
  go_loopw [4] (fun i wr => ∃ k : Nat, k ≤ n ∧ i = .int .i64 k ∧ Own wr w.heap.size n n (filled xs (List.replicate n 0) k) ∧ Below w.heap.size w wr) (fun i _ => n - (intOf i).toNat)
  case atStart => exact ⟨0, Nat.zero_le _, rfl, by rw [filled_zero]; exact HM.out.own _, Joins.below_alloc1 _ _⟩
  case round =>
    obtain ⟨k, hk, rfl, ho, hnx⟩ := hrel
    by_cases hlt : k < n
    · obtain ⟨ba, oa, hae, hal, hac⟩ := HA.out.at (by have := HN.out; omega)
      subst hae
      have h1 : wr.cell? ⟨ba, oa + k, none⟩ = some (.int .i64 (xs.getD k 0)) := (hnx.cell hal).trans (hac k (by have := HN.out; omega))
      have h2 : wr.cell? ⟨w.heap.size, k, none⟩ = some (.int .i64 ((filled xs (List.replicate n 0) k).getD k 0)) := ho.cell hlt
      have h3 : wr.frozen? ⟨w.heap.size, k, none⟩ = false := ho.frozen k
      have hs := ho.set k (xs.getD k 0)
      rw [filled_succ xs _ k _ (by have := HN.out; omega) (by simp; omega) rfl] at hs
      have HS := Lib.hid hs
      clear hac hs ho
      go_wp2
      go_roundw
      case rel => exact ⟨k + 1, by omega, by go_num, by simpa using HS.out, hnx.setCell (Nat.le_refl _) _⟩
      case measure => simp [intOf]; omega
    · go_wp2
      go_ret
      refine ⟨rfl, ?_, hnx⟩
      obtain rfl : k = n := by omega
      have hx := HN.out
      subst hx
      rwa [filled_all _ _ (by simp)] at ho

set_option maxHeartbeats 400000 in
theorem markOwn (g n cap : Nat) (s : Int) (xs : List Int) (w : World) (ho : Own w g n cap xs) (h0 : 0 ≤ s) (hl : s + n ≤ 17592186044416) :
    Calls Try.prog 44 #[.slice (some ⟨g, 0, none⟩) n cap, .int .i64 s] w fun e w' => e = .returned (.int .i64 (s + n)) ∧ Own w' g n cap (upFrom s n) ∧ w.grownBy w' (some g) := by
  have HO := Lib.hid ho
  clear ho
  go_enter Try.func44, Try.ntmps44
  go_wp2
  go_loopw [1, 5] (fun v i wr => ∃ k : Nat, k ≤ n ∧ i = .int .i64 k ∧ v = .int .i64 (s + k) ∧ Own wr g n cap (filled (upFrom s n) xs k) ∧ w.grownBy wr (some g)) (fun _ i _ => n - (intOf i).toNat)
  case atStart => exact ⟨0, Nat.zero_le _, rfl, by simp, by rw [filled_zero]; exact HO.out, grown_refl _ _⟩
  case round =>
    obtain ⟨k, hk, rfl, rfl, ho, hg⟩ := hrel
    by_cases hlt : k < n
    · have h2 : wr.cell? ⟨g, k, none⟩ = some (.int .i64 ((filled (upFrom s n) xs k).getD k 0)) := ho.cell hlt
      have h3 : wr.frozen? ⟨g, k, none⟩ = false := ho.frozen k
      have hs := ho.set k (s + k)
      rw [filled_succ _ xs k _ (by rw [upFrom_len]; exact hlt) (by have := HO.out.len; omega) (upFrom_get s n k hlt)] at hs
      have HS := Lib.hid hs
      clear hs ho
      go_wp2
      go_roundw
      case rel => exact ⟨k + 1, by omega, by go_num, by go_num, by simpa using HS.out, grown_set hg _⟩
      case measure => simp [intOf]; omega
    · go_wp2
      go_ret
      obtain rfl : k = n := by omega
      refine ⟨rfl, ?_, hg⟩
      have e : filled (upFrom s k) xs k = upFrom s k := by
        have := filled_all (upFrom s k) xs (by rw [upFrom_len]; exact HO.out.len)
        rwa [upFrom_len] at this
      rwa [e] at ho

set_option maxHeartbeats 400000 in
theorem markNone (ad : Option Addr) (cap : Nat) (s : Int) (w : World) :
    Calls Try.prog 44 #[.slice ad 0 cap, .int .i64 s] w fun e w' => e = .returned (.int .i64 s) ∧ w = w' := by
  go_enter Try.func44, Try.ntmps44
  go_wp2
  refine wp_loop_rounds 1 ?_; rw [rounds_succ]
  go_wp2
  go_ret
  exact ⟨rfl, rfl⟩

theorem markInts (B : Nat) (ad : Option Addr) (n cap : Nat) (s : Int) (xs : List Int) (w : World) (ho : OwnA w B ad n cap xs) (h0 : 0 ≤ s) (hl : s + n ≤ 17592186044416) :
    Calls Try.prog 44 #[.slice ad n cap, .int .i64 s] w fun e w' => e = .returned (.int .i64 (s + n)) ∧ OwnA w' B ad n cap (upFrom s n) ∧ w.grownBy w' (blockOf ad) := by
  rcases ho with ⟨rfl, rfl, rfl, rfl⟩ | ⟨g, rfl, hB, ho⟩
  · exact (markNone none 0 s w).mono fun e w' ⟨h1, h2⟩ => ⟨by rw [h1]; simp, OwnA.none _ _, by rw [← h2]; exact grown_refl _ _⟩
  · exact (markOwn g n cap s xs w ho h0 hl).mono fun e w' ⟨h1, h2, h3⟩ => ⟨h1, .mk h2 hB, h3⟩

set_option maxHeartbeats 400000 in
theorem heldInts (ad : Option Addr) (n cap : Nat) (s : Int) (w : World) (ha : Rd w ad (upFrom s n)) (h0 : 0 ≤ s) (hl : s + n ≤ 17592186044416) :
    Calls Try.prog 45 #[.slice ad n cap, .int .i64 s] w fun e w' => e = .returned (.int .i64 (s + n)) ∧ w = w' := by
  have HA := Lib.hid ha
  clear ha
  go_enter Try.func45, Try.ntmps45
  go_wp2
  go_loop [1, 5] (fun v i => ∃ k : Nat, k ≤ n ∧ i = .int .i64 k ∧ v = .int .i64 (s + k)) (fun _ i => n - (intOf i).toNat)
  case atStart => exact ⟨0, Nat.zero_le _, rfl, by simp⟩
  case round =>
    obtain ⟨k, hk, rfl, rfl⟩ := hrel
    by_cases hlt : k < n
    · obtain ⟨ba, oa, hae, hal, hac⟩ := HA.out.at (by rw [upFrom_len]; omega)
      subst hae
      have h1 : w.cell? ⟨ba, oa + k, none⟩ = some (.int .i64 (s + k)) := by rw [← upFrom_get s n k hlt]; exact hac k (by rw [upFrom_len]; exact hlt)
      clear hac
      go_wp2
      go_round
      case rel => exact ⟨k + 1, by omega, by go_num, by go_num⟩
      case measure => simp [intOf]; omega
    · go_wp2
      go_ret
      obtain rfl : k = n := by omega
      exact ⟨rfl, rfl⟩

end Go.Proofs.Ytafjpmlakpfidaa
