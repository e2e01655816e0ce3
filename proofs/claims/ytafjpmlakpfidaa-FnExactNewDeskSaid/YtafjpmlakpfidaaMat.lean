/-
  Contracts of the laws' own helpers over matrices.
-/
import Derived.Test.YtafjpmlakpfidaaCore
namespace Go.Proofs.Ytafjpmlakpfidaa
open Go.RowKit
set_option linter.unusedVariables false
set_option linter.unusedSimpArgs false

set_option maxHeartbeats 400000 in
theorem szMat_ok (W H : Int) (ad : Option Addr) (n cap : Nat) (L : Int) (w : World) (h1 : (n : Int) ≤ L) (h2 : L ≤ 1048576) :
    Calls Try.prog 27 #[.agg #[.int .i64 W, .int .i64 H, .slice ad n cap], .int .i64 L] w fun e w' => e = .returned (.int .i64 (L - n)) ∧ Below w.heap.size w w' := by
  go_enter Try.func27, Try.ntmps27
  go_wp2_with (go_at_call 46; refine (sz_ok _ _ _ _ _ h1 h2).mono ?_; rintro e w' ⟨rfl, rfl⟩)
  go_ret
  exact ⟨rfl, (Below.refl _ _).alloc (Nat.le_refl _) _⟩

set_option maxHeartbeats 400000 in
theorem szMat_no (W H : Int) (ad : Option Addr) (n cap : Nat) (L : Int) (w : World) (h1 : L < (n : Int)) (h0 : 0 ≤ L) (h2 : L ≤ 1048576) (h3 : n ≤ 9223372036854775807) :
    Calls Try.prog 27 #[.agg #[.int .i64 W, .int .i64 H, .slice ad n cap], .int .i64 L] w fun e w' => e = .returned (.int .i64 (-1)) ∧ Below w.heap.size w w' := by
  go_enter Try.func27, Try.ntmps27
  go_wp2_with (go_at_call 46; refine (sz_no _ _ _ _ _ h1 h0 h2 h3).mono ?_; rintro e w' ⟨rfl, rfl⟩)
  go_ret
  exact ⟨rfl, (Below.refl _ _).alloc (Nat.le_refl _) _⟩

set_option maxHeartbeats 400000 in
theorem toMat (W H : Int) (ad : Option Addr) (n cap : Nat) (xs : List Int) (w : World) (hn : xs.length = n) (ha : Rd w ad xs) (hl : n ≤ 17592186044416) :
    Calls Try.prog 33 #[.agg #[.int .i64 W, .int .i64 H, .slice ad n cap]] w fun e w' => ∃ g, e = .returned (.agg #[.int .i64 W, .int .i64 H, .slice (some ⟨g, 0, none⟩) n n]) ∧ w.heap.size ≤ g ∧ Own w' g n n xs ∧ Below w.heap.size w w' := by
  have HN := Lib.hid hn
  have HA := Lib.hid ha
  clear hn ha
  go_enter Try.func33, Try.ntmps33
  go_wp2_with fail
  refine (toInts _ _ _ xs _ HN.out (HA.out.below ?_) hl).mono ?_
  · repeat (first | with_reducible exact Below.refl _ _ | with_reducible refine Below.alloc ?_ (by simp; try omega) _)
  · rintro e w1 ⟨rfl, ho, hb⟩
    obtain ⟨hc, hf⟩ := bcell hb
    have hz := hb.size
    simp at hc hf hz
    have HO := Lib.hid ho
    have HB := Lib.hid hb
    clear ho hb
    go_wp2
    refine bodyPost_ret (v := .agg #[.int .i64 W, .int .i64 H, .slice (some ⟨w.heap.size + 3, 0, none⟩) n n]) (by simp [results, Try.results33, go_sem, hc, hz]) rfl ⟨w.heap.size + 3, rfl, by omega, ?_, ?_⟩
    · have ho := HO.out
      simp at ho
      repeat (first | with_reducible exact ho | with_reducible refine Own.other ?_ (by simp; try omega) _)
    · repeat (first | with_reducible exact Below.refl _ _ | with_reducible refine Below.alloc ?_ (by simp; try omega) _ | with_reducible refine Below.setCell ?_ (by simp; try omega) _ | with_reducible refine Below.trans ?_ (Below.mono HB.out (by simp; try omega)))

set_option maxHeartbeats 400000 in
theorem eqMat (W H W' H' : Int) (a b : Option Addr) (n m c d : Nat) (xs ys : List Int) (w : World) (hn : xs.length = n) (hm : ys.length = m) (ha : Rd w a xs) (hb : Rd w b ys) (hl : n ≤ 9223372036854775807) (hl2 : m ≤ 9223372036854775807) :
    Calls Try.prog 18 #[.agg #[.int .i64 W, .int .i64 H, .slice a n c], .agg #[.int .i64 W', .int .i64 H', .slice b m d]] w fun e w' => e = .returned (.bool (decide (W = W' ∧ H = H' ∧ xs = ys))) ∧ Below w.heap.size w w' := by
  have HN := Lib.hid hn
  have HM := Lib.hid hm
  have HA := Lib.hid ha
  have HB := Lib.hid hb
  clear hn hm ha hb
  by_cases h1 : W = W'
  case neg =>
    have hq : (W == W') = false := by simpa using h1
    have hq2 : (W != W') = true := by simpa using h1
    go_enter Try.func18, Try.ntmps18
    go_wp2_with fail
    go_ret
    exact ⟨ret_bool (by simp [h1]), Joins.below_alloc2 _ _ _⟩
  case pos =>
    subst h1
    by_cases h2 : H = H'
    case neg =>
      have hq : (H == H') = false := by simpa using h2
      have hq2 : (H != H') = true := by simpa using h2
      go_enter Try.func18, Try.ntmps18
      go_wp2_with fail
      go_ret
      exact ⟨ret_bool (by simp [h2]), Joins.below_alloc2 _ _ _⟩
    case pos =>
      subst h2
      go_enter Try.func18, Try.ntmps18
      go_wp2_with fail
      refine (eqInts a b n m c d xs ys _ HN.out HM.out (HA.out.below (Joins.below_alloc2 _ _ _)) (HB.out.below (Joins.below_alloc2 _ _ _)) hl hl2).mono ?_
      rintro e w1 ⟨rfl, q, rfl⟩
      by_cases h3 : xs = ys
      · have H3 : decide (xs = ys) = true := by simpa using h3
        rw [H3]
        have HX := Lib.hid h3
        clear h3 H3
        go_wp2_with fail
        go_ret
        exact ⟨ret_bool (by simp [HX.out]), (Joins.below_alloc2 _ _ _).trans (Joins.below_draws _ _ _)⟩
      · have H3 : decide (xs = ys) = false := by simpa using h3
        rw [H3]
        have HX := Lib.hid h3
        clear h3 H3
        go_wp2_with fail
        go_ret
        exact ⟨ret_bool (by simp [HX.out]), (Joins.below_alloc2 _ _ _).trans (Joins.below_draws _ _ _)⟩

set_option maxHeartbeats 400000 in
theorem markMat (W H : Int) (B : Nat) (ad : Option Addr) (n cap : Nat) (s : Int) (xs : List Int) (w : World) (ho : OwnA w B ad n cap xs) (h0 : 0 ≤ s) (hl : s + n ≤ 17592186044416) :
    Calls Try.prog 21 #[.agg #[.int .i64 W, .int .i64 H, .slice ad n cap], .int .i64 s] w fun e w' => e = .returned (.int .i64 (s + n)) ∧ OwnA w' B ad n cap (upFrom s n) ∧ w.grownBy w' (blockOf ad) := by
  have HO := Lib.hid ho
  clear ho
  go_enter Try.func21, Try.ntmps21
  go_wp2_with fail
  refine (markInts B ad n cap s xs _ (HO.out.alloc _) h0 hl).mono ?_
  rintro e w1 ⟨rfl, ho, hg⟩
  have HO1 := Lib.hid ho
  have HG := Lib.hid hg
  clear ho hg
  go_wp2_with fail
  go_ret
  exact ⟨rfl, HO1.out, grown_trans (World.grownBy_alloc _ _ _) HG.out⟩

set_option maxHeartbeats 400000 in
theorem heldMat (W H : Int) (ad : Option Addr) (n cap : Nat) (s : Int) (w : World) (ha : Rd w ad (upFrom s n)) (h0 : 0 ≤ s) (hl : s + n ≤ 17592186044416) :
    Calls Try.prog 24 #[.agg #[.int .i64 W, .int .i64 H, .slice ad n cap], .int .i64 s] w fun e w' => e = .returned (.int .i64 (s + n)) ∧ Below w.heap.size w w' := by
  have HA := Lib.hid ha
  clear ha
  go_enter Try.func24, Try.ntmps24
  go_wp2_with fail
  refine (heldInts ad n cap s _ (HA.out.alloc _) h0 hl).mono ?_
  rintro e w1 ⟨rfl, rfl⟩
  go_wp2_with fail
  go_ret
  exact ⟨rfl, Joins.below_alloc1 _ _⟩

end Go.Proofs.Ytafjpmlakpfidaa
