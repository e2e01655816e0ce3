/-
  Contracts of the laws' own helpers over pictures.
-/
import Derived.Test.YtipcahcljfheaaaCore
namespace Go.Proofs.Ytipcahcljfheaaa
open Go.RowKit
set_option linter.unusedVariables false
set_option linter.unusedSimpArgs false

set_option maxHeartbeats 400000 in
theorem eqPic (W H W' H' : Int) (a b : Option Addr) (n m c d : Nat) (xs ys : List Int) (w : World) (hn : xs.length = n) (hm : ys.length = m) (ha : Rd w a xs) (hb : Rd w b ys) (hl : n ≤ 9223372036854775807) (hl2 : m ≤ 9223372036854775807) :
    Calls Try.prog 18 #[.agg #[.int .i64 W, .int .i64 H, .slice a n c], .agg #[.int .i64 W', .int .i64 H', .slice b m d]] w fun e w' => e = .returned (.bool (decide (W = W' ∧ H = H' ∧ xs = ys))) ∧ Below w.heap.size w w' := by
  have HN := Lib.hid hn
  have HM := Lib.hid hm
  have HA := Lib.hid ha
  have HB := Lib.hid hb
  clear hn hm ha hb
  by_cases h1 : W = W'
  case neg =>
    have hq : (W == W') = false := by simpa using h1
    have hq2 : (W != W') = true := by simpa using h1
    go_enter Try.func18, Try.ntmps18
    go_wp2_with fail
    go_ret
    exact ⟨ret_bool (by simp [h1]), Joins.below_alloc2 _ _ _⟩
  case pos =>
    subst h1
    by_cases h2 : H = H'
    case neg =>
      have hq : (H == H') = false := by simpa using h2
      have hq2 : (H != H') = true := by simpa using h2
      go_enter Try.func18, Try.ntmps18
      go_wp2_with fail
      go_ret
      exact ⟨ret_bool (by simp [h2]), Joins.below_alloc2 _ _ _⟩
    case pos =>
      subst h2
      go_enter Try.func18, Try.ntmps18
      go_wp2_with fail
      refine (eqInts a b n m c d xs ys _ HN.out HM.out (HA.out.below (Joins.below_alloc2 _ _ _)) (HB.out.below (Joins.below_alloc2 _ _ _)) hl hl2).mono ?_
      rintro e w1 ⟨rfl, q, rfl⟩
      by_cases h3 : xs = ys
      · have H3 : decide (xs = ys) = true := by simpa using h3
        rw [H3]
        have HX := Lib.hid h3
        clear h3 H3
        go_wp2_with fail
        go_ret
        exact ⟨ret_bool (by simp [HX.out]), (Joins.below_alloc2 _ _ _).trans (Joins.below_draws _ _ _)⟩
      · have H3 : decide (xs = ys) = false := by simpa using h3
        rw [H3]
        have HX := Lib.hid h3
        clear h3 H3
        go_wp2_with fail
        go_ret
        exact ⟨ret_bool (by simp [HX.out]), (Joins.below_alloc2 _ _ _).trans (Joins.below_draws _ _ _)⟩

set_option maxHeartbeats 400000 in
theorem markPic (W H : Int) (B : Nat) (ad : Option Addr) (n cap : Nat) (s : Int) (xs : List Int) (w : World) (ho : OwnA w B ad n cap xs) (h0 : 0 ≤ s) (hl : s + n ≤ 17592186044416) :
    Calls Try.prog 19 #[.agg #[.int .i64 W, .int .i64 H, .slice ad n cap], .int .i64 s] w fun e w' => e = .returned (.int .i64 (s + n)) ∧ OwnA w' B ad n cap (upFrom s n) ∧ w.grownBy w' (blockOf ad) := by
  have HO := Lib.hid ho
  clear ho
  go_enter Try.func19, Try.ntmps19
  go_wp2_with fail
  refine (markInts B ad n cap s xs _ (HO.out.alloc _) h0 hl).mono ?_
  rintro e w1 ⟨rfl, ho, hg⟩
  have HO1 := Lib.hid ho
  have HG := Lib.hid hg
  clear ho hg
  go_wp2_with fail
  go_ret
  exact ⟨rfl, HO1.out, grown_trans (World.grownBy_alloc _ _ _) HG.out⟩

set_option maxHeartbeats 400000 in
theorem heldPic (W H : Int) (ad : Option Addr) (n cap : Nat) (s : Int) (w : World) (ha : Rd w ad (upFrom s n)) (h0 : 0 ≤ s) (hl : s + n ≤ 17592186044416) :
    Calls Try.prog 20 #[.agg #[.int .i64 W, .int .i64 H, .slice ad n cap], .int .i64 s] w fun e w' => e = .returned (.int .i64 (s + n)) ∧ Below w.heap.size w w' := by
  have HA := Lib.hid ha
  clear ha
  go_enter Try.func20, Try.ntmps20
  go_wp2_with fail
  refine (heldInts ad n cap s _ (HA.out.alloc _) h0 hl).mono ?_
  rintro e w1 ⟨rfl, rfl⟩
  go_wp2_with fail
  go_ret
  exact ⟨rfl, Joins.below_alloc1 _ _⟩

end Go.Proofs.Ytipcahcljfheaaa
