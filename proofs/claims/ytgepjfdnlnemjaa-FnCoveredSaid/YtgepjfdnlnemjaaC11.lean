/-
  Contract of SamePicture (program).
-/
import Derived.Test.YtgepjfdnlnemjaaC10
namespace Go.Proofs.Ytgepjfdnlnemjaa
open Go.RowKit
set_option linter.unusedVariables false
set_option linter.unusedSimpArgs false

set_option maxHeartbeats 1600000 in
theorem impl_SamePicture (W H : Int) (ad : Option Addr) (n cap : Nat) (xs : List Int) (W' H' : Int) (ad' : Option Addr) (n' cap' : Nat) (ys : List Int) (w : World)
    (hn : xs.length = n) (ha : Rd w ad xs) (hl : n ≤ 9223372036854775807) (hn' : ys.length = n') (ha' : Rd w ad' ys) (hl' : n' ≤ 9223372036854775807) :
    Calls Try.prog 37 #[.agg #[.int .i64 W, .int .i64 H, .slice ad n cap], .agg #[.int .i64 W', .int .i64 H', .slice ad' n' cap']] w fun e w' => e = .returned (.bool (decide (W = W' ∧ H = H' ∧ xs = ys))) ∧ Below w.heap.size w w' := by
  have HN := Lib.hid hn
  have HA := Lib.hid ha
  have HN' := Lib.hid hn'
  have HA' := Lib.hid ha'
  clear hn ha hn' ha'
  have p0 : ((w.alloc (.cells #[.int .i64 W, .int .i64 H, .slice ad n cap] 30)).alloc (.cells #[.int .i64 W', .int .i64 H', .slice ad' n' cap'] 30)).cell? ⟨w.heap.size, 0, none⟩ = some (.int .i64 W) := by go_simp
  have p1 : ((w.alloc (.cells #[.int .i64 W, .int .i64 H, .slice ad n cap] 30)).alloc (.cells #[.int .i64 W', .int .i64 H', .slice ad' n' cap'] 30)).cell? ⟨w.heap.size, 1, none⟩ = some (.int .i64 H) := by go_simp
  have p2 : ((w.alloc (.cells #[.int .i64 W, .int .i64 H, .slice ad n cap] 30)).alloc (.cells #[.int .i64 W', .int .i64 H', .slice ad' n' cap'] 30)).cell? ⟨w.heap.size, 2, none⟩ = some (.slice ad n cap) := by go_simp
  have q0 : ((w.alloc (.cells #[.int .i64 W, .int .i64 H, .slice ad n cap] 30)).alloc (.cells #[.int .i64 W', .int .i64 H', .slice ad' n' cap'] 30)).cell? ⟨w.heap.size + 1, 0, none⟩ = some (.int .i64 W') := by go_simp
  have q1 : ((w.alloc (.cells #[.int .i64 W, .int .i64 H, .slice ad n cap] 30)).alloc (.cells #[.int .i64 W', .int .i64 H', .slice ad' n' cap'] 30)).cell? ⟨w.heap.size + 1, 1, none⟩ = some (.int .i64 H') := by go_simp
  have q2 : ((w.alloc (.cells #[.int .i64 W, .int .i64 H, .slice ad n cap] 30)).alloc (.cells #[.int .i64 W', .int .i64 H', .slice ad' n' cap'] 30)).cell? ⟨w.heap.size + 1, 2, none⟩ = some (.slice ad' n' cap') := by go_simp
  have l1 : w.heap.size < ((w.alloc (.cells #[.int .i64 W, .int .i64 H, .slice ad n cap] 30)).alloc (.cells #[.int .i64 W', .int .i64 H', .slice ad' n' cap'] 30)).heap.size := by simp; omega
  have m1 : w.heap.size + 1 < ((w.alloc (.cells #[.int .i64 W, .int .i64 H, .slice ad n cap] 30)).alloc (.cells #[.int .i64 W', .int .i64 H', .slice ad' n' cap'] 30)).heap.size := by simp
  by_cases hs : W = W' ∧ H = H'
  case neg =>
    have hae := arr_eq W H W' H' false (by rw [Bool.and_eq_false_iff, beq_eq_false_iff_ne, beq_eq_false_iff_ne]; exact Decidable.not_and_iff_or_not.1 hs)
    have HF : Hid (decide (W = W' ∧ H = H' ∧ xs = ys) = false) := Lib.hid (decide_eq_false (fun h => hs ⟨h.1, h.2.1⟩))
    clear hs
    go_enter Try.func37, Try.ntmps37
    go_wp2_with fail
    first
      | go_region_with (first
              | (go_simp; go_at_call 68; (with_reducible refine (impl_sidesOf W H ad n cap _).mono ?_); rintro e v1 ⟨rfl, hb1⟩; have u0 := (hb1.cell l1).trans p0; have u1 := (hb1.cell l1).trans p1; have u2 := (hb1.cell l1).trans p2; have u3 := (hb1.cell m1).trans q0; have u4 := (hb1.cell m1).trans q1; have u5 := (hb1.cell m1).trans q2)
              | (go_simp; go_at_call 68; (with_reducible refine (impl_sidesOf W' H' ad' n' cap' _).mono ?_); rintro e v2 ⟨rfl, hb2⟩))
      | fail
    all_goals go_wp2_with fail
    all_goals go_ret
    all_goals exact ⟨ret_bool HF.out.symm, (bTrans (bTrans (bAlloc (bAlloc (Below.refl _ _) _) _).drew hb1) hb2)⟩
  case pos =>
    have hae := arr_eq W H W' H' true (by simp [hs.1, hs.2])
    have HF : Hid (decide (W = W' ∧ H = H' ∧ xs = ys) = decide (xs = ys)) := Lib.hid (by simp [hs.1, hs.2])
    clear hs
    go_enter Try.func37, Try.ntmps37
    go_wp2_with fail
    go_region_held3 (fun v => v.cell? ⟨w.heap.size, 0, none⟩ = some (.int .i64 W) ∧ v.cell? ⟨w.heap.size, 1, none⟩ = some (.int .i64 H) ∧ v.cell? ⟨w.heap.size, 2, none⟩ = some (.slice ad n cap) ∧ v.cell? ⟨w.heap.size + 1, 0, none⟩ = some (.int .i64 W') ∧ v.cell? ⟨w.heap.size + 1, 1, none⟩ = some (.int .i64 H') ∧ v.cell? ⟨w.heap.size + 1, 2, none⟩ = some (.slice ad' n' cap'))
      (first | exact ⟨p0, p1, p2, q0, q1, q2⟩ | exact ⟨(hb1.cell l1).trans p0, (hb1.cell l1).trans p1, (hb1.cell l1).trans p2, (hb1.cell m1).trans q0, (hb1.cell m1).trans q1, (hb1.cell m1).trans q2⟩ | exact ⟨(hb2.cell (Nat.lt_of_lt_of_le l1 hb1.size)).trans ((hb1.cell l1).trans p0), (hb2.cell (Nat.lt_of_lt_of_le l1 hb1.size)).trans ((hb1.cell l1).trans p1), (hb2.cell (Nat.lt_of_lt_of_le l1 hb1.size)).trans ((hb1.cell l1).trans p2), (hb2.cell (Nat.lt_of_lt_of_le m1 hb1.size)).trans ((hb1.cell m1).trans q0), (hb2.cell (Nat.lt_of_lt_of_le m1 hb1.size)).trans ((hb1.cell m1).trans q1), (hb2.cell (Nat.lt_of_lt_of_le m1 hb1.size)).trans ((hb1.cell m1).trans q2)⟩ | exact ⟨(hb3.cell (Nat.lt_of_lt_of_le (Nat.lt_of_lt_of_le l1 hb1.size) hb2.size)).trans ((hb2.cell (Nat.lt_of_lt_of_le l1 hb1.size)).trans ((hb1.cell l1).trans p0)), (hb3.cell (Nat.lt_of_lt_of_le (Nat.lt_of_lt_of_le l1 hb1.size) hb2.size)).trans ((hb2.cell (Nat.lt_of_lt_of_le l1 hb1.size)).trans ((hb1.cell l1).trans p1)), (hb3.cell (Nat.lt_of_lt_of_le (Nat.lt_of_lt_of_le l1 hb1.size) hb2.size)).trans ((hb2.cell (Nat.lt_of_lt_of_le l1 hb1.size)).trans ((hb1.cell l1).trans p2)), (hb3.cell (Nat.lt_of_lt_of_le (Nat.lt_of_lt_of_le m1 hb1.size) hb2.size)).trans ((hb2.cell (Nat.lt_of_lt_of_le m1 hb1.size)).trans ((hb1.cell m1).trans q0)), (hb3.cell (Nat.lt_of_lt_of_le (Nat.lt_of_lt_of_le m1 hb1.size) hb2.size)).trans ((hb2.cell (Nat.lt_of_lt_of_le m1 hb1.size)).trans ((hb1.cell m1).trans q1)), (hb3.cell (Nat.lt_of_lt_of_le (Nat.lt_of_lt_of_le m1 hb1.size) hb2.size)).trans ((hb2.cell (Nat.lt_of_lt_of_le m1 hb1.size)).trans ((hb1.cell m1).trans q2))⟩)
      (first
        | (go_at_call 68; (with_reducible refine (impl_sidesOf W H ad n cap _).mono ?_); rintro e v1 ⟨rfl, hb1⟩)
        | (go_at_call 68; (with_reducible refine (impl_sidesOf W' H' ad' n' cap' _).mono ?_); rintro e v2 ⟨rfl, hb2⟩)
        | (go_at_call 69; (with_reducible refine (lib_Equal ad ad' n n' cap cap' xs ys _ HN.out HN'.out (by exact (((HA.out.alloc _).alloc _).drew.below hb1).below hb2) (by exact (((HA'.out.alloc _).alloc _).drew.below hb1).below hb2) hl hl').mono ?_); rintro e v3 ⟨rfl, hb3⟩))
    go_wp2_with fail
    go_ret
    exact ⟨ret_bool HF.out.symm, (bTrans (bTrans (bTrans (bAlloc (bAlloc (Below.refl _ _) _) _).drew hb1) hb2) hb3)⟩

end Go.Proofs.Ytgepjfdnlnemjaa
