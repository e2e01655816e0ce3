/-
  Contracts of SamePicture, CoversPicture, AddPictures and their helpers (program and model).
-/
import Derived.Test.YtkjhpfgcmbigfaaC3
import Derived.Deep.RegionHeld3
namespace Go.Proofs.Ytkjhpfgcmbigfaa
open Go.RowKit
set_option linter.unusedVariables false
set_option linter.unusedSimpArgs false

set_option maxHeartbeats 400000 in
theorem lib_Equal (a b : Option Addr) (n m c d : Nat) (xs ys : List Int) (w : World) (hn : xs.length = n) (hm : ys.length = m) (ha : Rd w a xs) (hb : Rd w b ys) (hl : n ≤ 9223372036854775807) (hl2 : m ≤ 9223372036854775807) :
    Calls Try.prog 60 #[.slice a n c, .slice b m d] w fun e w' => e = .returned (.bool (decide (xs = ys))) ∧ Below w.heap.size w w' := by
  by_cases hnm : n = m
  case neg =>
    have H : Hid (¬ xs = ys) := fun h => hnm (by rw [← hn, ← hm, h])
    have hq : ((n : Int) == (m : Int)) = false := by simp; omega
    have hq2 : ((n : Int) != (m : Int)) = true := by simp; omega
    have HN := Lib.hid hn
    have HM := Lib.hid hm
    have HA := Lib.hid ha
    have HB := Lib.hid hb
    clear hn hm hnm ha hb
    go_enter Try.func60, Try.ntmps60
    go_wp2
    go_ret
    exact ⟨by simp [H.out], Below.refl _ _⟩
  case pos =>
    subst hnm
    have HN := Lib.hid hn
    have HM := Lib.hid hm
    have HA := Lib.hid ha
    have HB := Lib.hid hb
    clear hn hm ha hb
    go_enter Try.func60, Try.ntmps60
    go_wp2
    go_loopw [13] (fun i wr => ∃ k : Nat, k ≤ n ∧ i = .int .i64 k ∧ Hid (xs.take k = ys.take k) ∧ ∃ q, wr = w.drewN q) (fun i _ => n - (intOf i).toNat)
    case atStart => exact ⟨0, Nat.zero_le _, rfl, rfl, 0, rfl⟩
    case round =>
      obtain ⟨k, hk, rfl, HT, q, rfl⟩ := hrel
      by_cases hlt : k < n
      · obtain ⟨ba, oa, hae, hal, hac⟩ := HA.out.at (by have := HN.out; omega)
        obtain ⟨bb, ob, hbe, hbl, hbc⟩ := HB.out.at (by have := HM.out; omega)
        subst hae hbe
        have h1 : w.cell? ⟨ba, oa + k, none⟩ = some (.int .i64 (xs.getD k 0)) := hac k (by have := HN.out; omega)
        have h2 : w.cell? ⟨bb, ob + k, none⟩ = some (.int .i64 (ys.getD k 0)) := hbc k (by have := HM.out; omega)
        clear hac hbc
        go_wp2
        go_quiet (fail)
        go_wp2
        · have hne : (xs[k]?.getD 0 != ys[k]?.getD 0) = true := by assumption
          go_ret
          refine ⟨ret_bool ?_, (Joins.below_draws _ _ _).trans (Joins.below_draws _ _ _)⟩
          symm; rw [decide_eq_false_iff_not]
          intro h; subst h; simp at hne
        · have hne : (xs[k]?.getD 0 != ys[k]?.getD 0) = false := by assumption
          go_roundw
          case rel => exact ⟨k + 1, by omega, by go_num, take_succ_eq (by have := HN.out; omega) (by have := HM.out; omega) HT.out (by simpa using hne), (by first | exact draws1 _ _ | exact draws2 _ _ _)⟩
          case measure => simp [intOf]; omega
      · go_wp2
        go_ret
        refine ⟨ret_bool ?_, Joins.below_draws _ _ _⟩
        symm; rw [decide_eq_true_iff]
        have h := HT.out
        rwa [List.take_of_length_le (by have := HN.out; omega), List.take_of_length_le (by have := HM.out; omega)] at h

theorem pairOk_no1 {W H W' H' : Int} {xs ys : List Int} (h : ¬ picOk W H xs 255 = true) : pairOk W H xs W' H' ys = false := by unfold pairOk; simp [h]

theorem pairOk_no2 {W H W' H' : Int} {xs ys : List Int} (h : ¬ picOk W' H' ys 255 = true) : pairOk W H xs W' H' ys = false := by unfold pairOk; simp [h]

theorem pairOk_no3 {W H W' H' : Int} {xs ys : List Int} (h : ¬ (W = W' ∧ H = H')) : pairOk W H xs W' H' ys = false := by unfold pairOk; rw [decide_eq_false h]; simp

theorem pairOk_yes {W H W' H' : Int} {xs ys : List Int} (h : picOk W H xs 255 = true) (h2 : picOk W' H' ys 255 = true) (h3 : W = W' ∧ H = H') : pairOk W H xs W' H' ys = true := by unfold pairOk; rw [h, h2, decide_eq_true h3]; rfl

set_option maxHeartbeats 400000 in
theorem impl_sidesOf (W H : Int) (ad : Option Addr) (n cap : Nat) (w : World) :
    Calls Try.prog 48 #[.agg #[.int .i64 W, .int .i64 H, .slice ad n cap]] w fun e w' => e = .returned (.agg #[.int .i64 W, .int .i64 H]) ∧ Below w.heap.size w w' := by
  go_enter Try.func48, Try.ntmps48
  go_wp2_with fail
  exact bodyPost_ret (v := .agg #[.int .i64 W, .int .i64 H]) (by simp [results, Try.results48, go_sem]) rfl ⟨rfl, Joins.below_alloc2 _ _ _⟩

end Go.Proofs.Ytkjhpfgcmbigfaa
