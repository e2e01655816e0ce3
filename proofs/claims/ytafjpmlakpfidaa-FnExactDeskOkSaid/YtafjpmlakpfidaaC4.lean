/-
  Contracts of InkAt (model), IsPlate, NegativePicture, of the program (impl) and of the model (spec).
-/
import Derived.Test.YtafjpmlakpfidaaC3
import Derived.Test.YtafjpmlakpfidaaM2
namespace Go.Proofs.Ytafjpmlakpfidaa
open Go.RowKit
set_option linter.unusedVariables false
set_option linter.unusedSimpArgs false

theorem within_le {xs : List Int} (h : within xs 1 = true) : within xs 255 = true := by
  unfold within at h ⊢
  rw [List.all_eq_true] at h ⊢
  intro x hx
  have := h x hx
  simp at this ⊢
  omega

theorem picOk_le {W H : Int} {xs : List Int} (h : picOk W H xs 1 = true) : picOk W H xs 255 = true := by
  obtain ⟨h1, h2, h3⟩ := picOk_bd rfl h
  rw [picOk_in rfl h1 h2]
  exact within_le h3

set_option maxHeartbeats 400000 in
theorem spec_IsPlate (W H : Int) (ad : Option Addr) (n cap : Nat) (xs : List Int) (w : World) (hn : xs.length = n) (ha : Rd w ad xs) (hl : n ≤ 9223372036854775807) :
    Calls Try.prog 50 #[.agg #[.int .i64 W, .int .i64 H, .slice ad n cap]] w fun e w' => e = .returned (.bool (picOk W H xs 1)) ∧ Below w.heap.size w w' := by
  have HN := Lib.hid hn
  have HA := Lib.hid ha
  clear hn ha
  go_enter Try.func50, Try.ntmps50
  go_wp2_with fail
  refine (spec_l1Up _ _ _ _ _ xs _ _ HN.out (HA.out.below (Joins.below_alloc1 _ _)) hl).mono ?_
  rintro e w' ⟨rfl, hb⟩
  have HB := Lib.hid hb
  clear hb
  go_wp2_with fail
  go_ret
  exact ⟨rfl, (Joins.below_alloc1 _ _).trans (HB.out.mono (by simp))⟩

set_option maxHeartbeats 400000 in
theorem impl_IsPlate (W H : Int) (ad : Option Addr) (n cap : Nat) (xs : List Int) (w : World) (hn : xs.length = n) (ha : Rd w ad xs) (hl : n ≤ 9223372036854775807) :
    Calls Try.prog 55 #[.agg #[.int .i64 W, .int .i64 H, .slice ad n cap]] w fun e w' => e = .returned (.bool (picOk W H xs 1)) ∧ Below w.heap.size w w' := by
  have HN := Lib.hid hn
  have HA := Lib.hid ha
  clear hn ha
  by_cases hp : picOk W H xs 255 = true
  case neg =>
    have hp2 : picOk W H xs 255 = false := by simpa using hp
    have e0 : picOk W H xs 1 = false := by
      cases h : picOk W H xs 1 with
      | false => rfl
      | true => exact absurd (picOk_le h) hp
    rw [e0]
    clear hp e0
    go_enter Try.func55, Try.ntmps55
    go_wp2_with fail
    refine (impl_IsPicture _ _ _ _ _ xs _ HN.out (by exact HA.out.alloc _) hl).mono ?_
    rintro e w1 ⟨rfl, hb⟩
    have HB1 := Lib.hid ((Joins.below_alloc1 _ _).trans (hb.mono (by simp)))
    have KP1 := Lib.hid ((Blk.new w 24 #[.int .i64 W, .int .i64 H, .slice ad n cap]).below' hb)
    obtain ⟨l1, c0, c1, c2⟩ := KP1.out.c3
    clear hb
    rw [hp2]
    go_wp2_with fail
    go_ret
    exact ⟨rfl, HB1.out⟩
  case pos =>
    obtain ⟨hs, hq, hi⟩ := picOk_bd HN.out hp
    obtain ⟨b1, b2, b3, b4, b5, b6⟩ := sizeOk_bd hs
    have HQ := Lib.hid hq
    have HI := Lib.hid hi
    have HS := Lib.hid hs
    have hn1 : 1 ≤ n := by omega
    have hn2 : n ≤ 1024 := by omega
    clear hq hi hs
    have e0 : picOk W H xs 1 = within xs 1 := picOk_in HN.out HS.out HQ.out
    rw [e0]
    clear e0
    go_enter Try.func55, Try.ntmps55
    go_wp2_with fail
    refine (impl_IsPicture _ _ _ _ _ xs _ HN.out (by exact HA.out.alloc _) hl).mono ?_
    rintro e w1 ⟨rfl, hb⟩
    have HB1 := Lib.hid ((Joins.below_alloc1 _ _).trans (hb.mono (by simp)))
    have KP1 := Lib.hid ((Blk.new w 24 #[.int .i64 W, .int .i64 H, .slice ad n cap]).below' hb)
    obtain ⟨l1, c0, c1, c2⟩ := KP1.out.c3
    clear hb
    rw [hp]
    go_wp2_with fail
    refine (impl_allWithin _ _ _ xs _ _ HN.out (by exact HA.out.below HB1.out) hl).mono ?_
    rintro e w' ⟨rfl, rfl⟩
    go_wp2_with fail
    go_ret
    exact ⟨rfl, HB1.out⟩

theorem negF_no {W H : Int} {xs : List Int} (h : ¬ picOk W H xs 255 = true) : negF W H xs = noPic := by unfold negF; rw [if_neg h]

theorem negF_1 {W H : Int} {xs : List Int} (h : picOk W H xs 1 = true) : negF W H xs = ⟨W, H, xs.map (fun v => 1 - v)⟩ := by unfold negF; rw [if_pos (picOk_le h)]; simp [h]

theorem negF_255 {W H : Int} {xs : List Int} (h : picOk W H xs 255 = true) (h2 : ¬ picOk W H xs 1 = true) : negF W H xs = ⟨W, H, xs.map (fun v => 255 - v)⟩ := by unfold negF; rw [if_pos h]; simp [h2]

end Go.Proofs.Ytafjpmlakpfidaa
