/-
  Contracts of chapter 8: ToneOf (program and model).
-/
import Derived.Test.YthokmanjiebimaaW9
namespace Go.Proofs.Ythokmanjiebimaa
open Go.RowKit
set_option linter.unusedVariables false
set_option linter.unusedSimpArgs false

set_option maxHeartbeats 800000 in
theorem spec_ToneOf (W H : Int) (ad : Option Addr) (n cap : Nat) (xs : List Int) (w : World) (hn : xs.length = n) (ha : Rd w ad xs) (hl : n ≤ 9223372036854775807) :
    Calls Try.prog 51 #[.agg #[.int .i64 W, .int .i64 H, .slice ad n cap]] w fun e w' => e = .returned (.float .f32 (toneF W H xs)) ∧ Below w.heap.size w w' := by
  have HN := Lib.hid hn
  have HA := Lib.hid ha
  clear hn ha
  by_cases hp : picOk W H xs 1 = true
  case neg =>
    have hp2 : picOk W H xs 1 = false := by simpa using hp
    have e0 : toneF W H xs = 0 := by unfold toneF; rw [if_neg hp]
    rw [e0]
    clear hp e0
    go_enter Try.func51, Try.ntmps51
    go_wp2_with fail
    refine (spec_IsPlate _ _ _ _ _ xs _ HN.out (by exact HA.out.alloc _) hl).mono ?_
    rintro e w1 ⟨rfl, hb⟩
    have HB1 := Lib.hid ((Joins.below_alloc1 _ _).trans (hb.mono (by simp)))
    clear hb
    rw [hp2]
    go_wp2_with fail
    go_ret
    exact ⟨rfl, HB1.out⟩
  case pos =>
    have HP := Lib.hid hp
    have e0 : toneF W H xs = toneB (isum xs) (n : Int) := by unfold toneF; rw [if_pos hp, HN.out]
    rw [e0]
    clear e0
    obtain ⟨hs, hq, hi⟩ := picOk_bd HN.out hp
    obtain ⟨b1, b2, b3, b4, b5, b6⟩ := sizeOk_bd hs
    have HQ := Lib.hid hq
    have HI := Lib.hid hi
    have HS := Lib.hid hs
    have hn1 : 1 ≤ n := by omega
    have hn2 : n ≤ 1024 := by omega
    clear hq hi hs
    obtain ⟨s0, s1⟩ := gain_small (W := W) (H := H) HN.out HI.out hn2
    have S1 : Hid (sumF W H xs = isum xs) := Lib.hid (by unfold sumF; rw [if_pos (picOk_le HP.out)])
    obtain ⟨B, hB⟩ : ∃ B, isum xs = B := ⟨_, rfl⟩
    rw [hB] at S1 s0 s1 ⊢
    have hq := fun w : World => run_float_arith (P := Try.prog) w .quo 57 .f32 _ _ _ (tone_div (n := (n : Int)) s0 s1 (by omega) (by omega))
    obtain ⟨R, hR⟩ : ∃ R, toneB B (n : Int) = R := ⟨_, rfl⟩
    rw [hR] at hq ⊢
    clear hB hR
    go_enter Try.func51, Try.ntmps51
    go_wp2_with fail
    refine (spec_IsPlate _ _ _ _ _ xs _ HN.out (by exact HA.out.alloc _) hl).mono ?_
    rintro e w1 ⟨rfl, hb⟩
    have HB1 := Lib.hid ((Joins.below_alloc1 _ _).trans (hb.mono (by simp)))
    have KP1 := Lib.hid ((Blk.new w 44 #[.int .i64 W, .int .i64 H, .slice ad n cap]).below' hb)
    obtain ⟨l1, c0, c1, c2⟩ := KP1.out.c3
    clear hb
    rw [hp]
    go_wp2_with fail
    have HAw := Lib.hid (HA.out.below HB1.out)
    have MK : Hid (∀ v, BelowL w1 v → v.cell? ⟨w.heap.size, 0, none⟩ = some (.int .i64 W) ∧ v.cell? ⟨w.heap.size, 1, none⟩ = some (.int .i64 H) ∧ v.cell? ⟨w.heap.size, 2, none⟩ = some (.slice ad n cap) ∧ BelowL w1 v) := Lib.hid (fun v hB => ⟨(hB.out.cell l1).trans c0, (hB.out.cell l1).trans c1, (hB.out.cell l1).trans c2, hB⟩)
    go_region_held3 (fun v => v.cell? ⟨w.heap.size, 0, none⟩ = some (.int .i64 W) ∧ v.cell? ⟨w.heap.size, 1, none⟩ = some (.int .i64 H) ∧ v.cell? ⟨w.heap.size, 2, none⟩ = some (.slice ad n cap) ∧ BelowL w1 v)
      (first | exact MK.out _ hb2 | exact MK.out _ (BelowL.start _))
      (first
        | (go_at_call 73; ((with_reducible refine (spec_SumInk W H ad n cap xs _ HN.out (by exact HAw.out.below (BelowL.out (limb4 (by assumption)))) hl).mono ?_); rintro e v2 ⟨he, hq2⟩; (rw [S1.out] at he); subst he; have hb2 := BelowL.call (limb4 (by assumption)) hq2)))
    all_goals
      go_wp2_with fail
      go_ret
      exact ⟨rfl, bTrans HB1.out hb2.out⟩

set_option maxHeartbeats 800000 in
theorem impl_ToneOf (W H : Int) (ad : Option Addr) (n cap : Nat) (xs : List Int) (w : World) (hn : xs.length = n) (ha : Rd w ad xs) (hl : n ≤ 9223372036854775807) :
    Calls Try.prog 52 #[.agg #[.int .i64 W, .int .i64 H, .slice ad n cap]] w fun e w' => e = .returned (.float .f32 (toneF W H xs)) ∧ Below w.heap.size w w' := by
  have HN := Lib.hid hn
  have HA := Lib.hid ha
  clear hn ha
  by_cases hp : picOk W H xs 1 = true
  case neg =>
    have hp2 : picOk W H xs 1 = false := by simpa using hp
    have e0 : toneF W H xs = 0 := by unfold toneF; rw [if_neg hp]
    rw [e0]
    clear hp e0
    go_enter Try.func52, Try.ntmps52
    go_wp2_with fail
    refine (impl_IsPlate _ _ _ _ _ xs _ HN.out (by exact HA.out.alloc _) hl).mono ?_
    rintro e w1 ⟨rfl, hb⟩
    have HB1 := Lib.hid ((Joins.below_alloc1 _ _).trans (hb.mono (by simp)))
    clear hb
    rw [hp2]
    go_wp2_with fail
    go_ret
    exact ⟨rfl, HB1.out⟩
  case pos =>
    have HP := Lib.hid hp
    have e0 : toneF W H xs = toneB (isum xs) (n : Int) := by unfold toneF; rw [if_pos hp, HN.out]
    rw [e0]
    clear e0
    obtain ⟨hs, hq, hi⟩ := picOk_bd HN.out hp
    obtain ⟨b1, b2, b3, b4, b5, b6⟩ := sizeOk_bd hs
    have HQ := Lib.hid hq
    have HI := Lib.hid hi
    have HS := Lib.hid hs
    have hn1 : 1 ≤ n := by omega
    have hn2 : n ≤ 1024 := by omega
    clear hq hi hs
    obtain ⟨s0, s1⟩ := gain_small (W := W) (H := H) HN.out HI.out hn2
    have S1 : Hid (sumF W H xs = isum xs) := Lib.hid (by unfold sumF; rw [if_pos (picOk_le HP.out)])
    obtain ⟨B, hB⟩ : ∃ B, isum xs = B := ⟨_, rfl⟩
    rw [hB] at S1 s0 s1 ⊢
    have hq := fun w : World => run_float_arith (P := Try.prog) w .quo 57 .f32 _ _ _ (tone_div (n := (n : Int)) s0 s1 (by omega) (by omega))
    obtain ⟨R, hR⟩ : ∃ R, toneB B (n : Int) = R := ⟨_, rfl⟩
    rw [hR] at hq ⊢
    clear hB hR
    go_enter Try.func52, Try.ntmps52
    go_wp2_with fail
    refine (impl_IsPlate _ _ _ _ _ xs _ HN.out (by exact HA.out.alloc _) hl).mono ?_
    rintro e w1 ⟨rfl, hb⟩
    have HB1 := Lib.hid ((Joins.below_alloc1 _ _).trans (hb.mono (by simp)))
    have KP1 := Lib.hid ((Blk.new w 44 #[.int .i64 W, .int .i64 H, .slice ad n cap]).below' hb)
    obtain ⟨l1, c0, c1, c2⟩ := KP1.out.c3
    clear hb
    rw [hp]
    go_wp2_with fail
    have HAw := Lib.hid (HA.out.below HB1.out)
    have MK : Hid (∀ v, BelowL w1 v → v.cell? ⟨w.heap.size, 0, none⟩ = some (.int .i64 W) ∧ v.cell? ⟨w.heap.size, 1, none⟩ = some (.int .i64 H) ∧ v.cell? ⟨w.heap.size, 2, none⟩ = some (.slice ad n cap) ∧ BelowL w1 v) := Lib.hid (fun v hB => ⟨(hB.out.cell l1).trans c0, (hB.out.cell l1).trans c1, (hB.out.cell l1).trans c2, hB⟩)
    go_region_held3 (fun v => v.cell? ⟨w.heap.size, 0, none⟩ = some (.int .i64 W) ∧ v.cell? ⟨w.heap.size, 1, none⟩ = some (.int .i64 H) ∧ v.cell? ⟨w.heap.size, 2, none⟩ = some (.slice ad n cap) ∧ BelowL w1 v)
      (first | exact MK.out _ hb2 | exact MK.out _ (BelowL.start _))
      (first
        | (go_at_call 66; ((with_reducible refine (impl_SumInk W H ad n cap xs _ HN.out (by exact HAw.out.below (BelowL.out (limb4 (by assumption)))) hl).mono ?_); rintro e v2 ⟨he, hq2⟩; (rw [S1.out] at he); subst he; have hb2 := BelowL.call (limb4 (by assumption)) hq2)))
    all_goals
      go_wp2_with fail
      go_ret
      exact ⟨rfl, bTrans HB1.out hb2.out⟩

theorem tone_wide (W H : Int) (xs : List Int) : floatToFloatBits .f32 (toneF W H xs) .f64 = some ((floatToFloatBits .f32 (toneF W H xs) .f64).getD 0) := by
  refine wide_some ?_
  unfold toneF
  split
  · rename_i h
    obtain ⟨h1, h2, h3⟩ := picOk_bd rfl h
    obtain ⟨b1, b2, b3, b4, b5, b6⟩ := sizeOk_bd h1
    obtain ⟨s0, s1⟩ := gain_small (W := W) (H := H) (xs := xs) rfl h3 (by omega)
    exact tone_num s0 s1 (by omega) (by omega)
  · left
    exact ⟨false, 0, -149, by decide +kernel⟩

theorem tone_conv (W H : Int) (xs : List Int) : ∀ w : World, (convert 57 60 (.float .f32 (toneF W H xs))).run Try.prog w = .ok (.float .f64 ((floatToFloatBits .f32 (toneF W H xs) .f64).getD 0)) w :=
  fun w => run_convert_float_float w _ _ _ _ _ _ (by rw [Try.underlying57]; rfl) Try.underlying60 (tone_wide W H xs)

end Go.Proofs.Ythokmanjiebimaa
