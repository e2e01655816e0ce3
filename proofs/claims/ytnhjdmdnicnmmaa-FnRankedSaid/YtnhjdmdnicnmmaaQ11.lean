/-
  Contracts of chapter 7 in the program: the tightest dot, the widest void.
-/
import Derived.Test.YtnhjdmdnicnmmaaQ10
namespace Go.Proofs.Ytnhjdmdnicnmmaa
open Go.RowKit
set_option linter.unusedVariables false
set_option linter.unusedSimpArgs false

theorem best_gen {W H : Int} {xs : List Int} {n : Nat} {key : Int → Int} {v : Int} (hn : xs.length = n) : bestTo xs v (fun j => key ((gen n (crowdG W H xs)).getD j 0)) n = bestTo xs v (fun j => key (crowdG W H xs j)) xs.length := by
  rw [hn]
  exact ((best_is xs v (fun j => key ((gen n (crowdG W H xs)).getD j 0)) n).congr (fun j hj => by simp only [gen_get _ _ _ hj])).one (best_is xs v _ n)

set_option maxHeartbeats 800000 in
theorem impl_TightestDot (W H : Int) (ad : Option Addr) (n cap : Nat) (xs : List Int) (w : World) (hn : xs.length = n) (ha : Rd w ad xs) (hl : n ≤ 9223372036854775807) :
    Calls Try.prog 14 #[.agg #[.int .i64 W, .int .i64 H, .slice ad n cap]] w fun e w' => e = .returned (.int .i64 (tightestF W H xs)) ∧ Below w.heap.size w w' := by
  have HN := Lib.hid hn
  have HA := Lib.hid ha
  clear hn ha
  go_enter Try.func14, Try.ntmps14
  go_wp2_with fail
  refine (impl_IsField _ _ _ _ _ xs _ HN.out (by exact HA.out.alloc _) hl).mono ?_
  rintro e w1 ⟨rfl, hb⟩
  have HB1 := Lib.hid ((Joins.below_alloc1 _ _).trans (hb.mono (by simp)))
  have KP1 := Lib.hid ((Blk.new w 25 #[.int .i64 W, .int .i64 H, .slice ad n cap]).below' hb)
  have RP1 := Lib.hid ((HA.out.alloc (.cells #[.int .i64 W, .int .i64 H, .slice ad n cap] 25)).below hb)
  obtain ⟨l1, c0, c1, c2⟩ := KP1.out.c3
  clear hb
  by_cases hok : fieldOk W H xs = true
  · have E : Hid (tightestF W H xs = tightF W H xs) := Lib.hid (by unfold tightestF; rw [if_pos hok])
    obtain ⟨b1, b2, b3, b4, b5, b6, b7, b8, b9⟩ := field_bd HN.out hok
    have B5 := Lib.hid b5
    have B8 := Lib.hid b8
    have B9 := Lib.hid b9
    clear b5 b8 b9
    have HOK := Lib.hid hok
    rw [hok]
    clear hok
    go_wp2_with fail
    refine (impl_crowded W H ad n cap xs _ HN.out (by exact RP1.out) HOK.out).mono ?_
    rintro e w2 ⟨f, gi, gc, rfl, hf, hb⟩
    have HF := Lib.hid hf
    have HB2 := Lib.hid (bTrans HB1.out hb)
    clear hf hb c0 c1 c2 l1
    go_wp2_with fail
    refine (impl_tightest _).mono ?_
    rintro e w3 ⟨rfl, hb⟩
    have HF3 := Lib.hid (HF.out.below hb)
    have HB3 := Lib.hid (bTrans HB2.out hb)
    clear hb
    go_wp2_with fail
    refine (impl_chosen 55 keyT 1 entT ordT HF3.out b6).mono ?_
    rintro e w4 ⟨rfl, hb⟩
    have HB4 := Lib.hid (bTrans HB3.out hb)
    clear hb
    go_wp2_with fail
    go_ret
    exact ⟨ret_int (by rw [E.out]; exact best_gen HN.out), HB4.out⟩
  · have E : Hid (tightestF W H xs = -1) := Lib.hid (by unfold tightestF; rw [if_neg hok])
    have hok2 : fieldOk W H xs = false := by simpa using hok
    rw [hok2]
    clear hok hok2
    go_wp2_with fail
    go_ret
    exact ⟨ret_int (by rw [E.out]), HB1.out⟩

set_option maxHeartbeats 800000 in
theorem impl_WidestVoid (W H : Int) (ad : Option Addr) (n cap : Nat) (xs : List Int) (w : World) (hn : xs.length = n) (ha : Rd w ad xs) (hl : n ≤ 9223372036854775807) :
    Calls Try.prog 16 #[.agg #[.int .i64 W, .int .i64 H, .slice ad n cap]] w fun e w' => e = .returned (.int .i64 (widestF W H xs)) ∧ Below w.heap.size w w' := by
  have HN := Lib.hid hn
  have HA := Lib.hid ha
  clear hn ha
  go_enter Try.func16, Try.ntmps16
  go_wp2_with fail
  refine (impl_IsField _ _ _ _ _ xs _ HN.out (by exact HA.out.alloc _) hl).mono ?_
  rintro e w1 ⟨rfl, hb⟩
  have HB1 := Lib.hid ((Joins.below_alloc1 _ _).trans (hb.mono (by simp)))
  have KP1 := Lib.hid ((Blk.new w 25 #[.int .i64 W, .int .i64 H, .slice ad n cap]).below' hb)
  have RP1 := Lib.hid ((HA.out.alloc (.cells #[.int .i64 W, .int .i64 H, .slice ad n cap] 25)).below hb)
  obtain ⟨l1, c0, c1, c2⟩ := KP1.out.c3
  clear hb
  by_cases hok : fieldOk W H xs = true
  · have E : Hid (widestF W H xs = wideF W H xs) := Lib.hid (by unfold widestF; rw [if_pos hok])
    obtain ⟨b1, b2, b3, b4, b5, b6, b7, b8, b9⟩ := field_bd HN.out hok
    have B5 := Lib.hid b5
    have B8 := Lib.hid b8
    have B9 := Lib.hid b9
    clear b5 b8 b9
    have HOK := Lib.hid hok
    rw [hok]
    clear hok
    go_wp2_with fail
    refine (impl_crowded W H ad n cap xs _ HN.out (by exact RP1.out) HOK.out).mono ?_
    rintro e w2 ⟨f, gi, gc, rfl, hf, hb⟩
    have HF := Lib.hid hf
    have HB2 := Lib.hid (bTrans HB1.out hb)
    clear hf hb c0 c1 c2 l1
    go_wp2_with fail
    refine (impl_widest _).mono ?_
    rintro e w3 ⟨rfl, hb⟩
    have HF3 := Lib.hid (HF.out.below hb)
    have HB3 := Lib.hid (bTrans HB2.out hb)
    clear hb
    go_wp2_with fail
    refine (impl_chosen 56 keyW 0 entW ordW HF3.out b6).mono ?_
    rintro e w4 ⟨rfl, hb⟩
    have HB4 := Lib.hid (bTrans HB3.out hb)
    clear hb
    go_wp2_with fail
    go_ret
    exact ⟨ret_int (by rw [E.out]; exact best_gen HN.out), HB4.out⟩
  · have E : Hid (widestF W H xs = -1) := Lib.hid (by unfold widestF; rw [if_neg hok])
    have hok2 : fieldOk W H xs = false := by simpa using hok
    rw [hok2]
    clear hok hok2
    go_wp2_with fail
    go_ret
    exact ⟨ret_int (by rw [E.out]), HB1.out⟩

end Go.Proofs.Ytnhjdmdnicnmmaa
