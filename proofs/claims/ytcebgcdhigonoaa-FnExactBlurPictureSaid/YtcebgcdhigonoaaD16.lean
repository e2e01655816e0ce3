/-
  Contracts of chapter 4: ScreenShifted (program and model).
-/
import Derived.Test.YtcebgcdhigonoaaD15
namespace Go.Proofs.Ytcebgcdhigonoaa
open Go.RowKit
set_option linter.unusedVariables false
set_option linter.unusedSimpArgs false

theorem box3 (w : World) (T1 T2 T3 : Nat) (A B C : Array Value) :
    Blk (((w.alloc (.cells A T1)).alloc (.cells B T2)).alloc (.cells C T3)) w.heap.size T1 A ∧
    Blk (((w.alloc (.cells A T1)).alloc (.cells B T2)).alloc (.cells C T3)) (w.heap.size + 1) T2 B ∧
    Blk (((w.alloc (.cells A T1)).alloc (.cells B T2)).alloc (.cells C T3)) (w.heap.size + 1 + 1) T3 C ∧
    Below w.heap.size w (((w.alloc (.cells A T1)).alloc (.cells B T2)).alloc (.cells C T3)) :=
  ⟨((Blk.new w T1 A).alloc _).alloc _, (Blk.new' (g := w.heap.size + 1) T2 B (by simp)).alloc _, Blk.new' (g := w.heap.size + 1 + 1) T3 C (by simp), bAlloc (bAlloc (bAlloc (Below.refl _ _) _) _) _⟩

set_option maxRecDepth 100000 in
set_option maxHeartbeats 1600000 in
theorem impl_ScreenShifted (W H : Int) (ad : Option Addr) (n cap : Nat) (xs : List Int) (W' H' : Int) (ad' : Option Addr) (n' cap' : Nat) (ys : List Int) (dx dy : Int) (w : World)
    (hn : xs.length = n) (ha : Rd w ad xs) (hl : n ≤ 9223372036854775807) (hn' : ys.length = n') (ha' : Rd w ad' ys) (hl' : n' ≤ 9223372036854775807) :
    Calls Try.prog 41 #[.agg #[.int .i64 W, .int .i64 H, .slice ad n cap], .agg #[.int .i64 W', .int .i64 H', .slice ad' n' cap'], .int .i64 dx, .int .i64 dy] w (PicOut w (screenShiftF W H xs W' H' ys dx dy)) := by
  have HN := Lib.hid hn
  have HA := Lib.hid ha
  have HN' := Lib.hid hn'
  have HA' := Lib.hid ha'
  clear hn ha hn' ha'
  unfold screenShiftF
  obtain ⟨K1, K2, K3, B0⟩ := box3 w 27 32 32 #[.int .i64 W, .int .i64 H, .slice ad n cap] #[.int .i64 W', .int .i64 H', .slice ad' n' cap'] #[.int .i64 0, .int .i64 0, .slice none 0 0]
  have KP1 := Lib.hid K1
  have KQ1 := Lib.hid K2
  have KR1 := Lib.hid K3
  have HB1 := Lib.hid B0
  clear K1 K2 K3 B0
  obtain ⟨l1, c0, c1, c2⟩ := KP1.out.c3
  obtain ⟨n1, g0, g1, g2⟩ := KQ1.out.c3
  have m1 := KR1.out.lt
  have NP : w.heap.size + 1 + 1 ≠ w.heap.size := by omega
  have NQ : w.heap.size + 1 + 1 ≠ w.heap.size + 1 := by omega
  go_enter Try.func41, Try.ntmps41
  go_wp2_with fail
  go_region_held3 (fun v => v.cell? ⟨w.heap.size, 0, none⟩ = some (.int .i64 W) ∧ v.cell? ⟨w.heap.size, 1, none⟩ = some (.int .i64 H) ∧ v.cell? ⟨w.heap.size, 2, none⟩ = some (.slice ad n cap) ∧ v.cell? ⟨w.heap.size + 1, 0, none⟩ = some (.int .i64 W') ∧ v.cell? ⟨w.heap.size + 1, 1, none⟩ = some (.int .i64 H') ∧ v.cell? ⟨w.heap.size + 1, 2, none⟩ = some (.slice ad' n' cap'))
    (first | exact ⟨c0, c1, c2, g0, g1, g2⟩ | exact ⟨y0, y1, y2, y3, y4, y5⟩ | exact ⟨z0, z1, z2, z3, z4, z5⟩ | exact ⟨cell_far (cell_far (cell_far z0 NP) NP) NP, cell_far (cell_far (cell_far z1 NP) NP) NP, cell_far (cell_far (cell_far z2 NP) NP) NP, cell_far (cell_far (cell_far z3 NQ) NQ) NQ, cell_far (cell_far (cell_far z4 NQ) NQ) NQ, cell_far (cell_far (cell_far z5 NQ) NQ) NQ⟩)
    (first
      | (go_at_call 78; ((with_reducible refine (impl_ShiftMatrix W H ad n cap xs dx dy _ HN.out (by exact (HA.out.below HB1.out).drew) hl).mono ?_); rintro e v1 ⟨a1, q1, k1, rfl, ho1, hn1, hq1⟩; have y0 := (hq1.cell l1).trans c0; have y1 := (hq1.cell l1).trans c1; have y2 := (hq1.cell l1).trans c2; have y3 := (hq1.cell n1).trans g0; have y4 := (hq1.cell n1).trans g1; have y5 := (hq1.cell n1).trans g2))
      | (go_at_call 28; ((with_reducible refine (impl_ScreenPicture _ _ _ q1 _ _ W' H' ad' n' cap' ys _ ho1.len (by exact ho1.rd) (by omega) HN'.out (by exact ((HA'.out.below HB1.out).drew).below hq1) hl').mono ?_); rintro e v2 ⟨a2, n2, c2', rfl, ho2, hn2, hq2⟩; have z0 := (hq2.cell (Nat.lt_of_lt_of_le l1 hq1.size)).trans y0; have z1 := (hq2.cell (Nat.lt_of_lt_of_le l1 hq1.size)).trans y1; have z2 := (hq2.cell (Nat.lt_of_lt_of_le l1 hq1.size)).trans y2; have z3 := (hq2.cell (Nat.lt_of_lt_of_le n1 hq1.size)).trans y3; have z4 := (hq2.cell (Nat.lt_of_lt_of_le n1 hq1.size)).trans y4; have z5 := (hq2.cell (Nat.lt_of_lt_of_le n1 hq1.size)).trans y5; have KR5 := Lib.hid (((KR1.out.drew).below' hq1).below' hq2); obtain ⟨m5, r1, r2, r3⟩ := KR5.out.c3; obtain ⟨q0, q1, q2⟩ := KR5.out.f3)))
  have HB5 := Lib.hid (bTrans (bTrans HB1.out.drew hq1) hq2)
  have LR : w.heap.size + 1 + 1 < v1.heap.size := Nat.lt_of_lt_of_le m1 hq1.size
  have HO5 := Lib.hid ho2
  clear hq1 hq2 ho2 ho1 y0 y1 y2 y3 y4 y5 z0 z1 z2 z3 z4 z5
  go_wp2_with fail
  exact bodyPost_ret (v := .agg #[.int .i64 (screenF (shiftF W H xs dx dy).W (shiftF W H xs dx dy).H (shiftF W H xs dx dy).ranks W' H' ys).W, .int .i64 (screenF (shiftF W H xs dx dy).W (shiftF W H xs dx dy).H (shiftF W H xs dx dy).ranks W' H' ys).H, .slice a2 n2 c2']) (by simp [results, Try.results41, go_sem, m5, r1, r2, r3]) rfl
    ⟨_, _, _, rfl, (((HO5.out.other (by exact LR) _).other (by exact LR) _).other (by exact LR) _).mono (by omega), hn2, ((HB5.out.setCell (by simp; omega) _).setCell (by simp; omega) _).setCell (by simp; omega) _⟩

set_option maxRecDepth 100000 in
set_option maxHeartbeats 1600000 in
theorem spec_ScreenShifted (W H : Int) (ad : Option Addr) (n cap : Nat) (xs : List Int) (W' H' : Int) (ad' : Option Addr) (n' cap' : Nat) (ys : List Int) (dx dy : Int) (w : World)
    (hn : xs.length = n) (ha : Rd w ad xs) (hl : n ≤ 9223372036854775807) (hn' : ys.length = n') (ha' : Rd w ad' ys) (hl' : n' ≤ 9223372036854775807) :
    Calls Try.prog 40 #[.agg #[.int .i64 W, .int .i64 H, .slice ad n cap], .agg #[.int .i64 W', .int .i64 H', .slice ad' n' cap'], .int .i64 dx, .int .i64 dy] w (PicOut w (screenShiftF W H xs W' H' ys dx dy)) := by
  have HN := Lib.hid hn
  have HA := Lib.hid ha
  have HN' := Lib.hid hn'
  have HA' := Lib.hid ha'
  clear hn ha hn' ha'
  unfold screenShiftF
  obtain ⟨K1, K2, K3, B0⟩ := box3 w 27 32 32 #[.int .i64 W, .int .i64 H, .slice ad n cap] #[.int .i64 W', .int .i64 H', .slice ad' n' cap'] #[.int .i64 0, .int .i64 0, .slice none 0 0]
  have KP1 := Lib.hid K1
  have KQ1 := Lib.hid K2
  have KR1 := Lib.hid K3
  have HB1 := Lib.hid B0
  clear K1 K2 K3 B0
  obtain ⟨l1, c0, c1, c2⟩ := KP1.out.c3
  obtain ⟨n1, g0, g1, g2⟩ := KQ1.out.c3
  have m1 := KR1.out.lt
  have NP : w.heap.size + 1 + 1 ≠ w.heap.size := by omega
  have NQ : w.heap.size + 1 + 1 ≠ w.heap.size + 1 := by omega
  go_enter Try.func40, Try.ntmps40
  go_wp2_with fail
  go_region_held3 (fun v => v.cell? ⟨w.heap.size, 0, none⟩ = some (.int .i64 W) ∧ v.cell? ⟨w.heap.size, 1, none⟩ = some (.int .i64 H) ∧ v.cell? ⟨w.heap.size, 2, none⟩ = some (.slice ad n cap) ∧ v.cell? ⟨w.heap.size + 1, 0, none⟩ = some (.int .i64 W') ∧ v.cell? ⟨w.heap.size + 1, 1, none⟩ = some (.int .i64 H') ∧ v.cell? ⟨w.heap.size + 1, 2, none⟩ = some (.slice ad' n' cap'))
    (first | exact ⟨c0, c1, c2, g0, g1, g2⟩ | exact ⟨y0, y1, y2, y3, y4, y5⟩ | exact ⟨z0, z1, z2, z3, z4, z5⟩ | exact ⟨cell_far (cell_far (cell_far z0 NP) NP) NP, cell_far (cell_far (cell_far z1 NP) NP) NP, cell_far (cell_far (cell_far z2 NP) NP) NP, cell_far (cell_far (cell_far z3 NQ) NQ) NQ, cell_far (cell_far (cell_far z4 NQ) NQ) NQ, cell_far (cell_far (cell_far z5 NQ) NQ) NQ⟩)
    (first
      | (go_at_call 77; ((with_reducible refine (spec_ShiftMatrix W H ad n cap xs dx dy _ HN.out (by exact (HA.out.below HB1.out).drew) hl).mono ?_); rintro e v1 ⟨a1, q1, k1, rfl, ho1, hn1, hq1⟩; have y0 := (hq1.cell l1).trans c0; have y1 := (hq1.cell l1).trans c1; have y2 := (hq1.cell l1).trans c2; have y3 := (hq1.cell n1).trans g0; have y4 := (hq1.cell n1).trans g1; have y5 := (hq1.cell n1).trans g2))
      | (go_at_call 26; ((with_reducible refine (spec_ScreenPicture _ _ _ q1 _ _ W' H' ad' n' cap' ys _ ho1.len (by exact ho1.rd) (by omega) HN'.out (by exact ((HA'.out.below HB1.out).drew).below hq1) hl').mono ?_); rintro e v2 ⟨a2, n2, c2', rfl, ho2, hn2, hq2⟩; have z0 := (hq2.cell (Nat.lt_of_lt_of_le l1 hq1.size)).trans y0; have z1 := (hq2.cell (Nat.lt_of_lt_of_le l1 hq1.size)).trans y1; have z2 := (hq2.cell (Nat.lt_of_lt_of_le l1 hq1.size)).trans y2; have z3 := (hq2.cell (Nat.lt_of_lt_of_le n1 hq1.size)).trans y3; have z4 := (hq2.cell (Nat.lt_of_lt_of_le n1 hq1.size)).trans y4; have z5 := (hq2.cell (Nat.lt_of_lt_of_le n1 hq1.size)).trans y5; have KR5 := Lib.hid (((KR1.out.drew).below' hq1).below' hq2); obtain ⟨m5, r1, r2, r3⟩ := KR5.out.c3; obtain ⟨q0, q1, q2⟩ := KR5.out.f3)))
  have HB5 := Lib.hid (bTrans (bTrans HB1.out.drew hq1) hq2)
  have LR : w.heap.size + 1 + 1 < v1.heap.size := Nat.lt_of_lt_of_le m1 hq1.size
  have HO5 := Lib.hid ho2
  clear hq1 hq2 ho2 ho1 y0 y1 y2 y3 y4 y5 z0 z1 z2 z3 z4 z5
  go_wp2_with fail
  exact bodyPost_ret (v := .agg #[.int .i64 (screenF (shiftF W H xs dx dy).W (shiftF W H xs dx dy).H (shiftF W H xs dx dy).ranks W' H' ys).W, .int .i64 (screenF (shiftF W H xs dx dy).W (shiftF W H xs dx dy).H (shiftF W H xs dx dy).ranks W' H' ys).H, .slice a2 n2 c2']) (by simp [results, Try.results40, go_sem, m5, r1, r2, r3]) rfl
    ⟨_, _, _, rfl, (((HO5.out.other (by exact LR) _).other (by exact LR) _).other (by exact LR) _).mono (by omega), hn2, ((HB5.out.setCell (by simp; omega) _).setCell (by simp; omega) _).setCell (by simp; omega) _⟩

end Go.Proofs.Ytcebgcdhigonoaa
