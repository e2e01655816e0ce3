/-
  The exact law of SharesMultiply: the walk, and the row. laws.FnExactSharesMultiply returns true for every input: the program answers as the model does, writes into no argument, and its answer owns its memory. No conditions.
-/
import Derived.Test.YthokmanjiebimaaW20
import Derived.Test.YthokmanjiebimaaPic
import Derived.Test.YthokmanjiebimaaFrame
import Derived.Deep.RegionHeld3
namespace Go.Proofs.Ythokmanjiebimaa.xSharesMultiply
open Go.ChangeShapes Go.WideShapes Go.ChangeAt Go.RowKit
set_option linter.unusedVariables false
set_option linter.unusedSimpArgs false

set_option maxHeartbeats 400000 in
theorem no0 (W0 H0 : Int) (ad0 : Option Addr) (n0 cap0 : Nat) (xs0 : List Int) (W1 H1 : Int) (ad1 : Option Addr) (n1 cap1 : Nat) (xs1 : List Int) (w : World)  (h1 : 1048576 < (n0 : Int)) (h3 : n0 ≤ 9223372036854775807) :
    Calls Try.prog 7 #[.agg #[.int .i64 W0, .int .i64 H0, .slice ad0 n0 cap0], .agg #[.int .i64 W1, .int .i64 H1, .slice ad1 n1 cap1]] w fun e w' => e = .returned (.bool true) ∧ Below w.heap.size w w' := by
  go_enter Try.func7, Try.ntmps7
  go_wp2_with fail
  refine (szPic_no _ _ _ _ _ _ _ (by omega) (by omega) (by omega) h3).mono ?_
  rintro e w1 ⟨rfl, hb⟩
  have HB1 := Lib.hid (bTrans (bAlloc (bAlloc (Below.refl _ _) _) _) hb)
  have HZ1 : Hid (w.heap.size + 2 ≤ w1.heap.size) := Lib.hid (by have := hb.size; (try simp at this); omega)
  have K1_a0 : Hid (Blk w1 (w.heap.size) 41 #[.int .i64 W0, .int .i64 H0, .slice ad0 n0 cap0]) := Lib.hid (((Blk.new' (g := w.heap.size) 41 #[.int .i64 W0, .int .i64 H0, .slice ad0 n0 cap0] (by simp)).alloc _).below' hb)
  have K1_a1 : Hid (Blk w1 (w.heap.size + 1) 41 #[.int .i64 W1, .int .i64 H1, .slice ad1 n1 cap1]) := Lib.hid ((Blk.new' (g := w.heap.size + 1) 41 #[.int .i64 W1, .int .i64 H1, .slice ad1 n1 cap1] (by simp)).below' hb)
  try clear hb
  go_wp2_with fail
  go_ret
  exact ⟨rfl, HB1.out⟩

set_option maxHeartbeats 400000 in
theorem no1 (W0 H0 : Int) (ad0 : Option Addr) (n0 cap0 : Nat) (xs0 : List Int) (W1 H1 : Int) (ad1 : Option Addr) (n1 cap1 : Nat) (xs1 : List Int) (w : World) (h0 : (n0 : Int) ≤ 1048576) (h1 : 1048576 < (n0 : Int) + (n1 : Int)) (h3 : n1 ≤ 9223372036854775807) :
    Calls Try.prog 7 #[.agg #[.int .i64 W0, .int .i64 H0, .slice ad0 n0 cap0], .agg #[.int .i64 W1, .int .i64 H1, .slice ad1 n1 cap1]] w fun e w' => e = .returned (.bool true) ∧ Below w.heap.size w w' := by
  go_enter Try.func7, Try.ntmps7
  go_wp2_with fail
  refine (szPic_ok _ _ _ _ _ _ _ (by omega) (by omega)).mono ?_
  rintro e w1 ⟨rfl, hb⟩
  have HB1 := Lib.hid (bTrans (bAlloc (bAlloc (Below.refl _ _) _) _) hb)
  have HZ1 : Hid (w.heap.size + 2 ≤ w1.heap.size) := Lib.hid (by have := hb.size; (try simp at this); omega)
  have K1_a0 : Hid (Blk w1 (w.heap.size) 41 #[.int .i64 W0, .int .i64 H0, .slice ad0 n0 cap0]) := Lib.hid (((Blk.new' (g := w.heap.size) 41 #[.int .i64 W0, .int .i64 H0, .slice ad0 n0 cap0] (by simp)).alloc _).below' hb)
  have K1_a1 : Hid (Blk w1 (w.heap.size + 1) 41 #[.int .i64 W1, .int .i64 H1, .slice ad1 n1 cap1]) := Lib.hid ((Blk.new' (g := w.heap.size + 1) 41 #[.int .i64 W1, .int .i64 H1, .slice ad1 n1 cap1] (by simp)).below' hb)
  try clear hb
  obtain ⟨lza1, caa1, cba1, cca1⟩ := K1_a1.out.c3
  go_wp2_with fail
  refine (szPic_no _ _ _ _ _ _ _ (by omega) (by omega) (by omega) h3).mono ?_
  rintro e w2 ⟨rfl, hb⟩
  have HB2 := Lib.hid (bTrans HB1.out hb)
  have HZ2 : Hid (w1.heap.size + 0 ≤ w2.heap.size) := Lib.hid (by have := hb.size; (try simp at this); omega)
  have K2_a0 := Lib.hid (K1_a0.out.below' hb)
  clear K1_a0
  have K2_a1 := Lib.hid (K1_a1.out.below' hb)
  clear K1_a1
  try clear hb
  clear lza1
  clear caa1
  clear cba1
  clear cca1
  go_wp2_with fail
  go_ret
  exact ⟨rfl, HB2.out⟩

set_option maxHeartbeats 2000000 in
theorem ok (W0 H0 : Int) (ad0 : Option Addr) (n0 cap0 : Nat) (xs0 : List Int) (W1 H1 : Int) (ad1 : Option Addr) (n1 cap1 : Nat) (xs1 : List Int) (w : World) (hn0 : xs0.length = n0) (ha0 : Rd w ad0 xs0) (hn1 : xs1.length = n1) (ha1 : Rd w ad1 xs1) (hsz : (n0 : Int) + (n1 : Int) ≤ 1048576) :
    Calls Try.prog 7 #[.agg #[.int .i64 W0, .int .i64 H0, .slice ad0 n0 cap0], .agg #[.int .i64 W1, .int .i64 H1, .slice ad1 n1 cap1]] w fun e w' => e = .returned (.bool true) ∧ Below w.heap.size w w' := by
  have HN0 := Lib.hid hn0
  have HA0 := Lib.hid ha0
  clear hn0 ha0
  have HN1 := Lib.hid hn1
  have HA1 := Lib.hid ha1
  clear hn1 ha1
  go_enter Try.func7, Try.ntmps7
  go_wp2_with fail
  refine (szPic_ok _ _ _ _ _ _ _ (by omega) (by omega)).mono ?_
  rintro e w1 ⟨rfl, hb⟩
  have HB1 := Lib.hid (bTrans (bAlloc (bAlloc (Below.refl _ _) _) _) hb)
  have HZ1 : Hid (w.heap.size + 2 ≤ w1.heap.size) := Lib.hid (by have := hb.size; (try simp at this); omega)
  have K1_a0 : Hid (Blk w1 (w.heap.size) 41 #[.int .i64 W0, .int .i64 H0, .slice ad0 n0 cap0]) := Lib.hid (((Blk.new' (g := w.heap.size) 41 #[.int .i64 W0, .int .i64 H0, .slice ad0 n0 cap0] (by simp)).alloc _).below' hb)
  have K1_a1 : Hid (Blk w1 (w.heap.size + 1) 41 #[.int .i64 W1, .int .i64 H1, .slice ad1 n1 cap1]) := Lib.hid ((Blk.new' (g := w.heap.size + 1) 41 #[.int .i64 W1, .int .i64 H1, .slice ad1 n1 cap1] (by simp)).below' hb)
  try clear hb
  obtain ⟨lza1, caa1, cba1, cca1⟩ := K1_a1.out.c3
  go_wp2_with fail
  refine (szPic_ok _ _ _ _ _ _ _ (by omega) (by omega)).mono ?_
  rintro e w2 ⟨rfl, hb⟩
  have HB2 := Lib.hid (bTrans HB1.out hb)
  have HZ2 : Hid (w1.heap.size + 0 ≤ w2.heap.size) := Lib.hid (by have := hb.size; (try simp at this); omega)
  have K2_a0 := Lib.hid (K1_a0.out.below' hb)
  clear K1_a0
  have K2_a1 := Lib.hid (K1_a1.out.below' hb)
  clear K1_a1
  try clear hb
  clear lza1
  clear caa1
  clear cba1
  clear cca1
  obtain ⟨lza0, caa0, cba0, cca0⟩ := K2_a0.out.c3
  obtain ⟨lza1, caa1, cba1, cca1⟩ := K2_a1.out.c3
  go_wp2_with fail
  go_region_held3 (fun v => v.cell? ⟨w.heap.size, 0, none⟩ = some (.int .i64 W0) ∧ v.cell? ⟨w.heap.size, 1, none⟩ = some (.int .i64 H0) ∧ v.cell? ⟨w.heap.size, 2, none⟩ = some (.slice ad0 n0 cap0) ∧ v.cell? ⟨w.heap.size + 1, 0, none⟩ = some (.int .i64 W1) ∧ v.cell? ⟨w.heap.size + 1, 1, none⟩ = some (.int .i64 H1) ∧ v.cell? ⟨w.heap.size + 1, 2, none⟩ = some (.slice ad1 n1 cap1))
    (first | exact ⟨caa0, cba0, cca0, caa1, cba1, cca1⟩ | exact ⟨(hq1.cell lza0).trans caa0, (hq1.cell lza0).trans cba0, (hq1.cell lza0).trans cca0, (hq1.cell lza1).trans caa1, (hq1.cell lza1).trans cba1, (hq1.cell lza1).trans cca1⟩ | exact ⟨(hq2.cell (Nat.lt_of_lt_of_le lza0 hq1.size)).trans ((hq1.cell lza0).trans caa0), (hq2.cell (Nat.lt_of_lt_of_le lza0 hq1.size)).trans ((hq1.cell lza0).trans cba0), (hq2.cell (Nat.lt_of_lt_of_le lza0 hq1.size)).trans ((hq1.cell lza0).trans cca0), (hq2.cell (Nat.lt_of_lt_of_le lza1 hq1.size)).trans ((hq1.cell lza1).trans caa1), (hq2.cell (Nat.lt_of_lt_of_le lza1 hq1.size)).trans ((hq1.cell lza1).trans cba1), (hq2.cell (Nat.lt_of_lt_of_le lza1 hq1.size)).trans ((hq1.cell lza1).trans cca1)⟩ | exact ⟨(hq3.cell (Nat.lt_of_lt_of_le (Nat.lt_of_lt_of_le lza0 hq1.size) hq2.size)).trans ((hq2.cell (Nat.lt_of_lt_of_le lza0 hq1.size)).trans ((hq1.cell lza0).trans caa0)), (hq3.cell (Nat.lt_of_lt_of_le (Nat.lt_of_lt_of_le lza0 hq1.size) hq2.size)).trans ((hq2.cell (Nat.lt_of_lt_of_le lza0 hq1.size)).trans ((hq1.cell lza0).trans cba0)), (hq3.cell (Nat.lt_of_lt_of_le (Nat.lt_of_lt_of_le lza0 hq1.size) hq2.size)).trans ((hq2.cell (Nat.lt_of_lt_of_le lza0 hq1.size)).trans ((hq1.cell lza0).trans cca0)), (hq3.cell (Nat.lt_of_lt_of_le (Nat.lt_of_lt_of_le lza1 hq1.size) hq2.size)).trans ((hq2.cell (Nat.lt_of_lt_of_le lza1 hq1.size)).trans ((hq1.cell lza1).trans caa1)), (hq3.cell (Nat.lt_of_lt_of_le (Nat.lt_of_lt_of_le lza1 hq1.size) hq2.size)).trans ((hq2.cell (Nat.lt_of_lt_of_le lza1 hq1.size)).trans ((hq1.cell lza1).trans cba1)), (hq3.cell (Nat.lt_of_lt_of_le (Nat.lt_of_lt_of_le lza1 hq1.size) hq2.size)).trans ((hq2.cell (Nat.lt_of_lt_of_le lza1 hq1.size)).trans ((hq1.cell lza1).trans cca1))⟩)
    (first
      | (go_at_call 33; ((with_reducible refine (toPic W0 H0 ad0 n0 cap0 xs0 _ HN0.out (by exact ((HA0.out.below HB2.out.drew).of_heap rfl)) (by omega)).mono ?_); rintro e v1 ⟨gs0, rfl, hgs0, hos0, hq1⟩))
      | (go_at_call 33; ((with_reducible refine (toPic W1 H1 ad1 n1 cap1 xs1 _ HN1.out (by exact ((HA1.out.below (bTrans HB2.out.drew hq1)).of_heap rfl)) (by omega)).mono ?_); rintro e v2 ⟨gs1, rfl, hgs1, hos1, hq2⟩))
      | (go_at_call 32; ((with_reducible refine (spec_SharesMultiply W0 H0 (some ⟨gs0, 0, none⟩) n0 n0 xs0 W1 H1 (some ⟨gs1, 0, none⟩) n1 n1 xs1 _ HN0.out (by exact ((Own.below hos0 hq2 hos0.lt)).rd.of_heap rfl) (by omega) HN1.out (by exact (hos1).rd.of_heap rfl) (by omega)).mono ?_); rintro e w3 ⟨rfl, hq3⟩)))
  have HB3 := Lib.hid (bTrans (bTrans (bTrans HB2.out.drew hq1) hq2) hq3)
  have HZ3 : Hid (w2.heap.size + 0 ≤ w3.heap.size) := Lib.hid (Nat.le_trans (Nat.le_trans hq1.size hq2.size) hq3.size)
  have K3_a0 := Lib.hid ((((K2_a0.out.drew.below' hq1).below' hq2).below' hq3))
  clear K2_a0
  have K3_a1 := Lib.hid ((((K2_a1.out.drew.below' hq1).below' hq2).below' hq3))
  clear K2_a1
  clear hq1 hq2 hq3 hgs0 hos0 hgs1 hos1
  clear lza0
  clear caa0
  clear cba0
  clear cca0
  clear lza1
  clear caa1
  clear cba1
  clear cca1
  obtain ⟨lza0, caa0, cba0, cca0⟩ := K3_a0.out.c3
  go_wp2_with fail
  refine (toPic _ _ _ _ _ xs0 _ HN0.out (by exact (HA0.out.below HB3.out)) (by omega)).mono ?_
  rintro e w4 ⟨gx0, rfl, hg, ho, hb⟩
  have HB4 := Lib.hid (bTrans HB3.out hb)
  have HZ4 : Hid (w3.heap.size + 0 ≤ w4.heap.size) := Lib.hid (by have := hb.size; (try simp at this); omega)
  have K4_a0 := Lib.hid (K3_a0.out.below' hb)
  clear K3_a0
  have K4_a1 := Lib.hid (K3_a1.out.below' hb)
  clear K3_a1
  have K4_x0 := Lib.hid (OwnA.mono (B' := w3.heap.size + 0) (OwnA.mk ho hg) (by first | (simp; done) | (simp; omega)))
  have R4_x0 := Lib.hid K4_x0.out.bd
  clear ho hg
  try clear hb
  clear lza0
  clear caa0
  clear cba0
  clear cca0
  obtain ⟨lza1, caa1, cba1, cca1⟩ := K4_a1.out.c3
  go_wp2_with fail
  refine (toPic _ _ _ _ _ xs1 _ HN1.out (by exact (HA1.out.below (bAlloc HB4.out _))) (by omega)).mono ?_
  rintro e w5 ⟨gx1, rfl, hg, ho, hb⟩
  have HB5 := Lib.hid (bTrans (bAlloc HB4.out _) hb)
  have HZ5 : Hid (w4.heap.size + 1 ≤ w5.heap.size) := Lib.hid (by have := hb.size; (try simp at this); omega)
  have K5_a0 := Lib.hid ((K4_a0.out.alloc _).below' hb)
  clear K4_a0
  have K5_a1 := Lib.hid ((K4_a1.out.alloc _).below' hb)
  clear K4_a1
  have K5_x0 := Lib.hid ((K4_x0.out.alloc _).below' hb)
  clear K4_x0
  have K5_bx0 : Hid (Blk w5 (w4.heap.size) 44 #[.int .i64 W0, .int .i64 H0, .slice (some ⟨gx0, 0, none⟩) n0 n0]) := Lib.hid ((Blk.new' (g := w4.heap.size) 44 #[.int .i64 W0, .int .i64 H0, .slice (some ⟨gx0, 0, none⟩) n0 n0] (by simp)).below' hb)
  have K5_x1 := Lib.hid (OwnA.mono (B' := w4.heap.size + 1) (OwnA.mk ho hg) (by first | (simp; done) | (simp; omega)))
  have R5_x1 := Lib.hid K5_x1.out.bd
  clear ho hg
  try clear hb
  clear lza1
  clear caa1
  clear cba1
  clear cca1
  obtain ⟨lzbx0, cabx0, cbbx0, ccbx0⟩ := K5_bx0.out.c3
  go_wp2_with fail
  refine (impl_SharesMultiply _ _ _ _ _ xs0 _ _ _ _ _ xs1 _ HN0.out (by exact (K5_x0.out.alloc _).rd) (by omega) HN1.out (by exact (K5_x1.out.alloc _).rd) (by omega)).mono ?_
  rintro e w6 ⟨rfl, hb⟩
  have HB6 := Lib.hid (bTrans (bAlloc HB5.out _) hb)
  have HZ6 : Hid (w5.heap.size + 1 ≤ w6.heap.size) := Lib.hid (by have := hb.size; (try simp at this); omega)
  have K6_a0 := Lib.hid ((K5_a0.out.alloc _).below' hb)
  clear K5_a0
  have K6_a1 := Lib.hid ((K5_a1.out.alloc _).below' hb)
  clear K5_a1
  have K6_x0 := Lib.hid ((K5_x0.out.alloc _).below' hb)
  clear K5_x0
  have K6_bx0 := Lib.hid ((K5_bx0.out.alloc _).below' hb)
  clear K5_bx0
  have K6_x1 := Lib.hid ((K5_x1.out.alloc _).below' hb)
  clear K5_x1
  have K6_bx1 : Hid (Blk w6 (w5.heap.size) 44 #[.int .i64 W1, .int .i64 H1, .slice (some ⟨gx1, 0, none⟩) n1 n1]) := Lib.hid ((Blk.new' (g := w5.heap.size) 44 #[.int .i64 W1, .int .i64 H1, .slice (some ⟨gx1, 0, none⟩) n1 n1] (by simp)).below' hb)
  try clear hb
  clear lzbx0
  clear cabx0
  clear cbbx0
  clear ccbx0
  obtain ⟨lzbx0, cabx0, cbbx0, ccbx0⟩ := K6_bx0.out.c3
  obtain ⟨lza0, caa0, cba0, cca0⟩ := K6_a0.out.c3
  go_wp2_with fail
  go_region_held3 (fun v => v.cell? ⟨w4.heap.size, 0, none⟩ = some (.int .i64 W0) ∧ v.cell? ⟨w4.heap.size, 1, none⟩ = some (.int .i64 H0) ∧ v.cell? ⟨w4.heap.size, 2, none⟩ = some (.slice (some ⟨gx0, 0, none⟩) n0 n0) ∧ v.cell? ⟨w.heap.size, 0, none⟩ = some (.int .i64 W0) ∧ v.cell? ⟨w.heap.size, 1, none⟩ = some (.int .i64 H0) ∧ v.cell? ⟨w.heap.size, 2, none⟩ = some (.slice ad0 n0 cap0))
    (first | exact ⟨cabx0 , cbbx0 , ccbx0 , caa0 , cba0 , cca0⟩ | exact ⟨(hb.cell lzbx0).trans cabx0, (hb.cell lzbx0).trans cbbx0, (hb.cell lzbx0).trans ccbx0, (hb.cell lza0).trans caa0, (hb.cell lza0).trans cba0, (hb.cell lza0).trans cca0⟩ | exact ⟨(hb7.cell (Nat.lt_of_lt_of_le lzbx0 hb.size)).trans ((hb.cell lzbx0).trans cabx0), (hb7.cell (Nat.lt_of_lt_of_le lzbx0 hb.size)).trans ((hb.cell lzbx0).trans cbbx0), (hb7.cell (Nat.lt_of_lt_of_le lzbx0 hb.size)).trans ((hb.cell lzbx0).trans ccbx0), (hb7.cell (Nat.lt_of_lt_of_le lza0 hb.size)).trans ((hb.cell lza0).trans caa0), (hb7.cell (Nat.lt_of_lt_of_le lza0 hb.size)).trans ((hb.cell lza0).trans cba0), (hb7.cell (Nat.lt_of_lt_of_le lza0 hb.size)).trans ((hb.cell lza0).trans cca0)⟩)
    (first
      | (go_at_call 33; refine (toPic _ _ _ _ _ xs0 _ HN0.out (by exact (HA0.out.below HB6.out).of_heap rfl) (by omega)).mono ?_; rintro e v1 ⟨gu0, rfl, hgu, hou, hb⟩)
      | (go_at_call 35; refine (eqPic _ _ _ _ _ _ _ _ _ _ xs0 xs0 _ HN0.out HN0.out (by exact (K6_x0.out.drew.below' hb).rd.of_heap rfl) (by exact hou.rd.of_heap rfl) (by omega) (by omega)).mono ?_; rintro e w7 ⟨rfl, hb7⟩))
  have HB7 := Lib.hid (bTrans (bTrans HB6.out.drew hb) hb7)
  have HZ7 : Hid (w6.heap.size + 0 ≤ w7.heap.size) := Lib.hid (Nat.le_trans hb.size hb7.size)
  have K7_a0 := Lib.hid ((K6_a0.out.drew.below' hb).below' hb7)
  clear K6_a0
  have K7_a1 := Lib.hid ((K6_a1.out.drew.below' hb).below' hb7)
  clear K6_a1
  have K7_x0 := Lib.hid ((K6_x0.out.drew.below' hb).below' hb7)
  clear K6_x0
  have K7_bx0 := Lib.hid ((K6_bx0.out.drew.below' hb).below' hb7)
  clear K6_bx0
  have K7_x1 := Lib.hid ((K6_x1.out.drew.below' hb).below' hb7)
  clear K6_x1
  have K7_bx1 := Lib.hid ((K6_bx1.out.drew.below' hb).below' hb7)
  clear K6_bx1
  clear hb hb7 hgu hou
  clear lzbx0
  clear cabx0
  clear cbbx0
  clear ccbx0
  clear lza0
  clear caa0
  clear cba0
  clear cca0
  obtain ⟨lzbx1, cabx1, cbbx1, ccbx1⟩ := K7_bx1.out.c3
  obtain ⟨lza1, caa1, cba1, cca1⟩ := K7_a1.out.c3
  go_wp2_with fail
  go_region_held3 (fun v => v.cell? ⟨w5.heap.size, 0, none⟩ = some (.int .i64 W1) ∧ v.cell? ⟨w5.heap.size, 1, none⟩ = some (.int .i64 H1) ∧ v.cell? ⟨w5.heap.size, 2, none⟩ = some (.slice (some ⟨gx1, 0, none⟩) n1 n1) ∧ v.cell? ⟨w.heap.size + 1, 0, none⟩ = some (.int .i64 W1) ∧ v.cell? ⟨w.heap.size + 1, 1, none⟩ = some (.int .i64 H1) ∧ v.cell? ⟨w.heap.size + 1, 2, none⟩ = some (.slice ad1 n1 cap1))
    (first | exact ⟨cabx1 , cbbx1 , ccbx1 , caa1 , cba1 , cca1⟩ | exact ⟨(hb.cell lzbx1).trans cabx1, (hb.cell lzbx1).trans cbbx1, (hb.cell lzbx1).trans ccbx1, (hb.cell lza1).trans caa1, (hb.cell lza1).trans cba1, (hb.cell lza1).trans cca1⟩ | exact ⟨(hb7.cell (Nat.lt_of_lt_of_le lzbx1 hb.size)).trans ((hb.cell lzbx1).trans cabx1), (hb7.cell (Nat.lt_of_lt_of_le lzbx1 hb.size)).trans ((hb.cell lzbx1).trans cbbx1), (hb7.cell (Nat.lt_of_lt_of_le lzbx1 hb.size)).trans ((hb.cell lzbx1).trans ccbx1), (hb7.cell (Nat.lt_of_lt_of_le lza1 hb.size)).trans ((hb.cell lza1).trans caa1), (hb7.cell (Nat.lt_of_lt_of_le lza1 hb.size)).trans ((hb.cell lza1).trans cba1), (hb7.cell (Nat.lt_of_lt_of_le lza1 hb.size)).trans ((hb.cell lza1).trans cca1)⟩)
    (first
      | (go_at_call 33; refine (toPic _ _ _ _ _ xs1 _ HN1.out (by exact (HA1.out.below HB7.out).of_heap rfl) (by omega)).mono ?_; rintro e v1 ⟨gu1, rfl, hgu, hou, hb⟩)
      | (go_at_call 35; refine (eqPic _ _ _ _ _ _ _ _ _ _ xs1 xs1 _ HN1.out HN1.out (by exact (K7_x1.out.drew.below' hb).rd.of_heap rfl) (by exact hou.rd.of_heap rfl) (by omega) (by omega)).mono ?_; rintro e w8 ⟨rfl, hb7⟩))
  have HB8 := Lib.hid (bTrans (bTrans HB7.out.drew hb) hb7)
  have HZ8 : Hid (w7.heap.size + 0 ≤ w8.heap.size) := Lib.hid (Nat.le_trans hb.size hb7.size)
  have K8_a0 := Lib.hid ((K7_a0.out.drew.below' hb).below' hb7)
  clear K7_a0
  have K8_a1 := Lib.hid ((K7_a1.out.drew.below' hb).below' hb7)
  clear K7_a1
  have K8_x0 := Lib.hid ((K7_x0.out.drew.below' hb).below' hb7)
  clear K7_x0
  have K8_bx0 := Lib.hid ((K7_bx0.out.drew.below' hb).below' hb7)
  clear K7_bx0
  have K8_x1 := Lib.hid ((K7_x1.out.drew.below' hb).below' hb7)
  clear K7_x1
  have K8_bx1 := Lib.hid ((K7_bx1.out.drew.below' hb).below' hb7)
  clear K7_bx1
  clear hb hb7 hgu hou
  clear lzbx1
  clear cabx1
  clear cbbx1
  clear ccbx1
  clear lza1
  clear caa1
  clear cba1
  clear cca1
  go_wp2_with fail
  go_ret
  exact ⟨rfl, HB8.out⟩

set_option maxRecDepth 100000 in
theorem lifted (os : Os) (started : os.Started) (H : Type) (enc : TypeId × Value → H) :
    ReturnsInHanded {} Try.checked os 7 .any (Rows.fnExactSharesMultiplySpec.pre6 enc Try.prog Try.f7 Rows.fnExactSharesMultiplyRow.domain false) (Rows.fnExactSharesMultiplySpec.post enc Try.prog Try.f7 false true false false) := by
  refine returnsInHanded_of_change (C := Try.checked) own started (by kernel_rfl) Try.func7
    (ChangeSpec.witness6 (enc := enc) (C := Try.checked) false ⟨#[], #[.agg #[.int .i64 0, .int .i64 0, .slice none 0 0], .agg #[.int .i64 0, .int .i64 0, .slice none 0 0]], []⟩ 8 (by kernel_rfl) (by kernel_rfl) (by kernel_rfl) (by kernel_rfl)) ?_
  intro W base args ds gs before hval0 hW hcnd _
  have hval : ∀ (j : Nat) t v, Try.f7.params[j]? = some t → args[j]? = some v → Value.okWide Try.prog W .any base t v := hval0
  have hW' := hW
  have hlt := hW.lt
  obtain ⟨p, q, hA0, hV, rfl, hfz, hnd⟩ := hW
  have hA : DataW.TrodAll enc Try.prog W 0 (fun _ => true) true Try.f7.params.toList args.toList ds p := hA0
  rw [Try.params7] at hA hval
  obtain ⟨v0, vs0, d0, ds0, p0, q0, hargs, rfl, rfl, h0, r0⟩ := trodAll_cons hA
  obtain ⟨v1, vs1, d1, ds1, p1, q1, rfl, rfl, rfl, h1, r1⟩ := trodAll_cons r0
  obtain ⟨rfl, rfl, rfl⟩ := trodAll_nil r1
  obtain rfl : args = #[v0, v1] := by cases args; simp_all
  obtain ⟨rfl, rfl⟩ := trodVars_none hV
  clear hA0 hval0
  obtain ⟨W0, H0, ad0, n0, cap0, xs0, rfl, hn0, hr0, hl0, hx0, wa0, wb0⟩ := open_lpic (hval 0 41 v0 rfl rfl) h0 (fun x hx => hlt x (by simp [hx]))
  obtain ⟨W1, H1, ad1, n1, cap1, xs1, rfl, hn1, hr1, hl1, hx1, wa1, wb1⟩ := open_lpic (hval 1 41 v1 rfl rfl) h1 (fun x hx => hlt x (by simp [hx]))
  have fin : ∀ (e : Ending) W', (e = .returned (.bool true) ∧ Below W.heap.size W W') → ∃ v, e = .returned v ∧ Rows.fnExactSharesMultiplySpec.post enc Try.prog Try.f7 false true false false W #[.agg #[.int .i64 W0, .int .i64 H0, .slice ad0 n0 cap0], .agg #[.int .i64 W1, .int .i64 H1, .slice ad1 n1 cap1]] v W' := by
    rintro e W' ⟨rfl, hb⟩
    exact ⟨_, rfl, law_post rfl rfl hW' (by kernel_rfl) rfl hb⟩
  by_cases hs0 : (n0 : Int) ≤ 1048576
  case neg => exact (no0 W0 H0 ad0 n0 cap0 xs0 W1 H1 ad1 n1 cap1 xs1 W  (by omega) hl0).mono fin
  case pos =>
    by_cases hs1 : (n0 : Int) + (n1 : Int) ≤ 1048576
    case neg => exact (no1 W0 H0 ad0 n0 cap0 xs0 W1 H1 ad1 n1 cap1 xs1 W hs0 (by omega) hl1).mono fin
    case pos =>
      exact (ok W0 H0 ad0 n0 cap0 xs0 W1 H1 ad1 n1 cap1 xs1 W hn0 hr0 hn1 hr1 hs1).mono fin

theorem proved : Rows.FnExactSharesMultiplySaid :=
  OpenClaim.holds_of_wide 7 Try.f7 rfl rfl rfl rfl rfl rfl rfl ⟨rfl, rfl, rfl, rfl, rfl⟩ rfl rfl rfl rfl rfl (by kernel_rfl) Try.func7 (by kernel_rfl)
    (of_decide_eq_true (by kernel_rfl)) (by unfold Func.isWrapper; first | (rw [if_pos (by decide +kernel)]; kernel_rfl) | (rw [if_neg (by decide +kernel)]; exact ⟨rfl, rfl⟩))
    (fun os started H enc _ => lifted os started H enc)
end Go.Proofs.Ythokmanjiebimaa.xSharesMultiply
