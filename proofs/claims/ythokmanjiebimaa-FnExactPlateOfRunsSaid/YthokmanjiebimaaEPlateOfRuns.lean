/-
  The exact law of PlateOfRuns: the walk, and the row. laws.FnExactPlateOfRuns returns true for every input: the program answers as the model does, writes into no argument, and its answer owns its memory. No conditions.
-/
import Derived.Test.YthokmanjiebimaaW7
import Derived.Test.YthokmanjiebimaaW8
import Derived.Test.YthokmanjiebimaaPic
import Derived.Test.YthokmanjiebimaaT4
import Derived.Test.YthokmanjiebimaaCut
import Derived.Test.YthokmanjiebimaaFrameP
namespace Go.Proofs.Ythokmanjiebimaa.xPlateOfRuns
open Go.ChangeShapes Go.WideShapes Go.ChangeAt Go.RowKit
set_option linter.unusedVariables false
set_option linter.unusedSimpArgs false

set_option maxRecDepth 100000 in
set_option maxHeartbeats 400000 in
theorem no2 (x0 : Int) (x1 : Int) (ad2 : Option Addr) (n2 cap2 : Nat) (xs2 : List Int) (w : World)  (h1 : 1048576 < (n2 : Int)) (h3 : n2 ≤ 9223372036854775807) :
    Calls Try.prog 13 #[.int .i64 x0, .int .i64 x1, .slice ad2 n2 cap2] w fun e w' => e = .returned (.bool true) ∧ Below w.heap.size w w' := by
  go_enter Try.func13, Try.ntmps13
  go_wp2_with fail
  go_ret
  exact ⟨rfl, Below.refl _ _⟩

set_option maxRecDepth 100000 in
set_option maxHeartbeats 4000000 in
theorem ok (x0 : Int) (x1 : Int) (ad2 : Option Addr) (n2 cap2 : Nat) (xs2 : List Int) (w : World) (hx0 : InI x0) (hx1 : InI x1) (hn2 : xs2.length = n2) (ha2 : Rd w ad2 xs2) (b2 : (n2 : Int) ≤ 1048576) :
    Calls Try.prog 13 #[.int .i64 x0, .int .i64 x1, .slice ad2 n2 cap2] w fun e w' => e = .returned (.bool true) ∧ Below w.heap.size w w' := by
  have HN2 := Lib.hid hn2
  have HA2 := Lib.hid ha2
  clear hn2 ha2
  have hxb0 : -9223372036854775808 ≤ x0 ∧ x0 ≤ 9223372036854775807 := hx0
  obtain ⟨hxl0, hxh0⟩ := hxb0
  clear hx0
  have hxb1 : -9223372036854775808 ≤ x1 ∧ x1 ≤ 9223372036854775807 := hx1
  obtain ⟨hxl1, hxh1⟩ := hxb1
  clear hx1
  go_enter Try.func13, Try.ntmps13
  go_wp2_with fail
  refine (toInts _ _ _ xs2 _ HN2.out (by exact (HA2.out.below (Below.refl _ _))) (by omega)).mono ?_
  rintro e w1 ⟨rfl, ho, hb⟩
  have HB1 := Lib.hid (bTrans (Below.refl _ _) hb)
  have HZ1 : Hid (w.heap.size + 0 ≤ w1.heap.size) := Lib.hid (by have := hb.size; (try simp at this); omega)
  have K1_s2 := Lib.hid (OwnA.mono (B' := w.heap.size + 0) (OwnA.mk ho (Nat.le_refl _)) (by first | (simp; done) | (simp; omega)))
  have R1_s2 := Lib.hid K1_s2.out.bd
  clear hb ho
  go_wp2_with fail
  refine (spec_PlateOfRuns x0 x1 _ n2 n2 xs2 _ HN2.out (by exact K1_s2.out.rd) (by omega)).mono ?_
  clear K1_s2
  rintro e w2 ⟨aw0, nw0, cw0, rfl, ho, hnw0, hb⟩
  have HB2 := Lib.hid (bTrans HB1.out hb)
  have HZ2 : Hid (w1.heap.size + 0 ≤ w2.heap.size) := Lib.hid (by have := hb.size; (try simp at this); omega)
  have K2_w0 := Lib.hid (OwnA.mono (B' := w1.heap.size + 0) ho (by first | (simp; done) | (simp; omega)))
  have R2_w0 := Lib.hid K2_w0.out.bd
  clear hb ho
  go_wp2_with fail
  refine (toInts _ _ _ xs2 _ HN2.out (by exact (HA2.out.below (bAlloc HB2.out _))) (by omega)).mono ?_
  rintro e w3 ⟨rfl, ho, hb⟩
  have HB3 := Lib.hid (bTrans (bAlloc HB2.out _) hb)
  have HZ3 : Hid (w2.heap.size + 1 ≤ w3.heap.size) := Lib.hid (by have := hb.size; (try simp at this); omega)
  have K3_w0 := Lib.hid ((K2_w0.out.alloc _).below' hb)
  clear K2_w0
  have K3_bw0 : Hid (Blk w3 (w2.heap.size) 44 #[.int .i64 (porF x0 x1 xs2).1.W, .int .i64 (porF x0 x1 xs2).1.H, .slice aw0 nw0 cw0]) := Lib.hid ((Blk.new' (g := w2.heap.size) 44 #[.int .i64 (porF x0 x1 xs2).1.W, .int .i64 (porF x0 x1 xs2).1.H, .slice aw0 nw0 cw0] (by simp)).below' hb)
  have K3_x2 := Lib.hid (OwnA.mono (B' := w2.heap.size + 1) (OwnA.mk (show Own w3 (w2.heap.size + 1) n2 n2 xs2 by simpa using ho) (Nat.le_refl _)) (by first | (simp; done) | (simp; omega)))
  have R3_x2 := Lib.hid K3_x2.out.bd
  clear hb ho
  go_wp2_with fail
  refine (impl_PlateOfRuns x0 x1 _ n2 n2 xs2 _ HN2.out (by exact K3_x2.out.rd) (by omega)).mono ?_
  rintro e w4 ⟨ag0, ng0, cg0, rfl, ho, hng0, hb⟩
  have HB4 := Lib.hid (bTrans HB3.out hb)
  have HZ4 : Hid (w3.heap.size + 0 ≤ w4.heap.size) := Lib.hid (by have := hb.size; (try simp at this); omega)
  have K4_w0 := Lib.hid (K3_w0.out.below' hb)
  clear K3_w0
  have K4_bw0 := Lib.hid (K3_bw0.out.below' hb)
  clear K3_bw0
  have K4_x2 := Lib.hid (K3_x2.out.below' hb)
  clear K3_x2
  have K4_g0 := Lib.hid (OwnA.mono (B' := w3.heap.size + 0) ho (by first | (simp; done) | (simp; omega)))
  have R4_g0 := Lib.hid K4_g0.out.bd
  clear hb ho
  obtain ⟨lzbw0, cabw0, cbbw0, ccbw0⟩ := K4_bw0.out.c3
  go_wp2_with fail
  refine (eqPic _ _ _ _ _ _ _ _ _ _ _ _ _ K4_g0.out.len K4_w0.out.len (by exact (K4_g0.out.alloc _).rd) (by exact (K4_w0.out.alloc _).rd) (by omega) (by omega)).mono ?_
  rintro e w5 ⟨rfl, hb⟩
  have HB5 := Lib.hid (bTrans (bAlloc HB4.out _) hb)
  have HZ5 : Hid (w4.heap.size + 1 ≤ w5.heap.size) := Lib.hid (by have := hb.size; (try simp at this); omega)
  have K5_w0 := Lib.hid ((K4_w0.out.alloc _).below' hb)
  clear K4_w0
  have K5_bw0 := Lib.hid ((K4_bw0.out.alloc _).below' hb)
  clear K4_bw0
  have K5_x2 := Lib.hid ((K4_x2.out.alloc _).below' hb)
  clear K4_x2
  have K5_g0 := Lib.hid ((K4_g0.out.alloc _).below' hb)
  clear K4_g0
  have K5_bg0 : Hid (Blk w5 (w4.heap.size) 44 #[.int .i64 (porF x0 x1 xs2).1.W, .int .i64 (porF x0 x1 xs2).1.H, .slice ag0 ng0 cg0]) := Lib.hid ((Blk.new' (g := w4.heap.size) 44 #[.int .i64 (porF x0 x1 xs2).1.W, .int .i64 (porF x0 x1 xs2).1.H, .slice ag0 ng0 cg0] (by simp)).below' hb)
  clear hb
  clear lzbw0
  clear cabw0
  clear cbbw0
  clear ccbw0
  go_wp2_with fail
  refine (toInts _ _ _ xs2 _ HN2.out (by exact (HA2.out.below HB5.out)) (by omega)).mono ?_
  rintro e w6 ⟨rfl, ho, hb⟩
  have HB6 := Lib.hid (bTrans HB5.out hb)
  have HZ6 : Hid (w5.heap.size + 0 ≤ w6.heap.size) := Lib.hid (by have := hb.size; (try simp at this); omega)
  have K6_w0 := Lib.hid (K5_w0.out.below' hb)
  clear K5_w0
  have K6_bw0 := Lib.hid (K5_bw0.out.below' hb)
  clear K5_bw0
  have K6_x2 := Lib.hid (K5_x2.out.below' hb)
  clear K5_x2
  have K6_g0 := Lib.hid (K5_g0.out.below' hb)
  clear K5_g0
  have K6_bg0 := Lib.hid (K5_bg0.out.below' hb)
  clear K5_bg0
  have K6_t2 := Lib.hid (OwnA.mono (B' := w5.heap.size + 0) (OwnA.mk ho (Nat.le_refl _)) (by first | (simp; done) | (simp; omega)))
  have R6_t2 := Lib.hid K6_t2.out.bd
  clear hb ho
  go_wp2_with fail
  refine (eqIntsB _ _ _ _ _ _ _ _ _ K6_x2.out.len K6_t2.out.len (by exact K6_x2.out.rd) (by exact K6_t2.out.rd) (by omega) (by omega)).mono ?_
  rintro e w7 ⟨rfl, hb⟩
  have HB7 := Lib.hid (bTrans HB6.out hb)
  have HZ7 : Hid (w6.heap.size + 0 ≤ w7.heap.size) := Lib.hid (by have := hb.size; (try simp at this); omega)
  have K7_w0 := Lib.hid (K6_w0.out.below' hb)
  clear K6_w0
  have K7_bw0 := Lib.hid (K6_bw0.out.below' hb)
  clear K6_bw0
  have K7_x2 := Lib.hid (K6_x2.out.below' hb)
  clear K6_x2
  have K7_g0 := Lib.hid (K6_g0.out.below' hb)
  clear K6_g0
  have K7_bg0 := Lib.hid (K6_bg0.out.below' hb)
  clear K6_bg0
  have K7_t2 := Lib.hid (K6_t2.out.below' hb)
  clear K6_t2
  clear hb
  obtain ⟨lzbg0, cabg0, cbbg0, ccbg0⟩ := K7_bg0.out.c3
  obtain ⟨lzbw0, cabw0, cbbw0, ccbw0⟩ := K7_bw0.out.c3
  go_wp2_with fail
  clear K7_t2
  refine (markInts _ _ _ _ (1) _ _ (by exact K7_x2.out) (by omega) (by omega)).mono ?_
  rintro e w8 ⟨rfl, ho, hb⟩
  have HB8 := Lib.hid (Below.grown HB7.out hb HB7.out.size (by intro b hb1; have := R3_x2.out b hb1; have := HZ1.out; have := HZ2.out; have := HZ3.out; have := HZ4.out; have := HZ5.out; have := HZ6.out; have := HZ7.out; omega))
  have HZ8 : Hid (w7.heap.size + 0 ≤ w8.heap.size) := Lib.hid hb.size
  have K8_w0 := Lib.hid (K7_w0.out.grownS hb (by intro b hb1 hb2; have := R3_x2.out b hb1; have := R2_w0.out b hb2; have := HZ1.out; have := HZ2.out; have := HZ3.out; have := HZ4.out; have := HZ5.out; have := HZ6.out; have := HZ7.out; omega))
  clear K7_w0
  have K8_bw0 := Lib.hid (K7_bw0.out.grownS hb (by intro b hb1; have := R3_x2.out b hb1; have := HZ1.out; have := HZ2.out; have := HZ3.out; have := HZ4.out; have := HZ5.out; have := HZ6.out; have := HZ7.out; omega))
  clear K7_bw0
  have K8_x2 := Lib.hid ho
  clear K7_x2
  have K8_g0 := Lib.hid (K7_g0.out.grownS hb (by intro b hb1 hb2; have := R3_x2.out b hb1; have := R4_g0.out b hb2; have := HZ1.out; have := HZ2.out; have := HZ3.out; have := HZ4.out; have := HZ5.out; have := HZ6.out; have := HZ7.out; omega))
  clear K7_g0
  have K8_bg0 := Lib.hid (K7_bg0.out.grownS hb (by intro b hb1; have := R3_x2.out b hb1; have := HZ1.out; have := HZ2.out; have := HZ3.out; have := HZ4.out; have := HZ5.out; have := HZ6.out; have := HZ7.out; omega))
  clear K7_bg0
  clear ho hb
  clear lzbg0
  clear cabg0
  clear cbbg0
  clear ccbg0
  clear lzbw0
  clear cabw0
  clear cbbw0
  clear ccbw0
  obtain ⟨lzbg0, cabg0, cbbg0, ccbg0⟩ := K8_bg0.out.c3
  obtain ⟨lzbw0, cabw0, cbbw0, ccbw0⟩ := K8_bw0.out.c3
  go_wp2_with fail
  refine (eqPic _ _ _ _ _ _ _ _ _ _ _ _ _ K8_g0.out.len K8_w0.out.len (by exact K8_g0.out.rd) (by exact K8_w0.out.rd) (by omega) (by omega)).mono ?_
  rintro e w9 ⟨rfl, hb⟩
  have HB9 := Lib.hid (bTrans HB8.out hb)
  have HZ9 : Hid (w8.heap.size + 0 ≤ w9.heap.size) := Lib.hid (by have := hb.size; (try simp at this); omega)
  have K9_w0 := Lib.hid (K8_w0.out.below' hb)
  clear K8_w0
  have K9_bw0 := Lib.hid (K8_bw0.out.below' hb)
  clear K8_bw0
  have K9_x2 := Lib.hid (K8_x2.out.below' hb)
  clear K8_x2
  have K9_g0 := Lib.hid (K8_g0.out.below' hb)
  clear K8_g0
  have K9_bg0 := Lib.hid (K8_bg0.out.below' hb)
  clear K8_bg0
  clear hb
  clear lzbg0
  clear cabg0
  clear cbbg0
  clear ccbg0
  clear lzbw0
  clear cabw0
  clear cbbw0
  clear ccbw0
  obtain ⟨lzbg0, cabg0, cbbg0, ccbg0⟩ := K9_bg0.out.c3
  go_wp2_with fail
  clear K9_x2
  refine (markPic _ _ _ _ _ _ (1) _ _ (by exact K9_g0.out) (by omega) (by omega)).mono ?_
  rintro e w10 ⟨rfl, ho, hb⟩
  have HB10 := Lib.hid (Below.grown HB9.out hb HB9.out.size (by intro b hb1; have := R4_g0.out b hb1; have := HZ1.out; have := HZ2.out; have := HZ3.out; have := HZ4.out; have := HZ5.out; have := HZ6.out; have := HZ7.out; have := HZ8.out; have := HZ9.out; omega))
  have HZ10 : Hid (w9.heap.size + 0 ≤ w10.heap.size) := Lib.hid hb.size
  have K10_w0 := Lib.hid (K9_w0.out.grownS hb (by intro b hb1 hb2; have := R4_g0.out b hb1; have := R2_w0.out b hb2; have := HZ1.out; have := HZ2.out; have := HZ3.out; have := HZ4.out; have := HZ5.out; have := HZ6.out; have := HZ7.out; have := HZ8.out; have := HZ9.out; omega))
  clear K9_w0
  have K10_bw0 := Lib.hid (K9_bw0.out.grownS hb (by intro b hb1; have := R4_g0.out b hb1; have := HZ1.out; have := HZ2.out; have := HZ3.out; have := HZ4.out; have := HZ5.out; have := HZ6.out; have := HZ7.out; have := HZ8.out; have := HZ9.out; omega))
  clear K9_bw0
  have K10_g0 := Lib.hid ho
  clear K9_g0
  have K10_bg0 := Lib.hid (K9_bg0.out.grownS hb (by intro b hb1; have := R4_g0.out b hb1; have := HZ1.out; have := HZ2.out; have := HZ3.out; have := HZ4.out; have := HZ5.out; have := HZ6.out; have := HZ7.out; have := HZ8.out; have := HZ9.out; omega))
  clear K9_bg0
  clear ho hb
  clear lzbg0
  clear cabg0
  clear cbbg0
  clear ccbg0
  obtain ⟨lzbg0, cabg0, cbbg0, ccbg0⟩ := K10_bg0.out.c3
  go_wp2_with fail
  refine (heldPic _ _ _ _ _ 1 _ (by exact K10_g0.out.rd) (by omega) (by omega)).mono ?_
  rintro e w11 ⟨rfl, hb⟩
  have HB11 := Lib.hid (bTrans HB10.out hb)
  have HZ11 : Hid (w10.heap.size + 0 ≤ w11.heap.size) := Lib.hid (by have := hb.size; (try simp at this); omega)
  have K11_w0 := Lib.hid (K10_w0.out.below' hb)
  clear K10_w0
  have K11_bw0 := Lib.hid (K10_bw0.out.below' hb)
  clear K10_bw0
  have K11_g0 := Lib.hid (K10_g0.out.below' hb)
  clear K10_g0
  have K11_bg0 := Lib.hid (K10_bg0.out.below' hb)
  clear K10_bg0
  clear hb
  clear lzbg0
  clear cabg0
  clear cbbg0
  clear ccbg0
  go_wp2_with fail
  refine (toInts _ _ _ xs2 _ HN2.out (by exact (HA2.out.below HB11.out)) (by omega)).mono ?_
  rintro e w12 ⟨rfl, ho, hb⟩
  have HB12 := Lib.hid (bTrans HB11.out hb)
  have HZ12 : Hid (w11.heap.size + 0 ≤ w12.heap.size) := Lib.hid (by have := hb.size; (try simp at this); omega)
  have K12_w0 := Lib.hid (K11_w0.out.below' hb)
  clear K11_w0
  have K12_bw0 := Lib.hid (K11_bw0.out.below' hb)
  clear K11_bw0
  have K12_g0 := Lib.hid (K11_g0.out.below' hb)
  clear K11_g0
  have K12_bg0 := Lib.hid (K11_bg0.out.below' hb)
  clear K11_bg0
  have K12_u2 := Lib.hid (OwnA.mono (B' := w11.heap.size + 0) (OwnA.mk ho (Nat.le_refl _)) (by first | (simp; done) | (simp; omega)))
  have R12_u2 := Lib.hid K12_u2.out.bd
  clear hb ho
  go_wp2_with fail
  refine (impl_PlateOfRuns x0 x1 _ n2 n2 xs2 _ HN2.out (by exact K12_u2.out.rd) (by omega)).mono ?_
  clear K12_u2
  rintro e w13 ⟨ah0, nh0, ch0, rfl, ho, hnh0, hb⟩
  have HB13 := Lib.hid (bTrans HB12.out hb)
  have HZ13 : Hid (w12.heap.size + 0 ≤ w13.heap.size) := Lib.hid (by have := hb.size; (try simp at this); omega)
  have K13_w0 := Lib.hid (K12_w0.out.below' hb)
  clear K12_w0
  have K13_bw0 := Lib.hid (K12_bw0.out.below' hb)
  clear K12_bw0
  have K13_g0 := Lib.hid (K12_g0.out.below' hb)
  clear K12_g0
  have K13_bg0 := Lib.hid (K12_bg0.out.below' hb)
  clear K12_bg0
  have K13_h0 := Lib.hid (OwnA.mono (B' := w12.heap.size + 0) ho (by first | (simp; done) | (simp; omega)))
  have R13_h0 := Lib.hid K13_h0.out.bd
  clear hb ho
  obtain ⟨lzbw0, cabw0, cbbw0, ccbw0⟩ := K13_bw0.out.c3
  go_wp2_with fail
  refine (eqPic _ _ _ _ _ _ _ _ _ _ _ _ _ K13_h0.out.len K13_w0.out.len (by exact (K13_h0.out.alloc _).rd) (by exact (K13_w0.out.alloc _).rd) (by omega) (by omega)).mono ?_
  rintro e w14 ⟨rfl, hb⟩
  have HB14 := Lib.hid (bTrans (bAlloc HB13.out _) hb)
  have HZ14 : Hid (w13.heap.size + 1 ≤ w14.heap.size) := Lib.hid (by have := hb.size; (try simp at this); omega)
  have K14_w0 := Lib.hid ((K13_w0.out.alloc _).below' hb)
  clear K13_w0
  have K14_bw0 := Lib.hid ((K13_bw0.out.alloc _).below' hb)
  clear K13_bw0
  have K14_g0 := Lib.hid ((K13_g0.out.alloc _).below' hb)
  clear K13_g0
  have K14_bg0 := Lib.hid ((K13_bg0.out.alloc _).below' hb)
  clear K13_bg0
  have K14_h0 := Lib.hid ((K13_h0.out.alloc _).below' hb)
  clear K13_h0
  have K14_bh0 : Hid (Blk w14 (w13.heap.size) 44 #[.int .i64 (porF x0 x1 xs2).1.W, .int .i64 (porF x0 x1 xs2).1.H, .slice ah0 nh0 ch0]) := Lib.hid ((Blk.new' (g := w13.heap.size) 44 #[.int .i64 (porF x0 x1 xs2).1.W, .int .i64 (porF x0 x1 xs2).1.H, .slice ah0 nh0 ch0] (by simp)).below' hb)
  clear hb
  clear lzbw0
  clear cabw0
  clear cbbw0
  clear ccbw0
  obtain ⟨lzbg0, cabg0, cbbg0, ccbg0⟩ := K14_bg0.out.c3
  go_wp2_with fail
  refine (heldPic _ _ _ _ _ 1 _ (by exact K14_g0.out.rd) (by omega) (by omega)).mono ?_
  rintro e w15 ⟨rfl, hb⟩
  have HB15 := Lib.hid (bTrans HB14.out hb)
  have HZ15 : Hid (w14.heap.size + 0 ≤ w15.heap.size) := Lib.hid (by have := hb.size; (try simp at this); omega)
  have K15_w0 := Lib.hid (K14_w0.out.below' hb)
  clear K14_w0
  have K15_bw0 := Lib.hid (K14_bw0.out.below' hb)
  clear K14_bw0
  have K15_g0 := Lib.hid (K14_g0.out.below' hb)
  clear K14_g0
  have K15_bg0 := Lib.hid (K14_bg0.out.below' hb)
  clear K14_bg0
  have K15_h0 := Lib.hid (K14_h0.out.below' hb)
  clear K14_h0
  have K15_bh0 := Lib.hid (K14_bh0.out.below' hb)
  clear K14_bh0
  clear hb
  clear lzbg0
  clear cabg0
  clear cbbg0
  clear ccbg0
  go_wp2_with fail
  go_ret
  exact ⟨rfl, HB15.out⟩

set_option maxRecDepth 100000 in
theorem lifted (os : Os) (started : os.Started) (H : Type) (enc : TypeId × Value → H) :
    ReturnsInHanded {} Try.checked os 13 .any (Rows.fnExactPlateOfRunsSpec.pre6 enc Try.prog Try.f13 Rows.fnExactPlateOfRunsRow.domain false) (Rows.fnExactPlateOfRunsSpec.post enc Try.prog Try.f13 false true false false) := by
  refine returnsInHanded_of_change (C := Try.checked) own started (by kernel_rfl) Try.func13
    (ChangeSpec.witness6 (enc := enc) (C := Try.checked) false ⟨#[], #[.int .i64 0, .int .i64 0, .slice none 0 0], []⟩ 8 (by kernel_rfl) (by kernel_rfl) (by kernel_rfl) (by kernel_rfl)) ?_
  intro W base args ds gs before hval0 hW hcnd _
  have hval : ∀ (j : Nat) t v, Try.f13.params[j]? = some t → args[j]? = some v → Value.okWide Try.prog W .any base t v := hval0
  have hW' := hW
  have hlt := hW.lt
  obtain ⟨p, q, hA0, hV, rfl, hfz, hnd⟩ := hW
  have hA : DataW.TrodAll enc Try.prog W 0 (fun _ => true) true Try.f13.params.toList args.toList ds p := hA0
  rw [Try.params13] at hA hval
  obtain ⟨v0, vs0, d0, ds0, p0, q0, hargs, rfl, rfl, h0, r0⟩ := trodAll_cons hA
  obtain ⟨v1, vs1, d1, ds1, p1, q1, rfl, rfl, rfl, h1, r1⟩ := trodAll_cons r0
  obtain ⟨v2, vs2, d2, ds2, p2, q2, rfl, rfl, rfl, h2, r2⟩ := trodAll_cons r1
  obtain ⟨rfl, rfl, rfl⟩ := trodAll_nil r2
  obtain rfl : args = #[v0, v1, v2] := by cases args; simp_all
  obtain ⟨rfl, rfl⟩ := trodVars_none hV
  clear hA0 hval0
  obtain ⟨x0, rfl, rfl, rfl, wx0⟩ := open_int Try.underlying3 (hval 0 3 v0 rfl rfl) h0
  obtain ⟨x1, rfl, rfl, rfl, wx1⟩ := open_int Try.underlying3 (hval 1 3 v1 rfl rfl) h1
  obtain ⟨ad2, n2, cap2, xs2, rfl, hn2, hr2, hl2, hx2⟩ := open_lintsP (hval 2 31 v2 rfl rfl) h2 (fun x hx => hlt x (by simp [hx]))
  have fin : ∀ (e : Ending) W', (e = .returned (.bool true) ∧ Below W.heap.size W W') → ∃ v, e = .returned v ∧ Rows.fnExactPlateOfRunsSpec.post enc Try.prog Try.f13 false true false false W #[.int .i64 x0, .int .i64 x1, .slice ad2 n2 cap2] v W' := by
    rintro e W' ⟨rfl, hb⟩
    exact ⟨_, rfl, law_post rfl rfl hW' (by kernel_rfl) rfl hb⟩
  by_cases b2 : (n2 : Int) ≤ 1048576
  case neg => exact (no2 x0 x1 ad2 n2 cap2 xs2 W  (by omega) hl2).mono fin
  case pos =>
    exact (ok x0 x1 ad2 n2 cap2 xs2 W (inI_of_wf wx0) (inI_of_wf wx1) hn2 hr2 b2).mono fin

theorem proved : Rows.FnExactPlateOfRunsSaid :=
  OpenClaim.holds_of_wide 13 Try.f13 rfl rfl rfl rfl rfl rfl rfl ⟨rfl, rfl, rfl, rfl, rfl⟩ rfl rfl rfl rfl rfl (by kernel_rfl) Try.func13 (by kernel_rfl)
    (of_decide_eq_true (by kernel_rfl)) (by unfold Func.isWrapper; first | (rw [if_pos (by decide +kernel)]; kernel_rfl) | (rw [if_neg (by decide +kernel)]; exact ⟨rfl, rfl⟩))
    (fun os started H enc _ => lifted os started H enc)
end Go.Proofs.Ythokmanjiebimaa.xPlateOfRuns
