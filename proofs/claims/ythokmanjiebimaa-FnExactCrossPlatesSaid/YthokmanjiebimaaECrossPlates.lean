/-
  The exact law of CrossPlates: the walk, and the row. laws.FnExactCrossPlates returns true for every input: the program answers as the model does, writes into no argument, and its answer owns its memory. No conditions.
-/
import Derived.Test.YthokmanjiebimaaW12
import Derived.Test.YthokmanjiebimaaW21
import Derived.Test.YthokmanjiebimaaW22
import Derived.Test.YthokmanjiebimaaCut
import Derived.Test.YthokmanjiebimaaFrameP
namespace Go.Proofs.Ythokmanjiebimaa.xCrossPlates
open Go.ChangeShapes Go.WideShapes Go.ChangeAt Go.RowKit
set_option linter.unusedVariables false
set_option linter.unusedSimpArgs false

set_option maxRecDepth 100000 in
set_option maxHeartbeats 400000 in
theorem no0 (ad0 : Option Addr) (n0 cap0 : Nat) (xs0 : List Int) (ad1 : Option Addr) (n1 cap1 : Nat) (xs1 : List Int) (w : World)  (h1 : 1048576 < (n0 : Int)) (h3 : n0 ≤ 9223372036854775807) :
    Calls Try.prog 8 #[.slice ad0 n0 cap0, .slice ad1 n1 cap1] w fun e w' => e = .returned (.bool true) ∧ Below w.heap.size w w' := by
  go_enter Try.func8, Try.ntmps8
  go_wp2_with fail
  go_ret
  exact ⟨rfl, Below.refl _ _⟩

set_option maxRecDepth 100000 in
set_option maxHeartbeats 400000 in
theorem no1 (ad0 : Option Addr) (n0 cap0 : Nat) (xs0 : List Int) (ad1 : Option Addr) (n1 cap1 : Nat) (xs1 : List Int) (w : World) (b0 : (n0 : Int) ≤ 1048576) (h1 : 1048576 < (n1 : Int)) (h3 : n1 ≤ 9223372036854775807) :
    Calls Try.prog 8 #[.slice ad0 n0 cap0, .slice ad1 n1 cap1] w fun e w' => e = .returned (.bool true) ∧ Below w.heap.size w w' := by
  go_enter Try.func8, Try.ntmps8
  go_wp2_with fail
  go_ret
  exact ⟨rfl, Below.refl _ _⟩

set_option maxRecDepth 100000 in
set_option maxHeartbeats 4000000 in
theorem ok (ad0 : Option Addr) (n0 cap0 : Nat) (xs0 : List Int) (ad1 : Option Addr) (n1 cap1 : Nat) (xs1 : List Int) (w : World) (hn0 : xs0.length = n0) (ha0 : Rd w ad0 xs0) (hn1 : xs1.length = n1) (ha1 : Rd w ad1 xs1) (b0 : (n0 : Int) ≤ 1048576) (b1 : (n1 : Int) ≤ 1048576) :
    Calls Try.prog 8 #[.slice ad0 n0 cap0, .slice ad1 n1 cap1] w fun e w' => e = .returned (.bool true) ∧ Below w.heap.size w w' := by
  have HN0 := Lib.hid hn0
  have HA0 := Lib.hid ha0
  clear hn0 ha0
  have HN1 := Lib.hid hn1
  have HA1 := Lib.hid ha1
  clear hn1 ha1
  go_enter Try.func8, Try.ntmps8
  go_wp2_with fail
  refine (toInts _ _ _ xs0 _ HN0.out (by exact (HA0.out.below (Below.refl _ _))) (by omega)).mono ?_
  rintro e w1 ⟨rfl, ho, hb⟩
  have HB1 := Lib.hid (bTrans (Below.refl _ _) hb)
  have HZ1 : Hid (w.heap.size + 0 ≤ w1.heap.size) := Lib.hid (by have := hb.size; (try simp at this); omega)
  have K1_s0 := Lib.hid (OwnA.mono (B' := w.heap.size + 0) (OwnA.mk ho (Nat.le_refl _)) (by first | (simp; done) | (simp; omega)))
  have R1_s0 := Lib.hid K1_s0.out.bd
  clear hb ho
  go_wp2_with fail
  refine (toInts _ _ _ xs1 _ HN1.out (by exact (HA1.out.below HB1.out)) (by omega)).mono ?_
  rintro e w2 ⟨rfl, ho, hb⟩
  have HB2 := Lib.hid (bTrans HB1.out hb)
  have HZ2 : Hid (w1.heap.size + 0 ≤ w2.heap.size) := Lib.hid (by have := hb.size; (try simp at this); omega)
  have K2_s0 := Lib.hid (K1_s0.out.below' hb)
  clear K1_s0
  have K2_s1 := Lib.hid (OwnA.mono (B' := w1.heap.size + 0) (OwnA.mk ho (Nat.le_refl _)) (by first | (simp; done) | (simp; omega)))
  have R2_s1 := Lib.hid K2_s1.out.bd
  clear hb ho
  go_wp2_with fail
  refine (spec_CrossPlates _ n0 n0 xs0 _ n1 n1 xs1 _ HN0.out (by exact K2_s0.out.rd) (by omega) HN1.out (by exact K2_s1.out.rd) (by omega)).mono ?_
  clear K2_s0
  clear K2_s1
  rintro e w3 ⟨aw0, nw0, cw0, Qw0, rfl, ho, hpw0, hnw0, i_w0, hb⟩
  have HB3 := Lib.hid (bTrans HB2.out hb)
  have HZ3 : Hid (w2.heap.size + 0 ≤ w3.heap.size) := Lib.hid (by have := hb.size; (try simp at this); omega)
  have K3_w0 := Lib.hid (OwnV.mono (B' := w2.heap.size + 0) ho (by first | (simp; done) | (simp; omega)))
  have R3_w0 := Lib.hid K3_w0.out.bd
  clear hb ho
  have E_w0 := Lib.hid hpw0
  clear hpw0
  have z_w0 : sizeV Qw0 ≤ 4000000 := by have := K3_w0.out.len; rw [sizeV_ink]; omega
  go_wp2_with fail
  refine (toInts _ _ _ xs0 _ HN0.out (by exact (HA0.out.below HB3.out)) (by omega)).mono ?_
  rintro e w4 ⟨rfl, ho, hb⟩
  have HB4 := Lib.hid (bTrans HB3.out hb)
  have HZ4 : Hid (w3.heap.size + 0 ≤ w4.heap.size) := Lib.hid (by have := hb.size; (try simp at this); omega)
  have K4_w0 := Lib.hid (K3_w0.out.below' hb)
  clear K3_w0
  have K4_x0 := Lib.hid (OwnA.mono (B' := w3.heap.size + 0) (OwnA.mk ho (Nat.le_refl _)) (by first | (simp; done) | (simp; omega)))
  have R4_x0 := Lib.hid K4_x0.out.bd
  clear hb ho
  go_wp2_with fail
  refine (toInts _ _ _ xs1 _ HN1.out (by exact (HA1.out.below HB4.out)) (by omega)).mono ?_
  rintro e w5 ⟨rfl, ho, hb⟩
  have HB5 := Lib.hid (bTrans HB4.out hb)
  have HZ5 : Hid (w4.heap.size + 0 ≤ w5.heap.size) := Lib.hid (by have := hb.size; (try simp at this); omega)
  have K5_w0 := Lib.hid (K4_w0.out.below' hb)
  clear K4_w0
  have K5_x0 := Lib.hid (K4_x0.out.below' hb)
  clear K4_x0
  have K5_x1 := Lib.hid (OwnA.mono (B' := w4.heap.size + 0) (OwnA.mk ho (Nat.le_refl _)) (by first | (simp; done) | (simp; omega)))
  have R5_x1 := Lib.hid K5_x1.out.bd
  clear hb ho
  go_wp2_with fail
  refine (impl_CrossPlates _ n0 n0 xs0 _ n1 n1 xs1 _ HN0.out (by exact K5_x0.out.rd) (by omega) HN1.out (by exact K5_x1.out.rd) (by omega)).mono ?_
  rintro e w6 ⟨ag0, ng0, cg0, Qg0, rfl, ho, hpg0, hng0, i_g0, hb⟩
  have HB6 := Lib.hid (bTrans HB5.out hb)
  have HZ6 : Hid (w5.heap.size + 0 ≤ w6.heap.size) := Lib.hid (by have := hb.size; (try simp at this); omega)
  have K6_w0 := Lib.hid (K5_w0.out.below' hb)
  clear K5_w0
  have K6_x0 := Lib.hid (K5_x0.out.below' hb)
  clear K5_x0
  have K6_x1 := Lib.hid (K5_x1.out.below' hb)
  clear K5_x1
  have K6_g0 := Lib.hid (OwnV.mono (B' := w5.heap.size + 0) ho (by first | (simp; done) | (simp; omega)))
  have R6_g0 := Lib.hid K6_g0.out.bd
  clear hb ho
  have E_g0 := Lib.hid hpg0
  clear hpg0
  have z_g0 : sizeV Qg0 ≤ 4000000 := by have := K6_g0.out.len; rw [sizeV_ink]; omega
  go_wp2_with fail
  have C7 := Lib.hid (eqPicS ag0 aw0 _ _ cg0 cw0 Qg0 Qw0 w6 K6_g0.out.len K6_w0.out.len (by exact K6_g0.out.rd) (by exact K6_w0.out.rd) (by omega) (by omega) (lenV_ink (by omega)) (lenV_ink (by omega)))
  rw [decide_eq_true (E_g0.out.trans E_w0.out.symm)] at C7
  refine C7.out.mono ?_
  rintro e w7 ⟨rfl, hb⟩
  have HB7 := Lib.hid (bTrans HB6.out hb)
  have HZ7 : Hid (w6.heap.size + 0 ≤ w7.heap.size) := Lib.hid (by have := hb.size; (try simp at this); omega)
  have K7_w0 := Lib.hid (K6_w0.out.below' hb)
  clear K6_w0
  have K7_x0 := Lib.hid (K6_x0.out.below' hb)
  clear K6_x0
  have K7_x1 := Lib.hid (K6_x1.out.below' hb)
  clear K6_x1
  have K7_g0 := Lib.hid (K6_g0.out.below' hb)
  clear K6_g0
  clear hb
  go_wp2_with fail
  refine (toInts _ _ _ xs0 _ HN0.out (by exact (HA0.out.below HB7.out)) (by omega)).mono ?_
  rintro e w8 ⟨rfl, ho, hb⟩
  have HB8 := Lib.hid (bTrans HB7.out hb)
  have HZ8 : Hid (w7.heap.size + 0 ≤ w8.heap.size) := Lib.hid (by have := hb.size; (try simp at this); omega)
  have K8_w0 := Lib.hid (K7_w0.out.below' hb)
  clear K7_w0
  have K8_x0 := Lib.hid (K7_x0.out.below' hb)
  clear K7_x0
  have K8_x1 := Lib.hid (K7_x1.out.below' hb)
  clear K7_x1
  have K8_g0 := Lib.hid (K7_g0.out.below' hb)
  clear K7_g0
  have K8_t0 := Lib.hid (OwnA.mono (B' := w7.heap.size + 0) (OwnA.mk ho (Nat.le_refl _)) (by first | (simp; done) | (simp; omega)))
  have R8_t0 := Lib.hid K8_t0.out.bd
  clear hb ho
  go_wp2_with fail
  refine (eqIntsB _ _ _ _ _ _ _ _ _ K8_x0.out.len K8_t0.out.len (by exact K8_x0.out.rd) (by exact K8_t0.out.rd) (by omega) (by omega)).mono ?_
  rintro e w9 ⟨rfl, hb⟩
  have HB9 := Lib.hid (bTrans HB8.out hb)
  have HZ9 : Hid (w8.heap.size + 0 ≤ w9.heap.size) := Lib.hid (by have := hb.size; (try simp at this); omega)
  have K9_w0 := Lib.hid (K8_w0.out.below' hb)
  clear K8_w0
  have K9_x0 := Lib.hid (K8_x0.out.below' hb)
  clear K8_x0
  have K9_x1 := Lib.hid (K8_x1.out.below' hb)
  clear K8_x1
  have K9_g0 := Lib.hid (K8_g0.out.below' hb)
  clear K8_g0
  have K9_t0 := Lib.hid (K8_t0.out.below' hb)
  clear K8_t0
  clear hb
  go_wp2_with fail
  clear K9_t0
  refine (toInts _ _ _ xs1 _ HN1.out (by exact (HA1.out.below HB9.out)) (by omega)).mono ?_
  rintro e w10 ⟨rfl, ho, hb⟩
  have HB10 := Lib.hid (bTrans HB9.out hb)
  have HZ10 : Hid (w9.heap.size + 0 ≤ w10.heap.size) := Lib.hid (by have := hb.size; (try simp at this); omega)
  have K10_w0 := Lib.hid (K9_w0.out.below' hb)
  clear K9_w0
  have K10_x0 := Lib.hid (K9_x0.out.below' hb)
  clear K9_x0
  have K10_x1 := Lib.hid (K9_x1.out.below' hb)
  clear K9_x1
  have K10_g0 := Lib.hid (K9_g0.out.below' hb)
  clear K9_g0
  have K10_t1 := Lib.hid (OwnA.mono (B' := w9.heap.size + 0) (OwnA.mk ho (Nat.le_refl _)) (by first | (simp; done) | (simp; omega)))
  have R10_t1 := Lib.hid K10_t1.out.bd
  clear hb ho
  go_wp2_with fail
  refine (eqIntsB _ _ _ _ _ _ _ _ _ K10_x1.out.len K10_t1.out.len (by exact K10_x1.out.rd) (by exact K10_t1.out.rd) (by omega) (by omega)).mono ?_
  rintro e w11 ⟨rfl, hb⟩
  have HB11 := Lib.hid (bTrans HB10.out hb)
  have HZ11 : Hid (w10.heap.size + 0 ≤ w11.heap.size) := Lib.hid (by have := hb.size; (try simp at this); omega)
  have K11_w0 := Lib.hid (K10_w0.out.below' hb)
  clear K10_w0
  have K11_x0 := Lib.hid (K10_x0.out.below' hb)
  clear K10_x0
  have K11_x1 := Lib.hid (K10_x1.out.below' hb)
  clear K10_x1
  have K11_g0 := Lib.hid (K10_g0.out.below' hb)
  clear K10_g0
  have K11_t1 := Lib.hid (K10_t1.out.below' hb)
  clear K10_t1
  clear hb
  go_wp2_with fail
  clear K11_t1
  refine (markInts _ _ _ _ (1) _ _ (by exact K11_x0.out) (by omega) (by omega)).mono ?_
  rintro e w12 ⟨rfl, ho, hb⟩
  have HB12 := Lib.hid (Below.grown HB11.out hb HB11.out.size (by intro b hb1; have := R4_x0.out b hb1; have := HZ1.out; have := HZ2.out; have := HZ3.out; have := HZ4.out; have := HZ5.out; have := HZ6.out; have := HZ7.out; have := HZ8.out; have := HZ9.out; have := HZ10.out; have := HZ11.out; omega))
  have HZ12 : Hid (w11.heap.size + 0 ≤ w12.heap.size) := Lib.hid hb.size
  have K12_w0 := Lib.hid (K11_w0.out.grownS hb (by intro b hb1 hb2; have := R4_x0.out b hb1; have := R3_w0.out b hb2; have := HZ1.out; have := HZ2.out; have := HZ3.out; have := HZ4.out; have := HZ5.out; have := HZ6.out; have := HZ7.out; have := HZ8.out; have := HZ9.out; have := HZ10.out; have := HZ11.out; omega))
  clear K11_w0
  have K12_x0 := Lib.hid ho
  clear K11_x0
  have K12_x1 := Lib.hid (K11_x1.out.grownS hb (by intro b hb1 hb2; have := R4_x0.out b hb1; have := R5_x1.out b hb2; have := HZ1.out; have := HZ2.out; have := HZ3.out; have := HZ4.out; have := HZ5.out; have := HZ6.out; have := HZ7.out; have := HZ8.out; have := HZ9.out; have := HZ10.out; have := HZ11.out; omega))
  clear K11_x1
  have K12_g0 := Lib.hid (K11_g0.out.grownS hb (by intro b hb1 hb2; have := R4_x0.out b hb1; have := R6_g0.out b hb2; have := HZ1.out; have := HZ2.out; have := HZ3.out; have := HZ4.out; have := HZ5.out; have := HZ6.out; have := HZ7.out; have := HZ8.out; have := HZ9.out; have := HZ10.out; have := HZ11.out; omega))
  clear K11_g0
  clear ho hb
  go_wp2_with fail
  refine (markInts _ _ _ _ (1 + (n0 : Int)) _ _ (by exact K12_x1.out) (by omega) (by omega)).mono ?_
  rintro e w13 ⟨rfl, ho, hb⟩
  have HB13 := Lib.hid (Below.grown HB12.out hb HB12.out.size (by intro b hb1; have := R5_x1.out b hb1; have := HZ1.out; have := HZ2.out; have := HZ3.out; have := HZ4.out; have := HZ5.out; have := HZ6.out; have := HZ7.out; have := HZ8.out; have := HZ9.out; have := HZ10.out; have := HZ11.out; have := HZ12.out; omega))
  have HZ13 : Hid (w12.heap.size + 0 ≤ w13.heap.size) := Lib.hid hb.size
  have K13_w0 := Lib.hid (K12_w0.out.grownS hb (by intro b hb1 hb2; have := R5_x1.out b hb1; have := R3_w0.out b hb2; have := HZ1.out; have := HZ2.out; have := HZ3.out; have := HZ4.out; have := HZ5.out; have := HZ6.out; have := HZ7.out; have := HZ8.out; have := HZ9.out; have := HZ10.out; have := HZ11.out; have := HZ12.out; omega))
  clear K12_w0
  have K13_x0 := Lib.hid (K12_x0.out.grownS hb (by intro b hb1 hb2; have := R5_x1.out b hb1; have := R4_x0.out b hb2; have := HZ1.out; have := HZ2.out; have := HZ3.out; have := HZ4.out; have := HZ5.out; have := HZ6.out; have := HZ7.out; have := HZ8.out; have := HZ9.out; have := HZ10.out; have := HZ11.out; have := HZ12.out; omega))
  clear K12_x0
  have K13_x1 := Lib.hid ho
  clear K12_x1
  have K13_g0 := Lib.hid (K12_g0.out.grownS hb (by intro b hb1 hb2; have := R5_x1.out b hb1; have := R6_g0.out b hb2; have := HZ1.out; have := HZ2.out; have := HZ3.out; have := HZ4.out; have := HZ5.out; have := HZ6.out; have := HZ7.out; have := HZ8.out; have := HZ9.out; have := HZ10.out; have := HZ11.out; have := HZ12.out; omega))
  clear K12_g0
  clear ho hb
  go_wp2_with fail
  have C14 := Lib.hid (eqPicS ag0 aw0 _ _ cg0 cw0 Qg0 Qw0 w13 K13_g0.out.len K13_w0.out.len (by exact K13_g0.out.rd) (by exact K13_w0.out.rd) (by omega) (by omega) (lenV_ink (by omega)) (lenV_ink (by omega)))
  rw [decide_eq_true (E_g0.out.trans E_w0.out.symm)] at C14
  refine C14.out.mono ?_
  rintro e w14 ⟨rfl, hb⟩
  have HB14 := Lib.hid (bTrans HB13.out hb)
  have HZ14 : Hid (w13.heap.size + 0 ≤ w14.heap.size) := Lib.hid (by have := hb.size; (try simp at this); omega)
  have K14_w0 := Lib.hid (K13_w0.out.below' hb)
  clear K13_w0
  have K14_x0 := Lib.hid (K13_x0.out.below' hb)
  clear K13_x0
  have K14_x1 := Lib.hid (K13_x1.out.below' hb)
  clear K13_x1
  have K14_g0 := Lib.hid (K13_g0.out.below' hb)
  clear K13_g0
  clear hb
  go_wp2_with fail
  clear K14_x0
  clear K14_x1
  refine (markPicS _ _ _ _ (1) _ _ (by exact K14_g0.out) (by omega) (by omega)).mono ?_
  rintro e w15 ⟨rfl, ho, hb⟩
  have HB15 := Lib.hid (below_keep HB14.out hb (by intro b hb1; have := R6_g0.out b hb1; have := HZ1.out; have := HZ2.out; have := HZ3.out; have := HZ4.out; have := HZ5.out; have := HZ6.out; have := HZ7.out; have := HZ8.out; have := HZ9.out; have := HZ10.out; have := HZ11.out; have := HZ12.out; have := HZ13.out; have := HZ14.out; omega))
  have HZ15 : Hid (w14.heap.size + 0 ≤ w15.heap.size) := Lib.hid hb.size
  have K15_w0 := Lib.hid (K14_w0.out.keepS hb (by intro b hb1 hb2; have := R6_g0.out b hb1; have := R3_w0.out b hb2; have := HZ1.out; have := HZ2.out; have := HZ3.out; have := HZ4.out; have := HZ5.out; have := HZ6.out; have := HZ7.out; have := HZ8.out; have := HZ9.out; have := HZ10.out; have := HZ11.out; have := HZ12.out; have := HZ13.out; have := HZ14.out; omega))
  clear K14_w0
  have K15_g0 := Lib.hid ho
  clear K14_g0
  clear ho hb
  go_wp2_with fail
  refine (heldPicS _ _ _ 1 Qg0 _ (by have := K15_g0.out.len; rw [markV_len] at this; exact this) (by exact K15_g0.out.rd) (by omega) (by omega)).mono ?_
  rintro e wz ⟨rfl, rfl⟩
  go_wp2_with fail
  refine (toInts _ _ _ xs0 _ HN0.out (by exact (HA0.out.below HB15.out)) (by omega)).mono ?_
  rintro e w16 ⟨rfl, ho, hb⟩
  have HB16 := Lib.hid (bTrans HB15.out hb)
  have HZ16 : Hid (w15.heap.size + 0 ≤ w16.heap.size) := Lib.hid (by have := hb.size; (try simp at this); omega)
  have K16_w0 := Lib.hid (K15_w0.out.below' hb)
  clear K15_w0
  have K16_g0 := Lib.hid (K15_g0.out.below' hb)
  clear K15_g0
  have K16_u0 := Lib.hid (OwnA.mono (B' := w15.heap.size + 0) (OwnA.mk ho (Nat.le_refl _)) (by first | (simp; done) | (simp; omega)))
  have R16_u0 := Lib.hid K16_u0.out.bd
  clear hb ho
  go_wp2_with fail
  refine (toInts _ _ _ xs1 _ HN1.out (by exact (HA1.out.below HB16.out)) (by omega)).mono ?_
  rintro e w17 ⟨rfl, ho, hb⟩
  have HB17 := Lib.hid (bTrans HB16.out hb)
  have HZ17 : Hid (w16.heap.size + 0 ≤ w17.heap.size) := Lib.hid (by have := hb.size; (try simp at this); omega)
  have K17_w0 := Lib.hid (K16_w0.out.below' hb)
  clear K16_w0
  have K17_g0 := Lib.hid (K16_g0.out.below' hb)
  clear K16_g0
  have K17_u0 := Lib.hid (K16_u0.out.below' hb)
  clear K16_u0
  have K17_u1 := Lib.hid (OwnA.mono (B' := w16.heap.size + 0) (OwnA.mk ho (Nat.le_refl _)) (by first | (simp; done) | (simp; omega)))
  have R17_u1 := Lib.hid K17_u1.out.bd
  clear hb ho
  go_wp2_with fail
  refine (impl_CrossPlates _ n0 n0 xs0 _ n1 n1 xs1 _ HN0.out (by exact K17_u0.out.rd) (by omega) HN1.out (by exact K17_u1.out.rd) (by omega)).mono ?_
  clear K17_u0
  clear K17_u1
  rintro e w18 ⟨ah0, nh0, ch0, Qh0, rfl, ho, hph0, hnh0, i_h0, hb⟩
  have HB18 := Lib.hid (bTrans HB17.out hb)
  have HZ18 : Hid (w17.heap.size + 0 ≤ w18.heap.size) := Lib.hid (by have := hb.size; (try simp at this); omega)
  have K18_w0 := Lib.hid (K17_w0.out.below' hb)
  clear K17_w0
  have K18_g0 := Lib.hid (K17_g0.out.below' hb)
  clear K17_g0
  have K18_h0 := Lib.hid (OwnV.mono (B' := w17.heap.size + 0) ho (by first | (simp; done) | (simp; omega)))
  have R18_h0 := Lib.hid K18_h0.out.bd
  clear hb ho
  have E_h0 := Lib.hid hph0
  clear hph0
  have z_h0 : sizeV Qh0 ≤ 4000000 := by have := K18_h0.out.len; rw [sizeV_ink]; omega
  go_wp2_with fail
  have C19 := Lib.hid (eqPicS ah0 aw0 _ _ ch0 cw0 Qh0 Qw0 w18 K18_h0.out.len K18_w0.out.len (by exact K18_h0.out.rd) (by exact K18_w0.out.rd) (by omega) (by omega) (lenV_ink (by omega)) (lenV_ink (by omega)))
  rw [decide_eq_true (E_h0.out.trans E_w0.out.symm)] at C19
  refine C19.out.mono ?_
  rintro e w19 ⟨rfl, hb⟩
  have HB19 := Lib.hid (bTrans HB18.out hb)
  have HZ19 : Hid (w18.heap.size + 0 ≤ w19.heap.size) := Lib.hid (by have := hb.size; (try simp at this); omega)
  have K19_w0 := Lib.hid (K18_w0.out.below' hb)
  clear K18_w0
  have K19_g0 := Lib.hid (K18_g0.out.below' hb)
  clear K18_g0
  have K19_h0 := Lib.hid (K18_h0.out.below' hb)
  clear K18_h0
  clear hb
  go_wp2_with fail
  refine (heldPicS _ _ _ 1 Qg0 _ (by have := K19_g0.out.len; rw [markV_len] at this; exact this) (by exact K19_g0.out.rd) (by omega) (by omega)).mono ?_
  rintro e wz ⟨rfl, rfl⟩
  go_wp2_with fail
  go_ret
  exact ⟨rfl, HB19.out⟩

set_option maxRecDepth 100000 in
theorem lifted (os : Os) (started : os.Started) (H : Type) (enc : TypeId × Value → H) :
    ReturnsInHanded {} Try.checked os 8 .any (Rows.fnExactCrossPlatesSpec.pre6 enc Try.prog Try.f8 Rows.fnExactCrossPlatesRow.domain false) (Rows.fnExactCrossPlatesSpec.post enc Try.prog Try.f8 false true false false) := by
  refine returnsInHanded_of_change (C := Try.checked) own started (by kernel_rfl) Try.func8
    (ChangeSpec.witness6 (enc := enc) (C := Try.checked) false ⟨#[], #[.slice none 0 0, .slice none 0 0], []⟩ 8 (by kernel_rfl) (by kernel_rfl) (by kernel_rfl) (by kernel_rfl)) ?_
  intro W base args ds gs before hval0 hW hcnd _
  have hval : ∀ (j : Nat) t v, Try.f8.params[j]? = some t → args[j]? = some v → Value.okWide Try.prog W .any base t v := hval0
  have hW' := hW
  have hlt := hW.lt
  obtain ⟨p, q, hA0, hV, rfl, hfz, hnd⟩ := hW
  have hA : DataW.TrodAll enc Try.prog W 0 (fun _ => true) true Try.f8.params.toList args.toList ds p := hA0
  rw [Try.params8] at hA hval
  obtain ⟨v0, vs0, d0, ds0, p0, q0, hargs, rfl, rfl, h0, r0⟩ := trodAll_cons hA
  obtain ⟨v1, vs1, d1, ds1, p1, q1, rfl, rfl, rfl, h1, r1⟩ := trodAll_cons r0
  obtain ⟨rfl, rfl, rfl⟩ := trodAll_nil r1
  obtain rfl : args = #[v0, v1] := by cases args; simp_all
  obtain ⟨rfl, rfl⟩ := trodVars_none hV
  clear hA0 hval0
  obtain ⟨ad0, n0, cap0, xs0, rfl, hn0, hr0, hl0, hx0⟩ := open_lintsP (hval 0 31 v0 rfl rfl) h0 (fun x hx => hlt x (by simp [hx]))
  obtain ⟨ad1, n1, cap1, xs1, rfl, hn1, hr1, hl1, hx1⟩ := open_lintsP (hval 1 31 v1 rfl rfl) h1 (fun x hx => hlt x (by simp [hx]))
  have fin : ∀ (e : Ending) W', (e = .returned (.bool true) ∧ Below W.heap.size W W') → ∃ v, e = .returned v ∧ Rows.fnExactCrossPlatesSpec.post enc Try.prog Try.f8 false true false false W #[.slice ad0 n0 cap0, .slice ad1 n1 cap1] v W' := by
    rintro e W' ⟨rfl, hb⟩
    exact ⟨_, rfl, law_post rfl rfl hW' (by kernel_rfl) rfl hb⟩
  by_cases b0 : (n0 : Int) ≤ 1048576
  case neg => exact (no0 ad0 n0 cap0 xs0 ad1 n1 cap1 xs1 W  (by omega) hl0).mono fin
  case pos =>
    by_cases b1 : (n1 : Int) ≤ 1048576
    case neg => exact (no1 ad0 n0 cap0 xs0 ad1 n1 cap1 xs1 W b0 (by omega) hl1).mono fin
    case pos =>
      exact (ok ad0 n0 cap0 xs0 ad1 n1 cap1 xs1 W hn0 hr0 hn1 hr1 b0 b1).mono fin

theorem proved : Rows.FnExactCrossPlatesSaid :=
  OpenClaim.holds_of_wide 8 Try.f8 rfl rfl rfl rfl rfl rfl rfl ⟨rfl, rfl, rfl, rfl, rfl⟩ rfl rfl rfl rfl rfl (by kernel_rfl) Try.func8 (by kernel_rfl)
    (of_decide_eq_true (by kernel_rfl)) (by unfold Func.isWrapper; first | (rw [if_pos (by decide +kernel)]; kernel_rfl) | (rw [if_neg (by decide +kernel)]; exact ⟨rfl, rfl⟩))
    (fun os started H enc _ => lifted os started H enc)
end Go.Proofs.Ythokmanjiebimaa.xCrossPlates
