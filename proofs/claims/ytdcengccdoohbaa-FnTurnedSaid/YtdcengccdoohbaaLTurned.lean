/-
  FnTurned: of any picture that is drawn, four turns and two mirrors give it back, a turn between two mirrors is undone by a turn, and the amounts stay the same ones: the law returns true for every code. No conditions.
-/
import Derived.Test.YtdcengccdoohbaaR11
import Derived.Test.YtdcengccdoohbaaFrameB
import Derived.Deep.RegionHeld3
namespace Go.Proofs.Ytdcengccdoohbaa.lTurned
open Go.ChangeShapes Go.WideShapes Go.ChangeAt Go.RowKit
set_option linter.unusedVariables false
set_option linter.unusedSimpArgs false
attribute [local go_sem ↓] Go.wp_at_zero Go.wp_at_succ

set_option maxHeartbeats 6400000 in
theorem ok (ad0 : Option Addr) (n0 cap0 : Nat) (bs0 : List Int) (w : World) (hn0 : bs0.length = n0) (hr0 : RdU w.heap.size w ad0 bs0) (hs0 : n0 ≤ 1048576) :
    Calls Try.prog 4 #[.slice ad0 n0 cap0] w fun e w' => e = .returned (.bool true) ∧ Below w.heap.size w w' := by
  have HL := Lib.hid hn0
  have HC := Lib.hid hr0
  clear hn0 hr0
  go_enter Try.func4, Try.ntmps4
  go_wp2_with fail
  refine (pic_call ad0 n0 cap0 bs0 9 _ HL.out (by exact HC.out) (by omega) (by omega) (by omega)).mono ?_
  rintro e w1 ⟨W, H, a, n, c, xs, rfl, b1, b3, hq, hn1, hn2, hl, hr, hp, hw, hb⟩
  obtain ⟨A1, e1⟩ : ∃ A, turnL W H n xs = A := ⟨_, rfl⟩
  obtain ⟨A2, e2⟩ : ∃ A, turnL H W n A1 = A := ⟨_, rfl⟩
  obtain ⟨A3, e3⟩ : ∃ A, turnL W H n A2 = A := ⟨_, rfl⟩
  obtain ⟨M1, g1⟩ : ∃ A, mirL W n xs = A := ⟨_, rfl⟩
  obtain ⟨N1, g3⟩ : ∃ A, mirL H n A1 = A := ⟨_, rfl⟩
  obtain ⟨s, hs⟩ : ∃ s, isum xs = s := ⟨_, rfl⟩
  obtain ⟨z, hz⟩ : ∃ z : Int, (icount 0 xs : Int) = z := ⟨_, rfl⟩
  have hq2 : (n : Int) = H * W := by rw [Int.mul_comm]; exact hq
  have L1 := Lib.hid (e1 ▸ turnL_len : A1.length = n)
  have L2 := Lib.hid (e2 ▸ turnL_len : A2.length = n)
  have L3 := Lib.hid (e3 ▸ turnL_len : A3.length = n)
  have LM := Lib.hid (g1 ▸ mirL_len : M1.length = n)
  have LN := Lib.hid (g3 ▸ mirL_len : N1.length = n)
  have P1 := Lib.hid (e1 ▸ (turn_ok hl hp).2 : picOk H W A1 255 = true)
  have P2 := Lib.hid (e2 ▸ (turn_ok L1.out P1.out).2 : picOk W H A2 255 = true)
  have P3 := Lib.hid (e3 ▸ (turn_ok L2.out P2.out).2 : picOk H W A3 255 = true)
  have PM := Lib.hid (g1 ▸ (mir_ok hl hp).2 : picOk W H M1 255 = true)
  have PN := Lib.hid (g3 ▸ (mir_ok L1.out P1.out).2 : picOk H W N1 255 = true)
  have E4 : Hid (turnL H W n A3 = xs) := Lib.hid (by rw [← e3, ← e2, ← e1]; exact turn_4 hl hq b1 b3)
  have G2 : Hid (mirL W n M1 = xs) := Lib.hid (by rw [← g1]; exact mir_2 hl hq b1)
  have G4 : Hid (turnL H W n N1 = M1) := Lib.hid (by rw [← g3, ← e1, ← g1]; exact turn_mir hl hq b1 b3)
  have S0 := Lib.hid hs
  have S1 : Hid (isum A1 = s) := Lib.hid (by rw [← e1, ← hs]; exact isum_perm (turn_permL hl hq b1 b3))
  have S2 : Hid (isum A2 = s) := Lib.hid (by rw [← e2, ← S1.out]; exact isum_perm (turn_permL L1.out hq2 b3 b1))
  have C0 := Lib.hid hz
  have C1 : Hid ((icount 0 A1 : Int) = z) := Lib.hid (by rw [← e1, ← hz]; exact congrArg _ (icount_perm 0 (turn_permL hl hq b1 b3)))
  have E1 := Lib.hid e1
  have E2 := Lib.hid e2
  have E3 := Lib.hid e3
  have G1 := Lib.hid g1
  have G3 := Lib.hid g3
  have HX := Lib.hid hl
  have PK := Lib.hid hp
  have HW := Lib.hid hw
  have RP2 := Lib.hid (hr.alloc (.cells #[.int .i64 W, .int .i64 H, .slice a n c] 25))
  have KP2 := Lib.hid (Blk.new w1 25 #[.int .i64 W, .int .i64 H, .slice a n c])
  have HB2 := Lib.hid (bAlloc hb (.cells #[.int .i64 W, .int .i64 H, .slice a n c] 25))
  clear e1 e2 e3 g1 g3 hs hz hl hr hp hw hb hq hq2
  go_wp2_with fail
  refine (turn_call W H a n c xs A1 _ HX.out (by exact RP2.out) PK.out (by omega) E1.out).mono ?_
  rintro e w3 ⟨a3, c3, rfl, ho, hq⟩
  have HB3 := Lib.hid (bAlloc (bTrans HB2.out hq) (.cells #[.int .i64 H, .int .i64 W, .slice a3 n c3] 25))
  have KP3 := Lib.hid ((KP2.out.below' hq).alloc (.cells #[.int .i64 H, .int .i64 W, .slice a3 n c3] 25))
  have RP3 := Lib.hid ((RP2.out.below hq).alloc (.cells #[.int .i64 H, .int .i64 W, .slice a3 n c3] 25))
  have RA3 := Lib.hid (ho.rd.alloc (.cells #[.int .i64 H, .int .i64 W, .slice a3 n c3] 25))
  have KA3 := Lib.hid (Blk.new w3 25 #[.int .i64 H, .int .i64 W, .slice a3 n c3])
  clear ho hq
  go_wp2_with fail
  refine (turn_call H W a3 n c3 A1 A2 _ L1.out (by exact RA3.out) P1.out (by omega) E2.out).mono ?_
  rintro e w4 ⟨a4, c4, rfl, ho, hq⟩
  have HB4 := Lib.hid (bAlloc (bTrans HB3.out hq) (.cells #[.int .i64 W, .int .i64 H, .slice a4 n c4] 25))
  have KP4 := Lib.hid ((KP3.out.below' hq).alloc (.cells #[.int .i64 W, .int .i64 H, .slice a4 n c4] 25))
  have KA4 := Lib.hid ((KA3.out.below' hq).alloc (.cells #[.int .i64 W, .int .i64 H, .slice a4 n c4] 25))
  have RP4 := Lib.hid ((RP3.out.below hq).alloc (.cells #[.int .i64 W, .int .i64 H, .slice a4 n c4] 25))
  have RA4 := Lib.hid ((RA3.out.below hq).alloc (.cells #[.int .i64 W, .int .i64 H, .slice a4 n c4] 25))
  have RB4 := Lib.hid (ho.rd.alloc (.cells #[.int .i64 W, .int .i64 H, .slice a4 n c4] 25))
  have KB4 := Lib.hid (Blk.new w4 25 #[.int .i64 W, .int .i64 H, .slice a4 n c4])
  clear ho hq
  obtain ⟨lp4, p0, p1, p2⟩ := KP4.out.c3
  obtain ⟨lq4, q0, q1, q2⟩ := KA4.out.c3
  obtain ⟨lr4, r0, r1, r2⟩ := KB4.out.c3
  go_wp2_with fail
  go_region_held3 (fun v => v.cell? ⟨w1.heap.size, 0, none⟩ = some (.int .i64 W) ∧ v.cell? ⟨w1.heap.size, 1, none⟩ = some (.int .i64 H) ∧ v.cell? ⟨w1.heap.size, 2, none⟩ = some (.slice a n c) ∧ v.cell? ⟨w3.heap.size, 0, none⟩ = some (.int .i64 H) ∧ v.cell? ⟨w3.heap.size, 1, none⟩ = some (.int .i64 W) ∧ v.cell? ⟨w3.heap.size, 2, none⟩ = some (.slice a3 n c3) ∧ v.cell? ⟨w4.heap.size, 0, none⟩ = some (.int .i64 W) ∧ v.cell? ⟨w4.heap.size, 1, none⟩ = some (.int .i64 H) ∧ v.cell? ⟨w4.heap.size, 2, none⟩ = some (.slice a4 n c4))
    (first | exact ⟨p0, p1, p2, q0, q1, q2, r0, r1, r2⟩)
    (first
      | (go_at_call 21; ((with_reducible refine (turn_call W H a4 n c4 A2 A3 _ L2.out (by exact RB4.out.drew) P2.out (by omega) E3.out).mono ?_); rintro e v5 ⟨a5, c5, rfl, ho, hq⟩; have RE5 := Lib.hid ho.rd; clear ho; have HB5 := Lib.hid (bTrans HB4.out.drew hq); have KP5 := Lib.hid (KP4.out.drew.below' hq); have KA5 := Lib.hid (KA4.out.drew.below' hq); have KB5 := Lib.hid (KB4.out.drew.below' hq); have RP5 := Lib.hid (RP4.out.drew.below hq); have RA5 := Lib.hid (RA4.out.drew.below hq); have RB5 := Lib.hid (RB4.out.drew.below hq); obtain ⟨l05, p0, p1, p2⟩ := KP5.out.c3; obtain ⟨l15, q0, q1, q2⟩ := KA5.out.c3; obtain ⟨l25, r0, r1, r2⟩ := KB5.out.c3))
      | (go_at_call 21; ((with_reducible refine (turn_call H W a5 n c5 A3 xs _ L3.out (by exact RE5.out) P3.out (by omega) E4.out).mono ?_); rintro e v6 ⟨a6, c6, rfl, ho, hq⟩; have RE6 := Lib.hid ho.rd; clear ho; have HB6 := Lib.hid (bTrans HB5.out hq); have KP6 := Lib.hid (KP5.out.below' hq); have KA6 := Lib.hid (KA5.out.below' hq); have KB6 := Lib.hid (KB5.out.below' hq); have RP6 := Lib.hid (RP5.out.below hq); have RA6 := Lib.hid (RA5.out.below hq); have RB6 := Lib.hid (RB5.out.below hq); obtain ⟨l06, p0, p1, p2⟩ := KP6.out.c3; obtain ⟨l16, q0, q1, q2⟩ := KA6.out.c3; obtain ⟨l26, r0, r1, r2⟩ := KB6.out.c3))
      | (go_at_call 20; ((with_reducible refine (same_call W H a6 n c6 xs a n c xs _ HX.out (by exact RE6.out) (by omega) HX.out (by exact RP6.out) (by omega) rfl).mono ?_); rintro e v7 ⟨rfl, hq⟩; have HB7 := Lib.hid (bTrans HB6.out hq); have KP7 := Lib.hid (KP6.out.below' hq); have KA7 := Lib.hid (KA6.out.below' hq); have KB7 := Lib.hid (KB6.out.below' hq); have RP7 := Lib.hid (RP6.out.below hq); have RA7 := Lib.hid (RA6.out.below hq); have RB7 := Lib.hid (RB6.out.below hq); obtain ⟨l07, p0, p1, p2⟩ := KP7.out.c3; obtain ⟨l17, q0, q1, q2⟩ := KA7.out.c3; obtain ⟨l27, r0, r1, r2⟩ := KB7.out.c3)))
  clear p0 p1 p2 q0 q1 q2 r0 r1 r2
  go_wp2_with fail
  obtain ⟨lp7, p0, p1, p2⟩ := KP7.out.c3
  obtain ⟨lq7, q0, q1, q2⟩ := KA7.out.c3
  obtain ⟨lr7, r0, r1, r2⟩ := KB7.out.c3
  go_region_held3 (fun v => v.cell? ⟨w1.heap.size, 0, none⟩ = some (.int .i64 W) ∧ v.cell? ⟨w1.heap.size, 1, none⟩ = some (.int .i64 H) ∧ v.cell? ⟨w1.heap.size, 2, none⟩ = some (.slice a n c) ∧ v.cell? ⟨w3.heap.size, 0, none⟩ = some (.int .i64 H) ∧ v.cell? ⟨w3.heap.size, 1, none⟩ = some (.int .i64 W) ∧ v.cell? ⟨w3.heap.size, 2, none⟩ = some (.slice a3 n c3) ∧ v.cell? ⟨w4.heap.size, 0, none⟩ = some (.int .i64 W) ∧ v.cell? ⟨w4.heap.size, 1, none⟩ = some (.int .i64 H) ∧ v.cell? ⟨w4.heap.size, 2, none⟩ = some (.slice a4 n c4))
    (first | exact ⟨p0, p1, p2, q0, q1, q2, r0, r1, r2⟩)
    (first
      | (go_at_call 22; ((with_reducible refine (mir_call W H a n c xs M1 _ HX.out (by exact RP7.out.drew) PK.out (by omega) G1.out).mono ?_); rintro e v8 ⟨a8, c8, rfl, ho, hq⟩; have RE8 := Lib.hid ho.rd; clear ho; have HB8 := Lib.hid (bTrans HB7.out.drew hq); have KP8 := Lib.hid (KP7.out.drew.below' hq); have KA8 := Lib.hid (KA7.out.drew.below' hq); have KB8 := Lib.hid (KB7.out.drew.below' hq); have RP8 := Lib.hid (RP7.out.drew.below hq); have RA8 := Lib.hid (RA7.out.drew.below hq); have RB8 := Lib.hid (RB7.out.drew.below hq); obtain ⟨l08, p0, p1, p2⟩ := KP8.out.c3; obtain ⟨l18, q0, q1, q2⟩ := KA8.out.c3; obtain ⟨l28, r0, r1, r2⟩ := KB8.out.c3))
      | (go_at_call 22; ((with_reducible refine (mir_call W H a8 n c8 M1 xs _ LM.out (by exact RE8.out) PM.out (by omega) G2.out).mono ?_); rintro e v9 ⟨a9, c9, rfl, ho, hq⟩; have RE9 := Lib.hid ho.rd; clear ho; have HB9 := Lib.hid (bTrans HB8.out hq); have KP9 := Lib.hid (KP8.out.below' hq); have KA9 := Lib.hid (KA8.out.below' hq); have KB9 := Lib.hid (KB8.out.below' hq); have RP9 := Lib.hid (RP8.out.below hq); have RA9 := Lib.hid (RA8.out.below hq); have RB9 := Lib.hid (RB8.out.below hq); obtain ⟨l09, p0, p1, p2⟩ := KP9.out.c3; obtain ⟨l19, q0, q1, q2⟩ := KA9.out.c3; obtain ⟨l29, r0, r1, r2⟩ := KB9.out.c3))
      | (go_at_call 20; ((with_reducible refine (same_call W H a9 n c9 xs a n c xs _ HX.out (by exact RE9.out) (by omega) HX.out (by exact RP9.out) (by omega) rfl).mono ?_); rintro e v10 ⟨rfl, hq⟩; have HB10 := Lib.hid (bTrans HB9.out hq); have KP10 := Lib.hid (KP9.out.below' hq); have KA10 := Lib.hid (KA9.out.below' hq); have KB10 := Lib.hid (KB9.out.below' hq); have RP10 := Lib.hid (RP9.out.below hq); have RA10 := Lib.hid (RA9.out.below hq); have RB10 := Lib.hid (RB9.out.below hq); obtain ⟨l010, p0, p1, p2⟩ := KP10.out.c3; obtain ⟨l110, q0, q1, q2⟩ := KA10.out.c3; obtain ⟨l210, r0, r1, r2⟩ := KB10.out.c3))
      | (go_at_call 22; ((with_reducible refine (mir_call H W a3 n c3 A1 N1 _ L1.out (by exact RA10.out) P1.out (by omega) G3.out).mono ?_); rintro e v11 ⟨a11, c11, rfl, ho, hq⟩; have RE11 := Lib.hid ho.rd; clear ho; have HB11 := Lib.hid (bTrans HB10.out hq); have KP11 := Lib.hid (KP10.out.below' hq); have KA11 := Lib.hid (KA10.out.below' hq); have KB11 := Lib.hid (KB10.out.below' hq); have RP11 := Lib.hid (RP10.out.below hq); have RA11 := Lib.hid (RA10.out.below hq); have RB11 := Lib.hid (RB10.out.below hq); obtain ⟨l011, p0, p1, p2⟩ := KP11.out.c3; obtain ⟨l111, q0, q1, q2⟩ := KA11.out.c3; obtain ⟨l211, r0, r1, r2⟩ := KB11.out.c3))
      | (go_at_call 21; ((with_reducible refine (turn_call H W a11 n c11 N1 M1 _ LN.out (by exact RE11.out) PN.out (by omega) G4.out).mono ?_); rintro e v12 ⟨a12, c12, rfl, ho, hq⟩; have RE12 := Lib.hid ho.rd; clear ho; have HB12 := Lib.hid (bTrans HB11.out hq); have KP12 := Lib.hid (KP11.out.below' hq); have KA12 := Lib.hid (KA11.out.below' hq); have KB12 := Lib.hid (KB11.out.below' hq); have RP12 := Lib.hid (RP11.out.below hq); have RA12 := Lib.hid (RA11.out.below hq); have RB12 := Lib.hid (RB11.out.below hq); obtain ⟨l012, p0, p1, p2⟩ := KP12.out.c3; obtain ⟨l112, q0, q1, q2⟩ := KA12.out.c3; obtain ⟨l212, r0, r1, r2⟩ := KB12.out.c3))
      | (go_at_call 22; ((with_reducible refine (mir_call W H a n c xs M1 _ HX.out (by exact RP12.out) PK.out (by omega) G1.out).mono ?_); rintro e v13 ⟨a13, c13, rfl, ho, hq⟩; have RF13 := Lib.hid ho.rd; clear ho; have HB13 := Lib.hid (bTrans HB12.out hq); have KP13 := Lib.hid (KP12.out.below' hq); have KA13 := Lib.hid (KA12.out.below' hq); have KB13 := Lib.hid (KB12.out.below' hq); have RP13 := Lib.hid (RP12.out.below hq); have RA13 := Lib.hid (RA12.out.below hq); have RB13 := Lib.hid (RB12.out.below hq); have RE13 := Lib.hid (RE12.out.below hq); obtain ⟨l013, p0, p1, p2⟩ := KP13.out.c3; obtain ⟨l113, q0, q1, q2⟩ := KA13.out.c3; obtain ⟨l213, r0, r1, r2⟩ := KB13.out.c3))
      | (go_at_call 20; ((with_reducible refine (same_call W H a12 n c12 M1 a13 n c13 M1 _ LM.out (by exact RE13.out) (by omega) LM.out (by exact RF13.out) (by omega) rfl).mono ?_); rintro e v14 ⟨rfl, hq⟩; have HB14 := Lib.hid (bTrans HB13.out hq); have KP14 := Lib.hid (KP13.out.below' hq); have KA14 := Lib.hid (KA13.out.below' hq); have KB14 := Lib.hid (KB13.out.below' hq); have RP14 := Lib.hid (RP13.out.below hq); have RA14 := Lib.hid (RA13.out.below hq); have RB14 := Lib.hid (RB13.out.below hq); obtain ⟨l014, p0, p1, p2⟩ := KP14.out.c3; obtain ⟨l114, q0, q1, q2⟩ := KA14.out.c3; obtain ⟨l214, r0, r1, r2⟩ := KB14.out.c3)))
  clear p0 p1 p2 q0 q1 q2 r0 r1 r2
  go_wp2_with fail
  obtain ⟨lp14, p0, p1, p2⟩ := KP14.out.c3
  obtain ⟨lq14, q0, q1, q2⟩ := KA14.out.c3
  obtain ⟨lr14, r0, r1, r2⟩ := KB14.out.c3
  go_region_held3 (fun v => v.cell? ⟨w1.heap.size, 0, none⟩ = some (.int .i64 W) ∧ v.cell? ⟨w1.heap.size, 1, none⟩ = some (.int .i64 H) ∧ v.cell? ⟨w1.heap.size, 2, none⟩ = some (.slice a n c) ∧ v.cell? ⟨w3.heap.size, 0, none⟩ = some (.int .i64 H) ∧ v.cell? ⟨w3.heap.size, 1, none⟩ = some (.int .i64 W) ∧ v.cell? ⟨w3.heap.size, 2, none⟩ = some (.slice a3 n c3) ∧ v.cell? ⟨w4.heap.size, 0, none⟩ = some (.int .i64 W) ∧ v.cell? ⟨w4.heap.size, 1, none⟩ = some (.int .i64 H) ∧ v.cell? ⟨w4.heap.size, 2, none⟩ = some (.slice a4 n c4))
    (first | exact ⟨p0, p1, p2, q0, q1, q2, r0, r1, r2⟩)
    (first
      | (go_at_call 17; ((with_reducible refine (sum_call H W a3 n c3 A1 s _ L1.out (by exact RA14.out.drew) P1.out (by omega) S1.out).mono ?_); rintro e v15 ⟨rfl, hq⟩; have HB15 := Lib.hid (bTrans HB14.out.drew hq); have KP15 := Lib.hid (KP14.out.drew.below' hq); have KA15 := Lib.hid (KA14.out.drew.below' hq); have KB15 := Lib.hid (KB14.out.drew.below' hq); have RP15 := Lib.hid (RP14.out.drew.below hq); have RA15 := Lib.hid (RA14.out.drew.below hq); have RB15 := Lib.hid (RB14.out.drew.below hq); obtain ⟨l015, p0, p1, p2⟩ := KP15.out.c3; obtain ⟨l115, q0, q1, q2⟩ := KA15.out.c3; obtain ⟨l215, r0, r1, r2⟩ := KB15.out.c3))
      | (go_at_call 18; ((with_reducible refine (total_call a n c xs s _ HX.out (by exact RP15.out) HW.out (by omega) S0.out).mono ?_); rintro e v16 ⟨rfl, hq⟩; have HB16 := Lib.hid (bTrans HB15.out hq); have KP16 := Lib.hid (KP15.out.below' hq); have KA16 := Lib.hid (KA15.out.below' hq); have KB16 := Lib.hid (KB15.out.below' hq); have RP16 := Lib.hid (RP15.out.below hq); have RA16 := Lib.hid (RA15.out.below hq); have RB16 := Lib.hid (RB15.out.below hq); obtain ⟨l016, p0, p1, p2⟩ := KP16.out.c3; obtain ⟨l116, q0, q1, q2⟩ := KA16.out.c3; obtain ⟨l216, r0, r1, r2⟩ := KB16.out.c3))
      | (go_at_call 17; ((with_reducible refine (sum_call W H a4 n c4 A2 s _ L2.out (by exact RB16.out) P2.out (by omega) S2.out).mono ?_); rintro e v17 ⟨rfl, hq⟩; have HB17 := Lib.hid (bTrans HB16.out hq); have KP17 := Lib.hid (KP16.out.below' hq); have KA17 := Lib.hid (KA16.out.below' hq); have KB17 := Lib.hid (KB16.out.below' hq); have RP17 := Lib.hid (RP16.out.below hq); have RA17 := Lib.hid (RA16.out.below hq); have RB17 := Lib.hid (RB16.out.below hq); obtain ⟨l017, p0, p1, p2⟩ := KP17.out.c3; obtain ⟨l117, q0, q1, q2⟩ := KA17.out.c3; obtain ⟨l217, r0, r1, r2⟩ := KB17.out.c3))
      | (go_at_call 18; ((with_reducible refine (total_call a n c xs s _ HX.out (by exact RP17.out) HW.out (by omega) S0.out).mono ?_); rintro e v18 ⟨rfl, hq⟩; have HB18 := Lib.hid (bTrans HB17.out hq); have KP18 := Lib.hid (KP17.out.below' hq); have KA18 := Lib.hid (KA17.out.below' hq); have KB18 := Lib.hid (KB17.out.below' hq); have RP18 := Lib.hid (RP17.out.below hq); have RA18 := Lib.hid (RA17.out.below hq); have RB18 := Lib.hid (RB17.out.below hq); obtain ⟨l018, p0, p1, p2⟩ := KP18.out.c3; obtain ⟨l118, q0, q1, q2⟩ := KA18.out.c3; obtain ⟨l218, r0, r1, r2⟩ := KB18.out.c3))
      | (go_at_call 23; ((with_reducible refine (cnt_call H W a3 n c3 A1 0 z _ L1.out (by exact RA18.out) P1.out (by omega) C1.out).mono ?_); rintro e v19 ⟨rfl, hq⟩; have HB19 := Lib.hid (bTrans HB18.out hq); have KP19 := Lib.hid (KP18.out.below' hq); have KA19 := Lib.hid (KA18.out.below' hq); have KB19 := Lib.hid (KB18.out.below' hq); have RP19 := Lib.hid (RP18.out.below hq); have RA19 := Lib.hid (RA18.out.below hq); have RB19 := Lib.hid (RB18.out.below hq); obtain ⟨l019, p0, p1, p2⟩ := KP19.out.c3; obtain ⟨l119, q0, q1, q2⟩ := KA19.out.c3; obtain ⟨l219, r0, r1, r2⟩ := KB19.out.c3))
      | (go_at_call 23; ((with_reducible refine (cnt_call W H a n c xs 0 z _ HX.out (by exact RP19.out) PK.out (by omega) C0.out).mono ?_); rintro e v20 ⟨rfl, hq⟩; have HB20 := Lib.hid (bTrans HB19.out hq); have KP20 := Lib.hid (KP19.out.below' hq); have KA20 := Lib.hid (KA19.out.below' hq); have KB20 := Lib.hid (KB19.out.below' hq); have RP20 := Lib.hid (RP19.out.below hq); have RA20 := Lib.hid (RA19.out.below hq); have RB20 := Lib.hid (RB19.out.below hq); obtain ⟨l020, p0, p1, p2⟩ := KP20.out.c3; obtain ⟨l120, q0, q1, q2⟩ := KA20.out.c3; obtain ⟨l220, r0, r1, r2⟩ := KB20.out.c3)))
  go_wp2_with fail
  go_ret
  exact ⟨ret_bool (by simp), HB20.out⟩

set_option maxHeartbeats 400000 in
theorem big (ad0 : Option Addr) (n0 cap0 : Nat) (w : World) (h : 1048576 < n0) (hl : n0 ≤ 9223372036854775807) :
    Calls Try.prog 4 #[.slice ad0 n0 cap0] w fun e w' => e = .returned (.bool true) ∧ Below w.heap.size w w' := by
  have h2 : (1048576 : Int) < (n0 : Int) := by omega
  go_enter Try.func4, Try.ntmps4
  go_wp2_with fail
  go_ret
  exact ⟨rfl, Below.refl _ _⟩

set_option maxRecDepth 100000 in
theorem lifted (os : Os) (started : os.Started) (H : Type) (enc : TypeId × Value → H) :
    ReturnsInHanded {} Try.checked os 4 .any (Rows.fnTurnedSpec.pre6 enc Try.prog Try.f4 Rows.fnTurnedRow.domain false) (Rows.fnTurnedSpec.post enc Try.prog Try.f4 false true false false) := by
  refine returnsInHanded_of_change (C := Try.checked) own started (by kernel_rfl) Try.func4
    (ChangeSpec.witness6 (enc := enc) (C := Try.checked) false ⟨#[], #[.slice none 0 0], []⟩ 8 (by kernel_rfl) (by kernel_rfl) (by kernel_rfl) (by kernel_rfl)) ?_
  intro W base args ds gs before hval0 hW hcnd _
  have hval : ∀ (j : Nat) t v, Try.f4.params[j]? = some t → args[j]? = some v → Value.okWide Try.prog W .any base t v := hval0
  have hW' := hW
  have hlt := hW.lt
  obtain ⟨p, q, hA0, hV, rfl, hfz, hnd⟩ := hW
  have hA : DataW.TrodAll enc Try.prog W 0 (fun _ => true) true Try.f4.params.toList args.toList ds p := hA0
  rw [Try.params4] at hA hval
  obtain ⟨v0, vs0, d0, ds0, p0, q0, hargs, rfl, rfl, h0, r0⟩ := trodAll_cons hA
  obtain ⟨rfl, rfl, rfl⟩ := trodAll_nil r0
  obtain rfl : args = #[v0] := by cases args; simp_all
  obtain ⟨rfl, rfl⟩ := trodVars_none hV
  clear hA0 hval0
  obtain ⟨ad0, n0, cap0, bs0, rfl, hn0, hr0, hl0⟩ := open_code (hval 0 22 v0 rfl rfl) h0 (fun x hx => hlt x (by simp [hx]))
  have fin : ∀ (e : Ending) W', (e = .returned (.bool true) ∧ Below W.heap.size W W') → ∃ v, e = .returned v ∧ Rows.fnTurnedSpec.post enc Try.prog Try.f4 false true false false W #[.slice ad0 n0 cap0] v W' := by
    rintro e W' ⟨rfl, hb⟩
    exact ⟨_, rfl, law_post rfl rfl hW' (by kernel_rfl) rfl hb⟩
  by_cases hs0 : n0 ≤ 1048576
  case neg => exact (big ad0 n0 cap0 W (by omega) hl0).mono fin
  case pos => exact (ok ad0 n0 cap0 bs0 W hn0 hr0 hs0).mono fin

theorem proved : Rows.FnTurnedSaid :=
  OpenClaim.holds_of_wide 4 Try.f4 rfl rfl rfl rfl rfl rfl rfl ⟨rfl, rfl, rfl, rfl, rfl⟩ rfl rfl rfl rfl rfl (by kernel_rfl) Try.func4 (by kernel_rfl)
    (of_decide_eq_true (by kernel_rfl)) (by unfold Func.isWrapper; first | (rw [if_pos (by decide +kernel)]; kernel_rfl) | (rw [if_neg (by decide +kernel)]; exact ⟨rfl, rfl⟩))
    (fun os started H enc _ => lifted os started H enc)

end Go.Proofs.Ytdcengccdoohbaa.lTurned
