/-
  FnTiled: of any picture that is drawn and tiled up to three times each way, what is cut out at whole tiles is the picture, one column further on nothing is cut out, and the amounts are those of the tiles: the law returns true for every code. No conditions.
-/
import Derived.Test.YtdcengccdoohbaaR12
import Derived.Test.YtdcengccdoohbaaFrameB
import Derived.Deep.RegionHeld3
namespace Go.Proofs.Ytdcengccdoohbaa.lTiled
open Go.ChangeShapes Go.WideShapes Go.ChangeAt Go.RowKit
set_option linter.unusedVariables false
set_option linter.unusedSimpArgs false
attribute [local go_sem ↓] Go.wp_at_zero Go.wp_at_succ

set_option maxHeartbeats 6400000 in
theorem ok (ad0 : Option Addr) (n0 cap0 : Nat) (bs0 : List Int) (w : World) (hn0 : bs0.length = n0) (hr0 : RdU w.heap.size w ad0 bs0) (hs0 : n0 ≤ 1048576) :
    Calls Try.prog 3 #[.slice ad0 n0 cap0] w fun e w' => e = .returned (.bool true) ∧ Below w.heap.size w w' := by
  have HL := Lib.hid hn0
  have HC := Lib.hid hr0
  clear hn0 hr0
  go_enter Try.func3, Try.ntmps3
  go_wp2_with fail
  refine (pic_call8 ad0 n0 cap0 bs0 _ HL.out (by exact HC.out) (by omega)).mono ?_
  rintro e w1 ⟨W, H, a, n, c, xs, rfl, b1, b2, b3, b4, hq, hn1, hn2, hl, hr, hp, hw, hb⟩
  have HQ := Lib.hid hq
  have HX := Lib.hid hl
  have PK := Lib.hid hp
  have HW := Lib.hid hw
  have RP2 := Lib.hid (hr.alloc (.cells #[.int .i64 W, .int .i64 H, .slice a n c] 25))
  have KP2 := Lib.hid (Blk.new w1 25 #[.int .i64 W, .int .i64 H, .slice a n c])
  have HB2 := Lib.hid (bAlloc hb (.cells #[.int .i64 W, .int .i64 H, .slice a n c] 25))
  clear hl hr hp hw hb hq
  obtain ⟨s, hs⟩ : ∃ s, isum xs = s := ⟨_, rfl⟩
  have hsb : 0 ≤ s ∧ s ≤ 16320 := by
    have h := isum_take_bd HW.out n
    rw [List.take_of_length_le (by have := HX.out; omega), hs] at h
    omega
  obtain ⟨hs1, hs2⟩ := hsb
  have S0 := Lib.hid hs
  clear hs
  go_wp2_with fail
  refine (at_call w.heap.size ad0 n0 cap0 bs0 1 _ HL.out (by exact HC.out.below HB2.out) hs0 (by omega) (by omega)).mono ?_
  rintro e w2 ⟨v1, rfl, hv1, rfl⟩
  obtain ⟨A, hA⟩ : ∃ A : Nat, 1 + (v1 : Int) % 3 = (A : Int) := ⟨(1 + (v1 : Int) % 3).toNat, by omega⟩
  have hA1 : (1 : Int) ≤ (A : Int) := by omega
  have hA2 : (A : Int) ≤ 3 := by omega
  go_wp2_with fail
  try rw [hA]
  clear hA
  refine (at_call w.heap.size ad0 n0 cap0 bs0 2 _ HL.out (by exact HC.out.below HB2.out) hs0 (by omega) (by omega)).mono ?_
  rintro e w2 ⟨v2, rfl, hv2, rfl⟩
  obtain ⟨B, hB⟩ : ∃ B : Nat, 1 + (v2 : Int) % 3 = (B : Int) := ⟨(1 + (v2 : Int) % 3).toNat, by omega⟩
  have hB1 : (1 : Int) ≤ (B : Int) := by omega
  have hB2 : (B : Int) ≤ 3 := by omega
  obtain ⟨X, hX⟩ : ∃ X : Int, (A : Int) * W = X := ⟨_, rfl⟩
  obtain ⟨Y, hY⟩ : ∃ Y : Int, (B : Int) * H = Y := ⟨_, rfl⟩
  have x1 : 1 * 1 ≤ (A : Int) * W := Int.mul_le_mul hA1 b1 (by omega) (by omega)
  have x2 : (A : Int) * W ≤ 3 * 8 := Int.mul_le_mul hA2 b2 (by omega) (by omega)
  have y1 : 1 * 1 ≤ (B : Int) * H := Int.mul_le_mul hB1 b3 (by omega) (by omega)
  have y2 : (B : Int) * H ≤ 3 * 8 := Int.mul_le_mul hB2 b4 (by omega) (by omega)
  rw [hX] at x1 x2
  rw [hY] at y1 y2
  have hu1 : IntKind.i64.wrap ((A : Int) * W) = X := by rw [hX]; exact IntWalk.i64_in _ (by omega)
  have hu2 : IntKind.i64.wrap ((B : Int) * H) = Y := by rw [hY]; exact IntWalk.i64_in _ (by omega)
  have hu3 : IntKind.i64.wrap X = X := IntWalk.i64_in _ (by omega)
  have hu4 : IntKind.i64.wrap Y = Y := IntWalk.i64_in _ (by omega)
  obtain ⟨N, hN⟩ : ∃ N : Nat, X * Y = (N : Int) := ⟨(X * Y).toNat, by have := Int.mul_nonneg (show 0 ≤ X by omega) (show 0 ≤ Y by omega); omega⟩
  have hN2 : N ≤ 576 := by
    have h := Int.mul_le_mul x2 y2 (by omega) (by omega)
    rw [hN] at h
    omega
  have HS : Hid (sizeOk X Y = true) := Lib.hid (by unfold sizeOk; rw [decide_eq_true_iff, hN]; omega)
  obtain ⟨T, hT⟩ : ∃ T, tileL W H X N xs = T := ⟨_, rfl⟩
  have HT := Lib.hid hT
  have HN := Lib.hid hN.symm
  have LT : Hid (T.length = N) := Lib.hid (by rw [← hT]; exact gen_len _ _)
  have PT : Hid (picOk X Y T 255 = true) := Lib.hid (by rw [← hT]; exact tile_ok HX.out PK.out HS.out hN.symm)
  obtain ⟨D, hD⟩ : ∃ D : Int, (A : Int) * (B : Int) = D := ⟨_, rfl⟩
  obtain ⟨Q, hQ⟩ : ∃ Q : Int, D * s = Q := ⟨_, rfl⟩
  have d1 : 1 * 1 ≤ (A : Int) * (B : Int) := Int.mul_le_mul hA1 hB1 (by omega) (by omega)
  have d2 : (A : Int) * (B : Int) ≤ 3 * 3 := Int.mul_le_mul hA2 hB2 (by omega) (by omega)
  rw [hD] at d1 d2
  have k1 : 0 ≤ D * s := Int.mul_nonneg (by omega) hs1
  have k2 : D * s ≤ 9 * 16320 := Int.mul_le_mul (by omega) hs2 hs1 (by omega)
  rw [hQ] at k1 k2
  have hNN : (N : Int) = (A : Int) * W * ((B : Int) * H) := by rw [hX, hY]; exact hN.symm
  have ST : Hid (isum T = Q) := Lib.hid (by
    have h := tile_sum A B HX.out HQ.out b1 b3 (by omega) hNN
    rw [hX, hT, S0.out, hD, hQ] at h
    exact h)
  obtain ⟨X0, hX0⟩ : ∃ X0 : Int, ((A : Int) - 1) * W = X0 := ⟨_, rfl⟩
  obtain ⟨Y0, hY0⟩ : ∃ Y0 : Int, ((B : Int) - 1) * H = Y0 := ⟨_, rfl⟩
  have CT : Hid (gen n (fun i => T.getD ((Y0 + (i : Int) / W) * X + X0 + (i : Int) % W).toNat 0) = xs) := Lib.hid (by
    have h := tile_crop (A : Int) (B : Int) HX.out HQ.out b1 b3 hA1 hB1 hNN
    rw [hX, hT, hX0, hY0] at h
    exact h)
  have hX1 : X0 = X - W := by rw [← hX0, ← hX, Int.sub_mul, Int.one_mul]
  have hY1 : Y0 = Y - H := by rw [← hY0, ← hY, Int.sub_mul, Int.one_mul]
  have t1 : 0 ≤ ((A : Int) - 1) * W := Int.mul_nonneg (by omega) (by omega)
  have t2 : 0 ≤ ((B : Int) - 1) * H := Int.mul_nonneg (by omega) (by omega)
  rw [hX0] at t1
  rw [hY0] at t2
  have t3 : X0 ≤ 24 := by omega
  have t4 : Y0 ≤ 24 := by omega
  have t5 : X0 ≤ X - W := by omega
  have t6 : Y0 ≤ Y - H := by omega
  have t7 : X - W < X0 + 1 := by omega
  have hu5 : IntKind.i64.wrap D = D := IntWalk.i64_in _ (by omega)
  have hu6 : IntKind.i64.wrap Q = Q := IntWalk.i64_in _ (by omega)
  have hu7 : IntKind.i64.wrap X0 = X0 := IntWalk.i64_in _ (by omega)
  have hu8 : IntKind.i64.wrap Y0 = Y0 := IntWalk.i64_in _ (by omega)
  have hu9 : IntKind.i64.wrap ((A : Int) * (B : Int)) = D := by rw [hD]; exact hu5
  have hua : IntKind.i64.wrap (D * s) = Q := by rw [hQ]; exact hu6
  have hub : IntKind.i64.wrap (((A : Int) - 1) * W) = X0 := by rw [hX0]; exact hu7
  have huc : IntKind.i64.wrap (((B : Int) - 1) * H) = Y0 := by rw [hY0]; exact hu8
  clear hT hN hNN hX1 hY1
  obtain ⟨lp, p0, p1, p2⟩ := KP2.out.c3
  go_wp2_with fail
  refine (tile_call W H a n c xs X Y N _ HX.out (by exact RP2.out) PK.out (by omega) HS.out HN.out).mono ?_
  rw [HT.out]
  rintro e w3 ⟨a3, c3, rfl, ho, hc1, hc2, hq⟩
  have HB3 := Lib.hid (bAlloc (bTrans HB2.out hq) (.cells #[.int .i64 X, .int .i64 Y, .slice a3 N c3] 25))
  have KP3 := Lib.hid ((KP2.out.below' hq).alloc (.cells #[.int .i64 X, .int .i64 Y, .slice a3 N c3] 25))
  have RP3 := Lib.hid ((RP2.out.below hq).alloc (.cells #[.int .i64 X, .int .i64 Y, .slice a3 N c3] 25))
  have RA3 := Lib.hid (ho.rd.alloc (.cells #[.int .i64 X, .int .i64 Y, .slice a3 N c3] 25))
  have KA3 := Lib.hid (Blk.new w3 25 #[.int .i64 X, .int .i64 Y, .slice a3 N c3])
  clear ho hq p0 p1 p2
  obtain ⟨lp3, p0, p1, p2⟩ := KP3.out.c3
  obtain ⟨la3, q0, q1, q2⟩ := KA3.out.c3
  go_wp2_with fail
  go_region_held3 (fun v => v.cell? ⟨w1.heap.size, 0, none⟩ = some (.int .i64 W) ∧ v.cell? ⟨w1.heap.size, 1, none⟩ = some (.int .i64 H) ∧ v.cell? ⟨w1.heap.size, 2, none⟩ = some (.slice a n c) ∧ v.cell? ⟨w3.heap.size, 0, none⟩ = some (.int .i64 X) ∧ v.cell? ⟨w3.heap.size, 1, none⟩ = some (.int .i64 Y) ∧ v.cell? ⟨w3.heap.size, 2, none⟩ = some (.slice a3 N c3))
    (first | exact ⟨p0, p1, p2, q0, q1, q2⟩)
    (first
      | (go_at_call 17; ((with_reducible refine (sum_call X Y a3 N c3 T Q _ LT.out (by exact RA3.out.drew) PT.out (by omega) ST.out).mono ?_); rintro e v4 ⟨rfl, hq⟩; have HB4 := Lib.hid (bTrans HB3.out.drew hq); have KP4 := Lib.hid (KP3.out.drew.below' hq); have KA4 := Lib.hid (KA3.out.drew.below' hq); have RP4 := Lib.hid (RP3.out.drew.below hq); have RA4 := Lib.hid (RA3.out.drew.below hq); obtain ⟨lp4, p0, p1, p2⟩ := KP4.out.c3; obtain ⟨la4, q0, q1, q2⟩ := KA4.out.c3))
      | (go_at_call 18; ((with_reducible refine (total_call a n c xs s _ HX.out (by exact RP4.out) HW.out (by omega) S0.out).mono ?_); rintro e v5 ⟨rfl, hq⟩; have HB5 := Lib.hid (bTrans HB4.out hq); have KP5 := Lib.hid (KP4.out.below' hq); have KA5 := Lib.hid (KA4.out.below' hq); have RP5 := Lib.hid (RP4.out.below hq); have RA5 := Lib.hid (RA4.out.below hq); obtain ⟨lp5, p0, p1, p2⟩ := KP5.out.c3; obtain ⟨la5, q0, q1, q2⟩ := KA5.out.c3)))
  clear p0 p1 p2 q0 q1 q2
  obtain ⟨lp6, p0, p1, p2⟩ := KP5.out.c3
  obtain ⟨la6, q0, q1, q2⟩ := KA5.out.c3
  go_wp2_with fail
  refine (crop_call X Y a3 N c3 T X0 Y0 W H n xs _ LT.out (by exact RA5.out) PT.out hc1 hc2 b1 t1 t5 b3 t2 t6 (by omega) (by omega) HQ.out CT.out).mono ?_
  rintro e w6 ⟨a6, c6, rfl, ho, hq⟩
  have HB6 := Lib.hid (bAlloc (bTrans HB5.out hq) (.cells #[.int .i64 W, .int .i64 H, .slice a6 n c6] 25))
  have KP6 := Lib.hid ((KP5.out.below' hq).alloc (.cells #[.int .i64 W, .int .i64 H, .slice a6 n c6] 25))
  have KA6 := Lib.hid ((KA5.out.below' hq).alloc (.cells #[.int .i64 W, .int .i64 H, .slice a6 n c6] 25))
  have RP6 := Lib.hid ((RP5.out.below hq).alloc (.cells #[.int .i64 W, .int .i64 H, .slice a6 n c6] 25))
  have RA6 := Lib.hid ((RA5.out.below hq).alloc (.cells #[.int .i64 W, .int .i64 H, .slice a6 n c6] 25))
  have RB6 := Lib.hid (ho.rd.alloc (.cells #[.int .i64 W, .int .i64 H, .slice a6 n c6] 25))
  have KB6 := Lib.hid (Blk.new w6 25 #[.int .i64 W, .int .i64 H, .slice a6 n c6])
  clear ho hq p0 p1 p2 q0 q1 q2
  obtain ⟨lp7, p0, p1, p2⟩ := KP6.out.c3
  obtain ⟨la7, q0, q1, q2⟩ := KA6.out.c3
  go_wp2_with fail
  refine (crop_no X Y a3 N c3 T (X0 + 1) 0 W H _ LT.out (by exact RA6.out) hc1 hc2 (by omega) (by omega) (by omega)).mono ?_
  rintro e w7 ⟨a7, n7, c7, rfl, hq⟩
  have HB7 := Lib.hid (bAlloc (bTrans HB6.out hq) (.cells #[.int .i64 0, .int .i64 0, .slice a7 n7 c7] 25))
  have KP7 := Lib.hid ((KP6.out.below' hq).alloc (.cells #[.int .i64 0, .int .i64 0, .slice a7 n7 c7] 25))
  have KB7 := Lib.hid ((KB6.out.below' hq).alloc (.cells #[.int .i64 0, .int .i64 0, .slice a7 n7 c7] 25))
  have RP7 := Lib.hid ((RP6.out.below hq).alloc (.cells #[.int .i64 0, .int .i64 0, .slice a7 n7 c7] 25))
  have RB7 := Lib.hid ((RB6.out.below hq).alloc (.cells #[.int .i64 0, .int .i64 0, .slice a7 n7 c7] 25))
  clear hq p0 p1 p2 q0 q1 q2
  obtain ⟨lp8, p0, p1, p2⟩ := KP7.out.c3
  obtain ⟨la8, q0, q1, q2⟩ := KB7.out.c3
  go_wp2_with fail
  refine (same_call W H a6 n c6 xs a n c xs _ HX.out (by exact RB7.out) (by omega) HX.out (by exact RP7.out) (by omega) rfl).mono ?_
  rintro e w8 ⟨rfl, hq⟩
  have HB8 := Lib.hid (bTrans HB7.out hq)
  clear hq
  go_wp2_with fail
  go_ret
  exact ⟨rfl, HB8.out⟩

set_option maxHeartbeats 400000 in
theorem big (ad0 : Option Addr) (n0 cap0 : Nat) (w : World) (h : 1048576 < n0) (hl : n0 ≤ 9223372036854775807) :
    Calls Try.prog 3 #[.slice ad0 n0 cap0] w fun e w' => e = .returned (.bool true) ∧ Below w.heap.size w w' := by
  have h2 : (1048576 : Int) < (n0 : Int) := by omega
  go_enter Try.func3, Try.ntmps3
  go_wp2_with fail
  go_ret
  exact ⟨rfl, Below.refl _ _⟩

set_option maxRecDepth 100000 in
theorem lifted (os : Os) (started : os.Started) (H : Type) (enc : TypeId × Value → H) :
    ReturnsInHanded {} Try.checked os 3 .any (Rows.fnTiledSpec.pre6 enc Try.prog Try.f3 Rows.fnTiledRow.domain false) (Rows.fnTiledSpec.post enc Try.prog Try.f3 false true false false) := by
  refine returnsInHanded_of_change (C := Try.checked) own started (by kernel_rfl) Try.func3
    (ChangeSpec.witness6 (enc := enc) (C := Try.checked) false ⟨#[], #[.slice none 0 0], []⟩ 8 (by kernel_rfl) (by kernel_rfl) (by kernel_rfl) (by kernel_rfl)) ?_
  intro W base args ds gs before hval0 hW hcnd _
  have hval : ∀ (j : Nat) t v, Try.f3.params[j]? = some t → args[j]? = some v → Value.okWide Try.prog W .any base t v := hval0
  have hW' := hW
  have hlt := hW.lt
  obtain ⟨p, q, hA0, hV, rfl, hfz, hnd⟩ := hW
  have hA : DataW.TrodAll enc Try.prog W 0 (fun _ => true) true Try.f3.params.toList args.toList ds p := hA0
  rw [Try.params3] at hA hval
  obtain ⟨v0, vs0, d0, ds0, p0, q0, hargs, rfl, rfl, h0, r0⟩ := trodAll_cons hA
  obtain ⟨rfl, rfl, rfl⟩ := trodAll_nil r0
  obtain rfl : args = #[v0] := by cases args; simp_all
  obtain ⟨rfl, rfl⟩ := trodVars_none hV
  clear hA0 hval0
  obtain ⟨ad0, n0, cap0, bs0, rfl, hn0, hr0, hl0⟩ := open_code (hval 0 22 v0 rfl rfl) h0 (fun x hx => hlt x (by simp [hx]))
  have fin : ∀ (e : Ending) W', (e = .returned (.bool true) ∧ Below W.heap.size W W') → ∃ v, e = .returned v ∧ Rows.fnTiledSpec.post enc Try.prog Try.f3 false true false false W #[.slice ad0 n0 cap0] v W' := by
    rintro e W' ⟨rfl, hb⟩
    exact ⟨_, rfl, law_post rfl rfl hW' (by kernel_rfl) rfl hb⟩
  by_cases hs0 : n0 ≤ 1048576
  case neg => exact (big ad0 n0 cap0 W (by omega) hl0).mono fin
  case pos => exact (ok ad0 n0 cap0 bs0 W hn0 hr0 hs0).mono fin

theorem proved : Rows.FnTiledSaid :=
  OpenClaim.holds_of_wide 3 Try.f3 rfl rfl rfl rfl rfl rfl rfl ⟨rfl, rfl, rfl, rfl, rfl⟩ rfl rfl rfl rfl rfl (by kernel_rfl) Try.func3 (by kernel_rfl)
    (of_decide_eq_true (by kernel_rfl)) (by unfold Func.isWrapper; first | (rw [if_pos (by decide +kernel)]; kernel_rfl) | (rw [if_neg (by decide +kernel)]; exact ⟨rfl, rfl⟩))
    (fun os started H enc _ => lifted os started H enc)

end Go.Proofs.Ytdcengccdoohbaa.lTiled
