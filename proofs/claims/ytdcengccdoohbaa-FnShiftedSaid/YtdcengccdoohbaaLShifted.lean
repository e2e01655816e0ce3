/-
  FnShifted: of any matrix that is drawn, two shifts are one shift by the sum, the shifted matrix is a matrix, and it has the rank of before where it was shifted to: the law returns true for every code. No conditions.
-/
import Derived.Test.YtdcengccdoohbaaR8
import Derived.Test.YtdcengccdoohbaaFrameB
import Derived.Deep.RegionHeld3
namespace Go.Proofs.Ytdcengccdoohbaa.lShifted
open Go.ChangeShapes Go.WideShapes Go.ChangeAt Go.RowKit
set_option linter.unusedVariables false
set_option linter.unusedSimpArgs false
attribute [local go_sem ↓] Go.wp_at_zero Go.wp_at_succ

set_option maxHeartbeats 3200000 in
theorem ok (ad0 : Option Addr) (n0 cap0 : Nat) (bs0 : List Int) (w : World) (hn0 : bs0.length = n0) (hr0 : RdU w.heap.size w ad0 bs0) (hs0 : n0 ≤ 1048576) :
    Calls Try.prog 10 #[.slice ad0 n0 cap0] w fun e w' => e = .returned (.bool true) ∧ Below w.heap.size w w' := by
  have HL := Lib.hid hn0
  have HC := Lib.hid hr0
  clear hn0 hr0
  go_enter Try.func10, Try.ntmps10
  go_wp2_with fail
  refine (spec_MakeMatrix ad0 n0 cap0 bs0 _ HL.out (by exact HC.out) (by omega)).mono ?_
  rintro e w1 ⟨W, H, a, n, cp, xs, rfl, mk, mw, mh, ho, hb⟩
  obtain ⟨m1, m2, m3, m4⟩ := matOk_bd ho.len mk
  obtain ⟨b1, b2, b3, b4, b5, b6⟩ := matSize_bd m1
  have hn1 : 1 ≤ n := by omega
  have hn2 : n ≤ 256 := by omega
  have MK := Lib.hid mk
  have HX := Lib.hid ho.len
  have HB1 := Lib.hid hb
  have RD2 := Lib.hid (ho.rd.alloc (.cells #[.int .i64 W, .int .i64 H, .slice a n cp] 42))
  have KM2 := Lib.hid (Blk.new w1 42 #[.int .i64 W, .int .i64 H, .slice a n cp])
  have HB2 := Lib.hid (bAlloc HB1.out (.cells #[.int .i64 W, .int .i64 H, .slice a n cp] 42))
  clear mk ho hb m1 m2 m3 m4 b5 b6
  go_wp2_with fail
  refine (at_call w.heap.size ad0 n0 cap0 bs0 1 _ HL.out (by exact HC.out.below HB2.out) hs0 (by omega) (by omega)).mono ?_
  rintro e w2 ⟨v1, rfl, hv1, rfl⟩
  go_wp2_with fail
  refine (at_call w.heap.size ad0 n0 cap0 bs0 2 _ HL.out (by exact HC.out.below HB2.out) hs0 (by omega) (by omega)).mono ?_
  rintro e w2 ⟨v2, rfl, hv2, rfl⟩
  go_wp2_with fail
  refine (at_call w.heap.size ad0 n0 cap0 bs0 3 _ HL.out (by exact HC.out.below HB2.out) hs0 (by omega) (by omega)).mono ?_
  rintro e w2 ⟨v3, rfl, hv3, rfl⟩
  go_wp2_with fail
  refine (at_call w.heap.size ad0 n0 cap0 bs0 4 _ HL.out (by exact HC.out.below HB2.out) hs0 (by omega) (by omega)).mono ?_
  rintro e w2 ⟨v4, rfl, hv4, rfl⟩
  have d0 : 0 ≤ (v3 : Int) % 40 := by omega
  have d1 : (v3 : Int) % 40 ≤ 39 := by omega
  have e0 : 0 ≤ (v4 : Int) % 40 := by omega
  have e1 : (v4 : Int) % 40 ≤ 39 := by omega
  go_wp2_with fail
  obtain ⟨D, hD⟩ : ∃ D : Int, (v3 : Int) % 40 - 20 = D := ⟨_, rfl⟩
  obtain ⟨E, hE⟩ : ∃ E : Int, (v4 : Int) % 40 - 20 = E := ⟨_, rfl⟩
  obtain ⟨A, hA⟩ : ∃ A : Int, (v1 : Int) - 128 = A := ⟨_, rfl⟩
  obtain ⟨B, hB⟩ : ∃ B : Int, (v2 : Int) - 128 = B := ⟨_, rfl⟩
  have hD0 : -20 ≤ D := by omega
  have hD1 : D ≤ 19 := by omega
  have hE0 : -20 ≤ E := by omega
  have hE1 : E ≤ 19 := by omega
  have hA0 : -128 ≤ A := by omega
  have hA1 : A ≤ 127 := by omega
  have hB0 : -128 ≤ B := by omega
  have hB1 : B ≤ 127 := by omega
  rw [hA, hB, hD, hE]
  clear hA hB hD hE d0 d1 e0 e1
  refine (shift_call W H a n cp xs A B _ HX.out (by exact RD2.out) MK.out (by omega) (by omega) (by omega) (by omega) (by omega)).mono ?_
  rintro e w3 ⟨a3, c3, rfl, ho3, hb3⟩
  have HB3 := Lib.hid (bAlloc (bTrans HB2.out hb3) (.cells #[.int .i64 W, .int .i64 H, .slice a3 n c3] 42))
  have RD3 := Lib.hid ((RD2.out.below hb3).alloc (.cells #[.int .i64 W, .int .i64 H, .slice a3 n c3] 42))
  have KM3 := Lib.hid ((KM2.out.below' hb3).alloc (.cells #[.int .i64 W, .int .i64 H, .slice a3 n c3] 42))
  have LR := Lib.hid ho3.len
  have RR3 := Lib.hid (ho3.rd.alloc (.cells #[.int .i64 W, .int .i64 H, .slice a3 n c3] 42))
  have KR3 := Lib.hid (Blk.new w3 42 #[.int .i64 W, .int .i64 H, .slice a3 n c3])
  have MS := Lib.hid (shift_ok HX.out MK.out A B)
  clear ho3 hb3
  go_wp2_with fail
  obtain ⟨l3, o0, o1, o2⟩ := KM3.out.c3
  obtain ⟨l4, p0, p1, p2⟩ := KR3.out.c3
  have hw1 : IntKind.i64.wrap (A + D) = A + D := IntWalk.i64_in _ (by omega)
  have hw2 : IntKind.i64.wrap (B + E) = B + E := IntWalk.i64_in _ (by omega)
  go_region_held3 (fun v => v.cell? ⟨w1.heap.size, 0, none⟩ = some (.int .i64 W) ∧ v.cell? ⟨w1.heap.size, 1, none⟩ = some (.int .i64 H) ∧ v.cell? ⟨w1.heap.size, 2, none⟩ = some (.slice a n cp) ∧ v.cell? ⟨w3.heap.size, 0, none⟩ = some (.int .i64 W) ∧ v.cell? ⟨w3.heap.size, 1, none⟩ = some (.int .i64 H) ∧ v.cell? ⟨w3.heap.size, 2, none⟩ = some (.slice a3 n c3))
    (first | exact ⟨o0, o1, o2, p0, p1, p2⟩ | exact ⟨z0, z1, z2, y0, y1, y2⟩)
    (first
      | (go_at_call 35; ((with_reducible refine (isM_call W H a3 n c3 (gen n (shiftG W H xs A B)) _ LR.out (by exact RR3.out.drew) MS.out (by omega)).mono ?_); rintro e v1 ⟨rfl, hq⟩; have HBq := Lib.hid (bTrans HB3.out.drew hq); have RDq := Lib.hid (RD3.out.drew.below hq); have RRq := Lib.hid (RR3.out.drew.below hq); have KMq := Lib.hid (KM3.out.drew.below' hq); have KRq := Lib.hid (KR3.out.drew.below' hq); obtain ⟨lz, z0, z1, z2⟩ := KMq.out.c3; obtain ⟨ly, y0, y1, y2⟩ := KRq.out.c3))
      | (go_at_call 45; ((with_reducible refine (shift_call W H a3 n c3 (gen n (shiftG W H xs A B)) D E _ LR.out (by exact RRq.out) MS.out (by omega) (by omega) (by omega) (by omega) (by omega)).mono ?_); rintro e v2 ⟨a5, c5, rfl, ho5, hq⟩; have HB5 := Lib.hid (bTrans HBq.out hq); have RD5 := Lib.hid (RDq.out.below hq); have RR5 := Lib.hid (RRq.out.below hq); have KM5 := Lib.hid (KMq.out.below' hq); have KR5 := Lib.hid (KRq.out.below' hq); have RS5 := Lib.hid ho5.rd; have LS := Lib.hid ho5.len; obtain ⟨lz, z0, z1, z2⟩ := KM5.out.c3; obtain ⟨ly, y0, y1, y2⟩ := KR5.out.c3))
      | (go_at_call 45; ((with_reducible refine (shift_call W H a n cp xs (A + D) (B + E) _ HX.out (by exact RD5.out) MK.out (by omega) (by omega) (by omega) (by omega) (by omega)).mono ?_); rintro e v3 ⟨a6, c6, rfl, ho6, hq⟩; have HB6 := Lib.hid (bTrans HB5.out hq); have RD6 := Lib.hid (RD5.out.below hq); have RR6 := Lib.hid (RR5.out.below hq); have KM6 := Lib.hid (KM5.out.below' hq); have KR6 := Lib.hid (KR5.out.below' hq); have RS6 := Lib.hid (RS5.out.below hq); have RT6 := Lib.hid ho6.rd; have LT := Lib.hid ho6.len; obtain ⟨lz, z0, z1, z2⟩ := KM6.out.c3; obtain ⟨ly, y0, y1, y2⟩ := KR6.out.c3))
      | (go_at_call 39; ((with_reducible refine (alike_call W H a5 n c5 _ a6 n c6 _ _ LS.out (by exact RS6.out) (by omega) LT.out (by exact RT6.out) (by omega) (shift_shift HX.out MK.out A B D E)).mono ?_); rintro e v4 ⟨rfl, hq⟩; have HB7 := Lib.hid (bTrans HB6.out hq); have RD7 := Lib.hid (RD6.out.below hq); have RR7 := Lib.hid (RR6.out.below hq); have KM7 := Lib.hid (KM6.out.below' hq); have KR7 := Lib.hid (KR6.out.below' hq); obtain ⟨lz, z0, z1, z2⟩ := KM7.out.c3; obtain ⟨ly, y0, y1, y2⟩ := KR7.out.c3)))
  go_wp2_with fail
  obtain ⟨lz, z0, z1, z2⟩ := KM7.out.c3
  obtain ⟨ly, y0, y1, y2⟩ := KR7.out.c3
  go_region_held3 (fun v => v.cell? ⟨w1.heap.size, 0, none⟩ = some (.int .i64 W) ∧ v.cell? ⟨w1.heap.size, 1, none⟩ = some (.int .i64 H) ∧ v.cell? ⟨w1.heap.size, 2, none⟩ = some (.slice a n cp) ∧ v.cell? ⟨w3.heap.size, 0, none⟩ = some (.int .i64 W) ∧ v.cell? ⟨w3.heap.size, 1, none⟩ = some (.int .i64 H) ∧ v.cell? ⟨w3.heap.size, 2, none⟩ = some (.slice a3 n c3))
    (first | exact ⟨z0, z1, z2, y0, y1, y2⟩ | exact ⟨t0, t1, t2, u0, u1, u2⟩)
    (first
      | (go_at_call 36; ((with_reducible refine (rank_call W H a3 n c3 (gen n (shiftG W H xs A B)) (A + D) (B + E) (rankOf W H xs D E) _ LR.out (by exact RR7.out.drew) MS.out (by omega) (by rw [shift_rank HX.out MK.out]; congr 1 <;> omega)).mono ?_); rintro e v5 ⟨rfl, hq⟩; have HB8 := Lib.hid (bTrans HB7.out.drew hq); have RD8 := Lib.hid (RD7.out.drew.below hq); have KM8 := Lib.hid (KM7.out.drew.below' hq); have KR8 := Lib.hid (KR7.out.drew.below' hq); obtain ⟨lt, t0, t1, t2⟩ := KM8.out.c3; obtain ⟨lu, u0, u1, u2⟩ := KR8.out.c3))
      | (go_at_call 36; ((with_reducible refine (rank_call W H a n cp xs D E (rankOf W H xs D E) _ HX.out (by exact RD8.out) MK.out (by omega) rfl).mono ?_); rintro e v6 ⟨rfl, hq⟩; have HB9 := Lib.hid (bTrans HB8.out hq); have KM9 := Lib.hid (KM8.out.below' hq); have KR9 := Lib.hid (KR8.out.below' hq); obtain ⟨lt, t0, t1, t2⟩ := KM9.out.c3; obtain ⟨lu, u0, u1, u2⟩ := KR9.out.c3)))
  go_wp2_with fail
  go_ret
  exact ⟨ret_bool (by simp), HB9.out⟩

set_option maxHeartbeats 400000 in
theorem big (ad0 : Option Addr) (n0 cap0 : Nat) (w : World) (h : 1048576 < n0) (hl : n0 ≤ 9223372036854775807) :
    Calls Try.prog 10 #[.slice ad0 n0 cap0] w fun e w' => e = .returned (.bool true) ∧ Below w.heap.size w w' := by
  have h2 : (1048576 : Int) < (n0 : Int) := by omega
  go_enter Try.func10, Try.ntmps10
  go_wp2_with fail
  go_ret
  exact ⟨rfl, Below.refl _ _⟩

set_option maxRecDepth 100000 in
theorem lifted (os : Os) (started : os.Started) (H : Type) (enc : TypeId × Value → H) :
    ReturnsInHanded {} Try.checked os 10 .any (Rows.fnShiftedSpec.pre6 enc Try.prog Try.f10 Rows.fnShiftedRow.domain false) (Rows.fnShiftedSpec.post enc Try.prog Try.f10 false true false false) := by
  refine returnsInHanded_of_change (C := Try.checked) own started (by kernel_rfl) Try.func10
    (ChangeSpec.witness6 (enc := enc) (C := Try.checked) false ⟨#[], #[.slice none 0 0], []⟩ 8 (by kernel_rfl) (by kernel_rfl) (by kernel_rfl) (by kernel_rfl)) ?_
  intro W base args ds gs before hval0 hW hcnd _
  have hval : ∀ (j : Nat) t v, Try.f10.params[j]? = some t → args[j]? = some v → Value.okWide Try.prog W .any base t v := hval0
  have hW' := hW
  have hlt := hW.lt
  obtain ⟨p, q, hA0, hV, rfl, hfz, hnd⟩ := hW
  have hA : DataW.TrodAll enc Try.prog W 0 (fun _ => true) true Try.f10.params.toList args.toList ds p := hA0
  rw [Try.params10] at hA hval
  obtain ⟨v0, vs0, d0, ds0, p0, q0, hargs, rfl, rfl, h0, r0⟩ := trodAll_cons hA
  obtain ⟨rfl, rfl, rfl⟩ := trodAll_nil r0
  obtain rfl : args = #[v0] := by cases args; simp_all
  obtain ⟨rfl, rfl⟩ := trodVars_none hV
  clear hA0 hval0
  obtain ⟨ad0, n0, cap0, bs0, rfl, hn0, hr0, hl0⟩ := open_code (hval 0 22 v0 rfl rfl) h0 (fun x hx => hlt x (by simp [hx]))
  have fin : ∀ (e : Ending) W', (e = .returned (.bool true) ∧ Below W.heap.size W W') → ∃ v, e = .returned v ∧ Rows.fnShiftedSpec.post enc Try.prog Try.f10 false true false false W #[.slice ad0 n0 cap0] v W' := by
    rintro e W' ⟨rfl, hb⟩
    exact ⟨_, rfl, law_post rfl rfl hW' (by kernel_rfl) rfl hb⟩
  by_cases hs0 : n0 ≤ 1048576
  case neg => exact (big ad0 n0 cap0 W (by omega) hl0).mono fin
  case pos => exact (ok ad0 n0 cap0 bs0 W hn0 hr0 hs0).mono fin

theorem proved : Rows.FnShiftedSaid :=
  OpenClaim.holds_of_wide 10 Try.f10 rfl rfl rfl rfl rfl rfl rfl ⟨rfl, rfl, rfl, rfl, rfl⟩ rfl rfl rfl rfl rfl (by kernel_rfl) Try.func10 (by kernel_rfl)
    (of_decide_eq_true (by kernel_rfl)) (by unfold Func.isWrapper; first | (rw [if_pos (by decide +kernel)]; kernel_rfl) | (rw [if_neg (by decide +kernel)]; exact ⟨rfl, rfl⟩))
    (fun os started H enc _ => lifted os started H enc)

end Go.Proofs.Ytdcengccdoohbaa.lShifted
