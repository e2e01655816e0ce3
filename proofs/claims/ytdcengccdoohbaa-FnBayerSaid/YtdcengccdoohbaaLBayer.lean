/-
  FnBayer: Bayer's matrix that is drawn has in each cell the rank that BayerRank tells, and the next one is the doubled one: the law returns true for every code. No conditions.
-/
import Derived.Test.YtdcengccdoohbaaR10
import Derived.Test.YtdcengccdoohbaaFrameB
import Derived.Deep.RegionHeld3
namespace Go.Proofs.Ytdcengccdoohbaa.lBayer
open Go.ChangeShapes Go.WideShapes Go.ChangeAt Go.RowKit
set_option linter.unusedVariables false
set_option linter.unusedSimpArgs false
attribute [local go_sem ↓] Go.wp_at_zero Go.wp_at_succ

set_option maxHeartbeats 3200000 in
theorem ok (ad0 : Option Addr) (n0 cap0 : Nat) (bs0 : List Int) (w : World) (hn0 : bs0.length = n0) (hr0 : RdU w.heap.size w ad0 bs0) (hs0 : n0 ≤ 1048576) :
    Calls Try.prog 7 #[.slice ad0 n0 cap0] w fun e w' => e = .returned (.bool true) ∧ Below w.heap.size w w' := by
  have HL := Lib.hid hn0
  have HC := Lib.hid hr0
  clear hn0 hr0
  go_enter Try.func7, Try.ntmps7
  go_wp2_with fail
  refine (at_call w.heap.size ad0 n0 cap0 bs0 1 _ HL.out (by exact HC.out) hs0 (by omega) (by omega)).mono ?_
  rintro e w0 ⟨v1, rfl, hv1, rfl⟩
  go_wp2_with fail
  obtain ⟨k, hk⟩ : ∃ k : Nat, (v1 : Int) % 5 = (k : Int) := ⟨((v1 : Int) % 5).toNat, by omega⟩
  have hk4 : k ≤ 4 := by omega
  rw [hk]
  clear hk
  refine (bayer_call k _ hk4).mono ?_
  rintro e w1 ⟨W, a, n, cp, xs, rfl, hB, ho, hb⟩
  obtain ⟨b1, b2, hn1, hn2, b5, b6⟩ := hB.bd
  have IB := Lib.hid hB
  have HX := Lib.hid ho.len
  have HQ := Lib.hid hB.q
  have RD2 := Lib.hid (ho.rd.alloc (.cells #[.int .i64 W, .int .i64 W, .slice a n cp] 42))
  have KM2 := Lib.hid (Blk.new w1 42 #[.int .i64 W, .int .i64 W, .slice a n cp])
  have HB2 := Lib.hid (bAlloc hb (.cells #[.int .i64 W, .int .i64 W, .slice a n cp] 42))
  have L4 := Lib.hid b5
  have L5 := Lib.hid b6
  clear hB ho hb b5 b6
  have hwq : IntKind.i64.wrap (W * W) = (n : Int) := by rw [← HQ.out]; exact IntWalk.i64_in _ (by omega)
  go_wp2_with fail
  obtain ⟨l1, o0, o1, o2⟩ := KM2.out.c3
  go_region_held3 (fun v => v.cell? ⟨w1.heap.size, 0, none⟩ = some (.int .i64 W) ∧ v.cell? ⟨w1.heap.size, 1, none⟩ = some (.int .i64 W) ∧ v.cell? ⟨w1.heap.size, 2, none⟩ = some (.slice a n cp))
    (first | exact ⟨o0, o1, o2⟩ | exact ⟨z0, z1, z2⟩)
    (first
      | (go_at_call 34; ((with_reducible refine (power_call k W n xs _ IB.out).mono ?_); rintro e v1 ⟨rfl, rfl⟩))
      | (go_at_call 35; ((with_reducible refine (isM_call W W a n cp xs _ HX.out (by exact RD2.out.drew) IB.out.ok (by omega)).mono ?_); rintro e v1 ⟨rfl, hq⟩; have HB3 := Lib.hid (bTrans HB2.out.drew hq); have RD3 := Lib.hid (RD2.out.drew.below hq); have KM3 := Lib.hid (KM2.out.drew.below' hq); obtain ⟨lz, z0, z1, z2⟩ := KM3.out.c3)))
  go_wp2_with fail
  refine (at_call w.heap.size ad0 n0 cap0 bs0 2 _ HL.out (by exact HC.out.below HB3.out) hs0 (by omega) (by omega)).mono ?_
  rintro e w4 ⟨v2, rfl, hv2, rfl⟩
  go_wp2_with fail
  refine (at_call w.heap.size ad0 n0 cap0 bs0 3 _ HL.out (by exact HC.out.below HB3.out) hs0 (by omega) (by omega)).mono ?_
  rintro e w4 ⟨v3, rfl, hv3, rfl⟩
  go_wp2_with fail
  obtain ⟨A, hA⟩ : ∃ A : Int, (v2 : Int) - 128 = A := ⟨_, rfl⟩
  obtain ⟨B, hB⟩ : ∃ B : Int, (v3 : Int) - 128 = B := ⟨_, rfl⟩
  rw [hA, hB]
  clear hA hB
  obtain ⟨lz, z0, z1, z2⟩ := KM3.out.c3
  go_wp2_with fail
  refine (rank_call W W a n cp xs A B (bayerR A B k) _ HX.out (by exact RD3.out) IB.out.ok (by omega) (IB.out.rank A B)).mono ?_
  rintro e v5 ⟨rfl, hq⟩
  have HB4 := Lib.hid (bTrans HB3.out hq)
  have RD4 := Lib.hid (RD3.out.below hq)
  have KM4 := Lib.hid (KM3.out.below' hq)
  clear hq z0 z1 z2
  go_wp2_with fail
  refine (brank_call k W n xs A B (bayerR A B k) _ IB.out rfl).mono ?_
  rintro e v6 ⟨rfl, hq⟩
  have HB5 := Lib.hid (bTrans HB4.out hq)
  have RD5 := Lib.hid (RD4.out.below hq)
  have KM5 := Lib.hid (KM4.out.below' hq)
  clear hq
  obtain ⟨lx, x0, x1, x2⟩ := KM5.out.c3
  go_wp2_with fail
  go_loopw [75] (fun i wr => ∃ j : Nat, j ≤ n ∧ i = .int .i64 j ∧ Below v6.heap.size v6 wr) (fun i _ => n - (intOf i).toNat)
  case atStart => exact ⟨0, Nat.zero_le _, rfl, Below.refl _ _⟩
  case round =>
    obtain ⟨j, hj, rfl, hwr⟩ := hrel
    have HBr := Lib.hid (bTrans HB5.out hwr)
    have HW := Lib.hid hwr
    have KMr := Lib.hid (KM5.out.below' hwr)
    have RDr := Lib.hid (RD5.out.below hwr)
    clear hwr
    obtain ⟨lm, q0, q1, q2⟩ := KMr.out.c3
    by_cases hlt : j < n
    · obtain ⟨P, hP⟩ : ∃ P : Int, (j : Int) % W = P := ⟨_, rfl⟩
      obtain ⟨Q, hQ⟩ : ∃ Q : Int, (j : Int) / W = Q := ⟨_, rfl⟩
      have hR := IB.out.at hlt
      rw [hP, hQ] at hR
      obtain ⟨R, hR2⟩ : ∃ R : Int, xs.getD j 0 = R := ⟨_, rfl⟩
      obtain ⟨ba, oa, hae, hal, hac⟩ := RDr.out.at (by have := HX.out; omega)
      have g1 := hac j (by have := HX.out; omega)
      rw [hR2] at g1 hR
      have HR := Lib.hid hR
      subst hae
      obtain ⟨q3, q4⟩ := mod_bd (j : Int) b1
      rw [hP] at q3 q4
      have q5 : 0 ≤ Q := by rw [← hQ]; exact Int.ediv_nonneg (by omega) (by omega)
      have q6 : Q ≤ (j : Int) := by rw [← hQ]; exact Int.ediv_le_self _ (by omega)
      have tP : (j : Int).tmod W = P := by rw [Int.tmod_eq_emod_of_nonneg (by omega)]; exact hP
      have tQ : (j : Int).tdiv W = Q := by rw [Int.tdiv_eq_ediv_of_nonneg (by omega)]; exact hQ
      have hu0 : IntKind.i64.wrap P = P := IntWalk.i64_in _ (by omega)
      have hu1 : IntKind.i64.wrap Q = Q := IntWalk.i64_in _ (by omega)
      have hW2 : ¬ W = 0 := by omega
      have hW0 : (W == 0) = false := by simp; omega
      clear hac hR hP hQ hR2
      go_wp2_with fail
      go_region_held3 (fun v => v.cell? ⟨w1.heap.size, 0, none⟩ = some (.int .i64 W))
        (first | exact q0 | exact y0)
        (first
          | (go_at_call 37; ((with_reducible refine (brank_call k W n xs P Q R _ IB.out HR.out).mono ?_); rintro e v7 ⟨rfl, hq⟩; have HWq := Lib.hid (bTrans HW.out.drew hq); have KMq := Lib.hid (KMr.out.drew.below' hq); obtain ⟨ly, y0, y1, y2⟩ := KMq.out.c3)))
      go_wp2_with fail
      go_roundw
      case rel => exact ⟨j + 1, by omega, by go_num, HWq.out⟩
      case measure => simp [intOf]; omega
    · obtain rfl : n = j := by omega
      go_wp2_with fail
      by_cases hk3 : k < 4
      · obtain ⟨m, hm⟩ : ∃ m : Nat, m = 4 * n := ⟨_, rfl⟩
        have hm2 : m ≤ 256 := by have := L4.out hk3; omega
        have hm3 : 4 * n ≤ 256 := L4.out hk3
        refine (dbl_call W W a n cp xs m _ HX.out (by exact RDr.out) IB.out.ok (by omega) hm (by omega)).mono ?_
        rintro e w3 ⟨a3, c3, rfl, ho3, hb3⟩
        have HB6 := Lib.hid (bAlloc (bTrans HBr.out hb3) (.cells #[.int .i64 (2 * W), .int .i64 (2 * W), .slice a3 m c3] 42))
        have LR := Lib.hid ho3.len
        have RR3 := Lib.hid (ho3.rd.alloc (.cells #[.int .i64 (2 * W), .int .i64 (2 * W), .slice a3 m c3] 42))
        have KR3 := Lib.hid (Blk.new w3 42 #[.int .i64 (2 * W), .int .i64 (2 * W), .slice a3 m c3])
        have HM := Lib.hid hm
        clear hb3 ho3 q0 q1 q2 hm
        go_wp2_with fail
        refine (bayer_next k W n m xs _ IB.out hk3 HM.out _ rfl).mono ?_
        rintro e w4 ⟨a4, c4, rfl, ho4, hb4⟩
        have HB7 := Lib.hid (bAlloc (bTrans HB6.out hb4) (.cells #[.int .i64 (2 * W), .int .i64 (2 * W), .slice a4 m c4] 42))
        have LS := Lib.hid ho4.len
        have RS4 := Lib.hid (ho4.rd.alloc (.cells #[.int .i64 (2 * W), .int .i64 (2 * W), .slice a4 m c4] 42))
        have RR4 := Lib.hid ((RR3.out.below hb4).alloc (.cells #[.int .i64 (2 * W), .int .i64 (2 * W), .slice a4 m c4] 42))
        have KS4 := Lib.hid (Blk.new w4 42 #[.int .i64 (2 * W), .int .i64 (2 * W), .slice a4 m c4])
        have KR4 := Lib.hid ((KR3.out.below' hb4).alloc (.cells #[.int .i64 (2 * W), .int .i64 (2 * W), .slice a4 m c4] 42))
        clear hb4 ho4
        have hki : (k : Int) < 4 := by omega
        obtain ⟨lp, p0, p1, p2⟩ := KR4.out.c3
        obtain ⟨ls, s0, s1, s2⟩ := KS4.out.c3
        go_wp2_with fail
        refine (alike_call (2 * W) (2 * W) a3 m c3 _ a4 m c4 _ _ LR.out (by exact RR4.out) (by omega) LS.out (by exact RS4.out) (by omega) rfl).mono ?_
        rintro e w5 ⟨rfl, hb5⟩
        have HB8 := Lib.hid (bTrans HB7.out hb5)
        clear hb5
        go_wp2_with fail
        go_ret
        exact ⟨rfl, HB8.out⟩
      · refine (dbl_no W W a n cp xs _ HX.out (by exact RDr.out) (by omega) (by have := L5.out hk3; omega)).mono ?_
        rintro e w3 ⟨a3, n3, c3, rfl, ho3, hb3⟩
        obtain rfl : n3 = 0 := ho3.len.symm
        have HB6 := Lib.hid (bAlloc (bTrans HBr.out hb3) (.cells #[.int .i64 0, .int .i64 0, .slice a3 0 c3] 42))
        have LR := Lib.hid ho3.len
        have RR3 := Lib.hid (ho3.rd.alloc (.cells #[.int .i64 0, .int .i64 0, .slice a3 0 c3] 42))
        have KR3 := Lib.hid (Blk.new w3 42 #[.int .i64 0, .int .i64 0, .slice a3 0 c3])
        clear hb3 ho3 q0 q1 q2
        go_wp2_with fail
        refine (bayer_end _ _ (by omega)).mono ?_
        rintro e w4 ⟨a4, n4, c4, rfl, ho4, hb4⟩
        obtain rfl : n4 = 0 := ho4.len.symm
        have HB7 := Lib.hid (bAlloc (bTrans HB6.out hb4) (.cells #[.int .i64 0, .int .i64 0, .slice a4 0 c4] 42))
        have LS := Lib.hid ho4.len
        have RS4 := Lib.hid (ho4.rd.alloc (.cells #[.int .i64 0, .int .i64 0, .slice a4 0 c4] 42))
        have RR4 := Lib.hid ((RR3.out.below hb4).alloc (.cells #[.int .i64 0, .int .i64 0, .slice a4 0 c4] 42))
        have KS4 := Lib.hid (Blk.new w4 42 #[.int .i64 0, .int .i64 0, .slice a4 0 c4])
        have KR4 := Lib.hid ((KR3.out.below' hb4).alloc (.cells #[.int .i64 0, .int .i64 0, .slice a4 0 c4] 42))
        clear hb4 ho4
        have hki : ¬ (k : Int) < 4 := by omega
        obtain ⟨lp, p0, p1, p2⟩ := KR4.out.c3
        obtain ⟨ls, s0, s1, s2⟩ := KS4.out.c3
        go_wp2_with fail
        any_goals (exfalso; omega)
        refine (alike_call 0 0 a3 0 c3 [] a4 0 c4 [] _ LR.out (by exact RR4.out) (by omega) LS.out (by exact RS4.out) (by omega) rfl).mono ?_
        rintro e w5 ⟨rfl, hb5⟩
        have HB8 := Lib.hid (bTrans HB7.out hb5)
        clear hb5
        go_wp2_with fail
        go_ret
        exact ⟨rfl, HB8.out⟩

set_option maxHeartbeats 400000 in
theorem big (ad0 : Option Addr) (n0 cap0 : Nat) (w : World) (h : 1048576 < n0) (hl : n0 ≤ 9223372036854775807) :
    Calls Try.prog 7 #[.slice ad0 n0 cap0] w fun e w' => e = .returned (.bool true) ∧ Below w.heap.size w w' := by
  have h2 : (1048576 : Int) < (n0 : Int) := by omega
  go_enter Try.func7, Try.ntmps7
  go_wp2_with fail
  go_ret
  exact ⟨rfl, Below.refl _ _⟩

set_option maxRecDepth 100000 in
theorem lifted (os : Os) (started : os.Started) (H : Type) (enc : TypeId × Value → H) :
    ReturnsInHanded {} Try.checked os 7 .any (Rows.fnBayerSpec.pre6 enc Try.prog Try.f7 Rows.fnBayerRow.domain false) (Rows.fnBayerSpec.post enc Try.prog Try.f7 false true false false) := by
  refine returnsInHanded_of_change (C := Try.checked) own started (by kernel_rfl) Try.func7
    (ChangeSpec.witness6 (enc := enc) (C := Try.checked) false ⟨#[], #[.slice none 0 0], []⟩ 8 (by kernel_rfl) (by kernel_rfl) (by kernel_rfl) (by kernel_rfl)) ?_
  intro W base args ds gs before hval0 hW hcnd _
  have hval : ∀ (j : Nat) t v, Try.f7.params[j]? = some t → args[j]? = some v → Value.okWide Try.prog W .any base t v := hval0
  have hW' := hW
  have hlt := hW.lt
  obtain ⟨p, q, hA0, hV, rfl, hfz, hnd⟩ := hW
  have hA : DataW.TrodAll enc Try.prog W 0 (fun _ => true) true Try.f7.params.toList args.toList ds p := hA0
  rw [Try.params7] at hA hval
  obtain ⟨v0, vs0, d0, ds0, p0, q0, hargs, rfl, rfl, h0, r0⟩ := trodAll_cons hA
  obtain ⟨rfl, rfl, rfl⟩ := trodAll_nil r0
  obtain rfl : args = #[v0] := by cases args; simp_all
  obtain ⟨rfl, rfl⟩ := trodVars_none hV
  clear hA0 hval0
  obtain ⟨ad0, n0, cap0, bs0, rfl, hn0, hr0, hl0⟩ := open_code (hval 0 22 v0 rfl rfl) h0 (fun x hx => hlt x (by simp [hx]))
  have fin : ∀ (e : Ending) W', (e = .returned (.bool true) ∧ Below W.heap.size W W') → ∃ v, e = .returned v ∧ Rows.fnBayerSpec.post enc Try.prog Try.f7 false true false false W #[.slice ad0 n0 cap0] v W' := by
    rintro e W' ⟨rfl, hb⟩
    exact ⟨_, rfl, law_post rfl rfl hW' (by kernel_rfl) rfl hb⟩
  by_cases hs0 : n0 ≤ 1048576
  case neg => exact (big ad0 n0 cap0 W (by omega) hl0).mono fin
  case pos => exact (ok ad0 n0 cap0 bs0 W hn0 hr0 hs0).mono fin

theorem proved : Rows.FnBayerSaid :=
  OpenClaim.holds_of_wide 7 Try.f7 rfl rfl rfl rfl rfl rfl rfl ⟨rfl, rfl, rfl, rfl, rfl⟩ rfl rfl rfl rfl rfl (by kernel_rfl) Try.func7 (by kernel_rfl)
    (of_decide_eq_true (by kernel_rfl)) (by unfold Func.isWrapper; first | (rw [if_pos (by decide +kernel)]; kernel_rfl) | (rw [if_neg (by decide +kernel)]; exact ⟨rfl, rfl⟩))
    (fun os started H enc _ => lifted os started H enc)

end Go.Proofs.Ytdcengccdoohbaa.lBayer
