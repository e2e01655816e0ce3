/-
  FnDoubled: of any matrix that is drawn, the doubled one has in each cell four times the rank of before and the rank of its quarter: the law returns true for every code. No conditions.
-/
import Derived.Test.YtdcengccdoohbaaR9
import Derived.Test.YtdcengccdoohbaaFrameB
import Derived.Deep.RegionHeld3
namespace Go.Proofs.Ytdcengccdoohbaa.lDoubled
open Go.ChangeShapes Go.WideShapes Go.ChangeAt Go.RowKit
set_option linter.unusedVariables false
set_option linter.unusedSimpArgs false
attribute [local go_sem ↓] Go.wp_at_zero Go.wp_at_succ

set_option maxHeartbeats 3200000 in
theorem ok (ad0 : Option Addr) (n0 cap0 : Nat) (bs0 : List Int) (w : World) (hn0 : bs0.length = n0) (hr0 : RdU w.heap.size w ad0 bs0) (hs0 : n0 ≤ 1048576) :
    Calls Try.prog 8 #[.slice ad0 n0 cap0] w fun e w' => e = .returned (.bool true) ∧ Below w.heap.size w w' := by
  have HL := Lib.hid hn0
  have HC := Lib.hid hr0
  clear hn0 hr0
  go_enter Try.func8, Try.ntmps8
  go_wp2_with fail
  refine (spec_MakeMatrix ad0 n0 cap0 bs0 _ HL.out (by exact HC.out) (by omega)).mono ?_
  rintro e w1 ⟨W, H, a, n, cp, xs, rfl, mk, mw, mh, ho, hb⟩
  obtain ⟨m1, m2, m3, m4⟩ := matOk_bd ho.len mk
  obtain ⟨b1, b2, b3, b4, b5, b6⟩ := matSize_bd m1
  have hn1 : 1 ≤ n := by omega
  have hn2 : n ≤ 256 := by omega
  have MK := Lib.hid mk
  have HX := Lib.hid ho.len
  have HB1 := Lib.hid hb
  have RD2 := Lib.hid (ho.rd.alloc (.cells #[.int .i64 W, .int .i64 H, .slice a n cp] 42))
  have KM2 := Lib.hid (Blk.new w1 42 #[.int .i64 W, .int .i64 H, .slice a n cp])
  have HB2 := Lib.hid (bAlloc HB1.out (.cells #[.int .i64 W, .int .i64 H, .slice a n cp] 42))
  clear mk ho hb m1 m2 m3 m4 b5 b6
  go_wp2_with fail
  by_cases h4 : 4 * n ≤ 256
  case neg =>
    refine (dbl_no W H a n cp xs _ HX.out (by exact RD2.out) (by omega) h4).mono ?_
    rintro e w3 ⟨a3, n3, c3, rfl, ho3, hb3⟩
    have HB3 := Lib.hid (bAlloc (bTrans HB2.out hb3) (.cells #[.int .i64 0, .int .i64 0, .slice a3 n3 c3] 42))
    have KM3 := Lib.hid ((KM2.out.below' hb3).alloc (.cells #[.int .i64 0, .int .i64 0, .slice a3 n3 c3] 42))
    clear hb3 ho3
    obtain ⟨l3, o0, o1, o2⟩ := KM3.out.c3
    have hle : ¬ (4 * (n : Int) ≤ 256) := by omega
    go_wp2_with fail
    go_ret
    exact ⟨ret_bool (by simp), HB3.out⟩
  case pos =>
    obtain ⟨m, hm⟩ : ∃ m : Nat, m = 4 * n := ⟨_, rfl⟩
    refine (dbl_call W H a n cp xs m _ HX.out (by exact RD2.out) MK.out (by omega) hm h4).mono ?_
    rintro e w3 ⟨a3, c3, rfl, ho3, hb3⟩
    have HB3 := Lib.hid (bAlloc (bTrans HB2.out hb3) (.cells #[.int .i64 (2 * W), .int .i64 (2 * H), .slice a3 m c3] 42))
    have KM3 := Lib.hid ((KM2.out.below' hb3).alloc (.cells #[.int .i64 (2 * W), .int .i64 (2 * H), .slice a3 m c3] 42))
    have RD3 := Lib.hid ((RD2.out.below hb3).alloc (.cells #[.int .i64 (2 * W), .int .i64 (2 * H), .slice a3 m c3] 42))
    have LR := Lib.hid ho3.len
    have RR3 := Lib.hid (ho3.rd.alloc (.cells #[.int .i64 (2 * W), .int .i64 (2 * H), .slice a3 m c3] 42))
    have KR3 := Lib.hid (Blk.new w3 42 #[.int .i64 (2 * W), .int .i64 (2 * H), .slice a3 m c3])
    have MD := Lib.hid (dbl_ok HX.out MK.out hm h4)
    have HM4 := Lib.hid hm
    have hle : 4 * (n : Int) ≤ 256 := by omega
    have hmi : (m : Int) = 4 * (n : Int) := by omega
    clear hb3 ho3 hm
    obtain ⟨l3, o0, o1, o2⟩ := KM3.out.c3
    go_wp2_with fail
    refine (isM_call (2 * W) (2 * H) a3 m c3 (gen m (dblG W H xs)) _ LR.out (by exact RR3.out) MD.out (by omega)).mono ?_
    rintro e w4 ⟨rfl, hb4⟩
    have HB4 := Lib.hid (bTrans HB3.out hb4)
    have KM4 := Lib.hid (KM3.out.below' hb4)
    have RD4 := Lib.hid (RD3.out.below hb4)
    have RR4 := Lib.hid (RR3.out.below hb4)
    have KR4 := Lib.hid (KR3.out.below' hb4)
    clear hb4
    obtain ⟨l4, z0, z1, z2⟩ := KM4.out.c3
    obtain ⟨l5, y0, y1, y2⟩ := KR4.out.c3
    go_wp2_with fail
    obtain ⟨e1, e2, e3, e4⟩ := matOk_bd HX.out MK.out
    have HQ := Lib.hid e2
    have HI := Lib.hid e3
    clear e1 e2 e3 e4
    go_loopw [54] (fun i wr => ∃ k : Nat, k ≤ m ∧ i = .int .i64 k ∧ Below w4.heap.size w4 wr) (fun i _ => m - (intOf i).toNat)
    case atStart => exact ⟨0, Nat.zero_le _, rfl, Below.refl _ _⟩
    case round =>
      obtain ⟨k, hk, rfl, hwr⟩ := hrel
      have HBr := Lib.hid (bTrans HB4.out hwr)
      have HW := Lib.hid hwr
      have KMr := Lib.hid (KM4.out.below' hwr)
      have KRr := Lib.hid (KR4.out.below' hwr)
      clear hwr
      obtain ⟨lm, q0, q1, q2⟩ := KMr.out.c3
      obtain ⟨lr, r0, r1, r2⟩ := KRr.out.c3
      by_cases hlt : k < m
      · obtain ⟨x0, x1, y0, y1, y2⟩ := dbl_xy HQ.out b1 b3 (by have := HM4.out; omega : k < 4 * n)
        obtain ⟨X, hX⟩ : ∃ X : Int, (k : Int) % (2 * W) = X := ⟨_, rfl⟩
        obtain ⟨Y, hY⟩ : ∃ Y : Int, (k : Int) / (2 * W) = Y := ⟨_, rfl⟩
        have hD : (gen m (dblG W H xs))[k]?.getD 0 = 4 * rankOf W H xs X Y + quarter (X / W) (Y / H) := by
          rw [← hX, ← hY]; exact gen_get m (dblG W H xs) k hlt
        rw [hX] at x0 x1
        rw [hY] at y0 y1
        obtain ⟨a0, a1⟩ := half_bd b1 x0 x1
        obtain ⟨c0, c1⟩ := half_bd b3 y0 y1
        obtain ⟨i0, i1, i2, i3⟩ := rank_idx HQ.out b1 b3 X Y
        obtain ⟨j0, j1⟩ := rankOf_bd HX.out HQ.out b1 b3 HI.out X Y
        obtain ⟨ba, oa, hae, hal, hac⟩ := (RD4.out.below HW.out).at (by have := HX.out; omega)
        obtain ⟨bd, od, hde, hdl, hdc⟩ := (RR4.out.below HW.out).at (by have := LR.out; omega)
        have g1 := hdc k (by have := LR.out; omega)
        have g2 := hac (Y % H * W + X % W).toNat (by have := HX.out; omega)
        subst hae hde
        clear hac hdc
        have hW1 : ¬ 2 * W = 0 := by omega
        have hW2 : ¬ W = 0 := by omega
        have hH2 : ¬ H = 0 := by omega
        have hW0 : (W == 0) = false := by simp; omega
        have hH0 : (H == 0) = false := by simp; omega
        go_wp2_with fail
        rw [hX]
        clear hD hX hY
        obtain ⟨R, hR⟩ : ∃ R : Int, rankOf W H xs X Y = R := ⟨_, rfl⟩
        have hR2 : xs.getD (Y % H * W + X % W).toNat 0 = R := hR
        rw [hR2] at g2
        rw [hR] at j0 j1
        rw [hR]
        obtain ⟨P, hP⟩ : ∃ P : Int, Y % H = P := ⟨_, rfl⟩
        obtain ⟨Q, hQ⟩ : ∃ Q : Int, X % W = Q := ⟨_, rfl⟩
        obtain ⟨q3, q4⟩ := mod_bd X b1
        obtain ⟨q5, q6⟩ := mod_bd Y b3
        have tP : Y.tmod H = P := by rw [Int.tmod_eq_emod_of_nonneg y0]; exact hP
        have tQ : X.tmod W = Q := by rw [Int.tmod_eq_emod_of_nonneg x0]; exact hQ
        rw [hP] at q5 q6 i0 i1 i2 i3 g2
        rw [hQ] at q3 q4 i1 i2 i3 g2
        obtain ⟨I, hI⟩ : ∃ I : Nat, P * W + Q = (I : Int) := ⟨(P * W + Q).toNat, by omega⟩
        have hPW : P * W ≤ (n : Int) := by omega
        have hu0 : IntKind.i64.wrap P = P := IntWalk.i64_in _ (by omega)
        have hu5 : IntKind.i64.wrap Q = Q := IntWalk.i64_in _ (by omega)
        have hu1 : IntKind.i64.wrap (P * W) = P * W := IntWalk.i64_in _ (by omega)
        have hu2 : IntKind.i64.wrap (P * W + Q) = (I : Int) := by rw [hI]; exact IntWalk.i64_in _ (by omega)
        have hI2 : (P * W + Q).toNat = I := by omega
        rw [hI2] at g2
        have hIn : (I : Int) < (n : Int) := by omega
        have hI0 : (0 : Int) ≤ (I : Int) := by omega
        have hu6 : IntKind.i64.wrap (I : Int) = (I : Int) := IntWalk.i64_in _ (by omega)
        clear hI2 hP hQ hR hR2 i3
        rcases quarter_cases a0 a1 c0 c1 with ⟨ea, eb, eq⟩ | ⟨ea, eb, eq⟩ | ⟨ea, eb, eq⟩ | ⟨ea, eb, eq⟩
        · rw [eq]
          clear eq
          have ta : X.tdiv W = 0 := by rw [Int.tdiv_eq_ediv_of_nonneg x0]; exact ea
          have tb : Y.tdiv H = 0 := by rw [Int.tdiv_eq_ediv_of_nonneg y0]; exact eb
          have hv0 : IntKind.i64.wrap 0 = 0 := by decide
          have hv1 : IntKind.i64.wrap 1 = 1 := by decide
          have hv2 : IntKind.i64.wrap 2 = 2 := by decide
          have hv3 : IntKind.i64.wrap 3 = 3 := by decide
          refine wp_region_held_drew (S := fun v => v.cell? ⟨w1.heap.size, 0, none⟩ = some (.int .i64 W) ∧ v.cell? ⟨w1.heap.size, 1, none⟩ = some (.int .i64 H)) (by kernel_rfl) ⟨q0, q1⟩ ?_
          intro hHeld
          (refine' wpAnyH_take (i := 1) (v := ?_) rfl (by kernel_rfl) (by kernel_rfl) (by kernel_rfl) (fun _ _ _ h => h) (Or.inl ⟨by rfl, ?_⟩) (by assumption) ?_; rotate_left; (· (intro w hSw; (try dsimp only at hSw); go_simp; try with_reducible rfl)); (try simp only [Act.put, List.setIfInBounds_toArray, List.set_cons_zero, List.set_cons_succ]))
          (refine' wpAnyH_take (i := 2) (v := ?_) rfl (by kernel_rfl) (by kernel_rfl) (by kernel_rfl) (fun _ _ _ h => h) (Or.inl ⟨by rfl, ?_⟩) (by assumption) ?_; rotate_left; (· (intro w hSw; (try dsimp only at hSw); go_simp; try with_reducible rfl)); (try simp only [Act.put, List.setIfInBounds_toArray, List.set_cons_zero, List.set_cons_succ]))
          (refine' wpAnyH_take (i := 3) (v := ?_) rfl (by kernel_rfl) (by kernel_rfl) (by kernel_rfl) (fun _ _ _ h => h) (Or.inl ⟨by rfl, ?_⟩) (by assumption) ?_; rotate_left; (· (intro w hSw; (try dsimp only at hSw); go_simp; try with_reducible rfl)); (try simp only [Act.put, List.setIfInBounds_toArray, List.set_cons_zero, List.set_cons_succ]))
          (refine' wpAnyH_take (i := 4) (v := ?_) rfl (by kernel_rfl) (by kernel_rfl) (by kernel_rfl) (fun _ _ _ h => h) (Or.inl ⟨by rfl, ?_⟩) (by assumption) ?_; rotate_left; (· (intro w hSw; (try dsimp only at hSw); go_simp; try with_reducible rfl)); (try simp only [Act.put, List.setIfInBounds_toArray, List.set_cons_zero, List.set_cons_succ]))
          (refine' wpAnyH_take (i := 5) (v := ?_) rfl (by kernel_rfl) (by kernel_rfl) (by kernel_rfl) (fun _ _ _ h => h) (Or.inl ⟨by rfl, ?_⟩) (by assumption) ?_; rotate_left; (· (intro w hSw; (try dsimp only at hSw); go_simp; try with_reducible rfl)); (try simp only [Act.put, List.setIfInBounds_toArray, List.set_cons_zero, List.set_cons_succ]))
          (refine' wpAnyH_take (i := 6) (v := ?_) rfl (by kernel_rfl) (by kernel_rfl) (by kernel_rfl) (fun _ _ _ h => h) (Or.inl ⟨by rfl, ?_⟩) (by assumption) ?_; rotate_left; (· (intro w hSw; (try dsimp only at hSw); go_simp; try with_reducible rfl)); (try simp only [Act.put, List.setIfInBounds_toArray, List.set_cons_zero, List.set_cons_succ]))
          (refine' wpAnyH_take (i := 7) (v := ?_) rfl (by kernel_rfl) (by kernel_rfl) (by kernel_rfl) (fun _ _ _ h => h) (Or.inl ⟨by rfl, ?_⟩) (by assumption) ?_; rotate_left; (· (intro w hSw; (try dsimp only at hSw); go_simp; try with_reducible rfl)); (try simp only [Act.put, List.setIfInBounds_toArray, List.set_cons_zero, List.set_cons_succ]))
          (refine' wpAnyH_take (i := 8) (v := ?_) rfl (by kernel_rfl) (by kernel_rfl) (by kernel_rfl) (fun _ _ _ h => h) (Or.inl ⟨by rfl, ?_⟩) (by assumption) ?_; rotate_left; (· (intro w hSw; (try dsimp only at hSw); go_simp; try with_reducible rfl)); (try simp only [Act.put, List.setIfInBounds_toArray, List.set_cons_zero, List.set_cons_succ]))
          (refine' wpAnyH_take (i := 9) (v := ?_) rfl (by kernel_rfl) (by kernel_rfl) (by kernel_rfl) (fun _ _ _ h => h) (Or.inl ⟨by rfl, ?_⟩) (by assumption) ?_; rotate_left; (· (intro w hSw; (try dsimp only at hSw); go_simp; try with_reducible rfl)); (try simp only [Act.put, List.setIfInBounds_toArray, List.set_cons_zero, List.set_cons_succ]))
          (refine' wpAnyH_take (i := 10) (v := ?_) rfl (by kernel_rfl) (by kernel_rfl) (by kernel_rfl) (fun _ _ _ h => h) (Or.inl ⟨by rfl, ?_⟩) (by assumption) ?_; rotate_left; (· (intro w hSw; (try dsimp only at hSw); go_simp; try with_reducible rfl)); (try simp only [Act.put, List.setIfInBounds_toArray, List.set_cons_zero, List.set_cons_succ]))
          refine wpAnyH_ready (rs := [0]) (by kernel_rfl) (by simp) ?_
          refine AllReadyH.cons rfl (fun K hK => ?_) AllReadyH.nil
          go_simp
          refine hK.out _ _ (by (try dsimp only); first | exact ⟨q0, q1⟩ | exact ⟨cell_al q0, cell_al q1⟩) (fun hHeld => ?_)
          clear hK K
          refine wpAnyH_ready (rs := [11]) (by kernel_rfl) (by simp) ?_
          refine AllReadyH.cons rfl (fun K hK => ?_) AllReadyH.nil
          go_simp
          refine hK.out _ _ (by (try dsimp only); first | exact ⟨q0, q1⟩ | exact ⟨cell_al q0, cell_al q1⟩) (fun hHeld => ?_)
          clear hK K
          refine wpAnyH_ready (rs := [12]) (by kernel_rfl) (by simp) ?_
          refine AllReadyH.cons rfl (fun K hK => ?_) AllReadyH.nil
          go_simp
          refine hK.out _ _ (by (try dsimp only); first | exact ⟨q0, q1⟩ | exact ⟨cell_al q0, cell_al q1⟩) (fun hHeld => ?_)
          clear hK K
          refine wpAnyH_ready (rs := [13]) (by kernel_rfl) (by simp) ?_
          refine AllReadyH.cons rfl (fun K hK => ?_) AllReadyH.nil
          go_simp
          refine hK.out _ _ (by (try dsimp only); first | exact ⟨q0, q1⟩ | exact ⟨cell_al q0, cell_al q1⟩) (fun hHeld => ?_)
          clear hK K
          refine wpAnyH_done (by kernel_rfl) ?_ _
          clear hHeld
          go_wp2_with fail
          have z0 := cell_al (O := .cells #[.int .i64 0, .int .i64 2, .int .i64 3, .int .i64 1] 3) q0
          have z1 := cell_al (O := .cells #[.int .i64 0, .int .i64 2, .int .i64 3, .int .i64 1] 3) q1
          have z2 := cell_al (O := .cells #[.int .i64 0, .int .i64 2, .int .i64 3, .int .i64 1] 3) q2
          have z3 := cell_al (O := .cells #[.int .i64 0, .int .i64 2, .int .i64 3, .int .i64 1] 3) g2
          have hu3 : IntKind.i64.wrap (4 * R) = 4 * R := IntWalk.i64_in _ (by omega)
          have hu4 : IntKind.i64.wrap (4 * R + 0) = 4 * R + 0 := IntWalk.i64_in _ (by omega)
          go_region_held3 (fun v => v.cell? ⟨w1.heap.size, 0, none⟩ = some (.int .i64 W) ∧ v.cell? ⟨w1.heap.size, 1, none⟩ = some (.int .i64 H) ∧ v.cell? ⟨w1.heap.size, 2, none⟩ = some (.slice (some ⟨ba, oa, none⟩) n cp) ∧ v.cell? ⟨ba, oa + I, none⟩ = some (.int .i64 R))
            (first | exact ⟨z0, z1, z2, z3⟩)
            (fail)
          go_wp2_with fail
          go_roundw
          case rel => exact ⟨k + 1, by omega, by go_num, ((HW.out.alloc (by have := HW.out.size; omega) _).drew).drew⟩
          case measure => simp [intOf]; omega
        · rw [eq]
          clear eq
          have ta : X.tdiv W = 1 := by rw [Int.tdiv_eq_ediv_of_nonneg x0]; exact ea
          have tb : Y.tdiv H = 0 := by rw [Int.tdiv_eq_ediv_of_nonneg y0]; exact eb
          have hv0 : IntKind.i64.wrap 0 = 0 := by decide
          have hv1 : IntKind.i64.wrap 1 = 1 := by decide
          have hv2 : IntKind.i64.wrap 2 = 2 := by decide
          have hv3 : IntKind.i64.wrap 3 = 3 := by decide
          refine wp_region_held_drew (S := fun v => v.cell? ⟨w1.heap.size, 0, none⟩ = some (.int .i64 W) ∧ v.cell? ⟨w1.heap.size, 1, none⟩ = some (.int .i64 H)) (by kernel_rfl) ⟨q0, q1⟩ ?_
          intro hHeld
          (refine' wpAnyH_take (i := 1) (v := ?_) rfl (by kernel_rfl) (by kernel_rfl) (by kernel_rfl) (fun _ _ _ h => h) (Or.inl ⟨by rfl, ?_⟩) (by assumption) ?_; rotate_left; (· (intro w hSw; (try dsimp only at hSw); go_simp; try with_reducible rfl)); (try simp only [Act.put, List.setIfInBounds_toArray, List.set_cons_zero, List.set_cons_succ]))
          (refine' wpAnyH_take (i := 2) (v := ?_) rfl (by kernel_rfl) (by kernel_rfl) (by kernel_rfl) (fun _ _ _ h => h) (Or.inl ⟨by rfl, ?_⟩) (by assumption) ?_; rotate_left; (· (intro w hSw; (try dsimp only at hSw); go_simp; try with_reducible rfl)); (try simp only [Act.put, List.setIfInBounds_toArray, List.set_cons_zero, List.set_cons_succ]))
          (refine' wpAnyH_take (i := 3) (v := ?_) rfl (by kernel_rfl) (by kernel_rfl) (by kernel_rfl) (fun _ _ _ h => h) (Or.inl ⟨by rfl, ?_⟩) (by assumption) ?_; rotate_left; (· (intro w hSw; (try dsimp only at hSw); go_simp; try with_reducible rfl)); (try simp only [Act.put, List.setIfInBounds_toArray, List.set_cons_zero, List.set_cons_succ]))
          (refine' wpAnyH_take (i := 4) (v := ?_) rfl (by kernel_rfl) (by kernel_rfl) (by kernel_rfl) (fun _ _ _ h => h) (Or.inl ⟨by rfl, ?_⟩) (by assumption) ?_; rotate_left; (· (intro w hSw; (try dsimp only at hSw); go_simp; try with_reducible rfl)); (try simp only [Act.put, List.setIfInBounds_toArray, List.set_cons_zero, List.set_cons_succ]))
          (refine' wpAnyH_take (i := 5) (v := ?_) rfl (by kernel_rfl) (by kernel_rfl) (by kernel_rfl) (fun _ _ _ h => h) (Or.inl ⟨by rfl, ?_⟩) (by assumption) ?_; rotate_left; (· (intro w hSw; (try dsimp only at hSw); go_simp; try with_reducible rfl)); (try simp only [Act.put, List.setIfInBounds_toArray, List.set_cons_zero, List.set_cons_succ]))
          (refine' wpAnyH_take (i := 6) (v := ?_) rfl (by kernel_rfl) (by kernel_rfl) (by kernel_rfl) (fun _ _ _ h => h) (Or.inl ⟨by rfl, ?_⟩) (by assumption) ?_; rotate_left; (· (intro w hSw; (try dsimp only at hSw); go_simp; try with_reducible rfl)); (try simp only [Act.put, List.setIfInBounds_toArray, List.set_cons_zero, List.set_cons_succ]))
          (refine' wpAnyH_take (i := 7) (v := ?_) rfl (by kernel_rfl) (by kernel_rfl) (by kernel_rfl) (fun _ _ _ h => h) (Or.inl ⟨by rfl, ?_⟩) (by assumption) ?_; rotate_left; (· (intro w hSw; (try dsimp only at hSw); go_simp; try with_reducible rfl)); (try simp only [Act.put, List.setIfInBounds_toArray, List.set_cons_zero, List.set_cons_succ]))
          (refine' wpAnyH_take (i := 8) (v := ?_) rfl (by kernel_rfl) (by kernel_rfl) (by kernel_rfl) (fun _ _ _ h => h) (Or.inl ⟨by rfl, ?_⟩) (by assumption) ?_; rotate_left; (· (intro w hSw; (try dsimp only at hSw); go_simp; try with_reducible rfl)); (try simp only [Act.put, List.setIfInBounds_toArray, List.set_cons_zero, List.set_cons_succ]))
          (refine' wpAnyH_take (i := 9) (v := ?_) rfl (by kernel_rfl) (by kernel_rfl) (by kernel_rfl) (fun _ _ _ h => h) (Or.inl ⟨by rfl, ?_⟩) (by assumption) ?_; rotate_left; (· (intro w hSw; (try dsimp only at hSw); go_simp; try with_reducible rfl)); (try simp only [Act.put, List.setIfInBounds_toArray, List.set_cons_zero, List.set_cons_succ]))
          (refine' wpAnyH_take (i := 10) (v := ?_) rfl (by kernel_rfl) (by kernel_rfl) (by kernel_rfl) (fun _ _ _ h => h) (Or.inl ⟨by rfl, ?_⟩) (by assumption) ?_; rotate_left; (· (intro w hSw; (try dsimp only at hSw); go_simp; try with_reducible rfl)); (try simp only [Act.put, List.setIfInBounds_toArray, List.set_cons_zero, List.set_cons_succ]))
          refine wpAnyH_ready (rs := [0]) (by kernel_rfl) (by simp) ?_
          refine AllReadyH.cons rfl (fun K hK => ?_) AllReadyH.nil
          go_simp
          refine hK.out _ _ (by (try dsimp only); first | exact ⟨q0, q1⟩ | exact ⟨cell_al q0, cell_al q1⟩) (fun hHeld => ?_)
          clear hK K
          refine wpAnyH_ready (rs := [11]) (by kernel_rfl) (by simp) ?_
          refine AllReadyH.cons rfl (fun K hK => ?_) AllReadyH.nil
          go_simp
          refine hK.out _ _ (by (try dsimp only); first | exact ⟨q0, q1⟩ | exact ⟨cell_al q0, cell_al q1⟩) (fun hHeld => ?_)
          clear hK K
          refine wpAnyH_ready (rs := [12]) (by kernel_rfl) (by simp) ?_
          refine AllReadyH.cons rfl (fun K hK => ?_) AllReadyH.nil
          go_simp
          refine hK.out _ _ (by (try dsimp only); first | exact ⟨q0, q1⟩ | exact ⟨cell_al q0, cell_al q1⟩) (fun hHeld => ?_)
          clear hK K
          refine wpAnyH_ready (rs := [13]) (by kernel_rfl) (by simp) ?_
          refine AllReadyH.cons rfl (fun K hK => ?_) AllReadyH.nil
          go_simp
          refine hK.out _ _ (by (try dsimp only); first | exact ⟨q0, q1⟩ | exact ⟨cell_al q0, cell_al q1⟩) (fun hHeld => ?_)
          clear hK K
          refine wpAnyH_done (by kernel_rfl) ?_ _
          clear hHeld
          go_wp2_with fail
          have z0 := cell_al (O := .cells #[.int .i64 0, .int .i64 2, .int .i64 3, .int .i64 1] 3) q0
          have z1 := cell_al (O := .cells #[.int .i64 0, .int .i64 2, .int .i64 3, .int .i64 1] 3) q1
          have z2 := cell_al (O := .cells #[.int .i64 0, .int .i64 2, .int .i64 3, .int .i64 1] 3) q2
          have z3 := cell_al (O := .cells #[.int .i64 0, .int .i64 2, .int .i64 3, .int .i64 1] 3) g2
          have hu3 : IntKind.i64.wrap (4 * R) = 4 * R := IntWalk.i64_in _ (by omega)
          have hu4 : IntKind.i64.wrap (4 * R + 2) = 4 * R + 2 := IntWalk.i64_in _ (by omega)
          go_region_held3 (fun v => v.cell? ⟨w1.heap.size, 0, none⟩ = some (.int .i64 W) ∧ v.cell? ⟨w1.heap.size, 1, none⟩ = some (.int .i64 H) ∧ v.cell? ⟨w1.heap.size, 2, none⟩ = some (.slice (some ⟨ba, oa, none⟩) n cp) ∧ v.cell? ⟨ba, oa + I, none⟩ = some (.int .i64 R))
            (first | exact ⟨z0, z1, z2, z3⟩)
            (fail)
          go_wp2_with fail
          go_roundw
          case rel => exact ⟨k + 1, by omega, by go_num, ((HW.out.alloc (by have := HW.out.size; omega) _).drew).drew⟩
          case measure => simp [intOf]; omega
        · rw [eq]
          clear eq
          have ta : X.tdiv W = 0 := by rw [Int.tdiv_eq_ediv_of_nonneg x0]; exact ea
          have tb : Y.tdiv H = 1 := by rw [Int.tdiv_eq_ediv_of_nonneg y0]; exact eb
          have hv0 : IntKind.i64.wrap 0 = 0 := by decide
          have hv1 : IntKind.i64.wrap 1 = 1 := by decide
          have hv2 : IntKind.i64.wrap 2 = 2 := by decide
          have hv3 : IntKind.i64.wrap 3 = 3 := by decide
          refine wp_region_held_drew (S := fun v => v.cell? ⟨w1.heap.size, 0, none⟩ = some (.int .i64 W) ∧ v.cell? ⟨w1.heap.size, 1, none⟩ = some (.int .i64 H)) (by kernel_rfl) ⟨q0, q1⟩ ?_
          intro hHeld
          (refine' wpAnyH_take (i := 1) (v := ?_) rfl (by kernel_rfl) (by kernel_rfl) (by kernel_rfl) (fun _ _ _ h => h) (Or.inl ⟨by rfl, ?_⟩) (by assumption) ?_; rotate_left; (· (intro w hSw; (try dsimp only at hSw); go_simp; try with_reducible rfl)); (try simp only [Act.put, List.setIfInBounds_toArray, List.set_cons_zero, List.set_cons_succ]))
          (refine' wpAnyH_take (i := 2) (v := ?_) rfl (by kernel_rfl) (by kernel_rfl) (by kernel_rfl) (fun _ _ _ h => h) (Or.inl ⟨by rfl, ?_⟩) (by assumption) ?_; rotate_left; (· (intro w hSw; (try dsimp only at hSw); go_simp; try with_reducible rfl)); (try simp only [Act.put, List.setIfInBounds_toArray, List.set_cons_zero, List.set_cons_succ]))
          (refine' wpAnyH_take (i := 3) (v := ?_) rfl (by kernel_rfl) (by kernel_rfl) (by kernel_rfl) (fun _ _ _ h => h) (Or.inl ⟨by rfl, ?_⟩) (by assumption) ?_; rotate_left; (· (intro w hSw; (try dsimp only at hSw); go_simp; try with_reducible rfl)); (try simp only [Act.put, List.setIfInBounds_toArray, List.set_cons_zero, List.set_cons_succ]))
          (refine' wpAnyH_take (i := 4) (v := ?_) rfl (by kernel_rfl) (by kernel_rfl) (by kernel_rfl) (fun _ _ _ h => h) (Or.inl ⟨by rfl, ?_⟩) (by assumption) ?_; rotate_left; (· (intro w hSw; (try dsimp only at hSw); go_simp; try with_reducible rfl)); (try simp only [Act.put, List.setIfInBounds_toArray, List.set_cons_zero, List.set_cons_succ]))
          (refine' wpAnyH_take (i := 5) (v := ?_) rfl (by kernel_rfl) (by kernel_rfl) (by kernel_rfl) (fun _ _ _ h => h) (Or.inl ⟨by rfl, ?_⟩) (by assumption) ?_; rotate_left; (· (intro w hSw; (try dsimp only at hSw); go_simp; try with_reducible rfl)); (try simp only [Act.put, List.setIfInBounds_toArray, List.set_cons_zero, List.set_cons_succ]))
          (refine' wpAnyH_take (i := 6) (v := ?_) rfl (by kernel_rfl) (by kernel_rfl) (by kernel_rfl) (fun _ _ _ h => h) (Or.inl ⟨by rfl, ?_⟩) (by assumption) ?_; rotate_left; (· (intro w hSw; (try dsimp only at hSw); go_simp; try with_reducible rfl)); (try simp only [Act.put, List.setIfInBounds_toArray, List.set_cons_zero, List.set_cons_succ]))
          (refine' wpAnyH_take (i := 7) (v := ?_) rfl (by kernel_rfl) (by kernel_rfl) (by kernel_rfl) (fun _ _ _ h => h) (Or.inl ⟨by rfl, ?_⟩) (by assumption) ?_; rotate_left; (· (intro w hSw; (try dsimp only at hSw); go_simp; try with_reducible rfl)); (try simp only [Act.put, List.setIfInBounds_toArray, List.set_cons_zero, List.set_cons_succ]))
          (refine' wpAnyH_take (i := 8) (v := ?_) rfl (by kernel_rfl) (by kernel_rfl) (by kernel_rfl) (fun _ _ _ h => h) (Or.inl ⟨by rfl, ?_⟩) (by assumption) ?_; rotate_left; (· (intro w hSw; (try dsimp only at hSw); go_simp; try with_reducible rfl)); (try simp only [Act.put, List.setIfInBounds_toArray, List.set_cons_zero, List.set_cons_succ]))
          (refine' wpAnyH_take (i := 9) (v := ?_) rfl (by kernel_rfl) (by kernel_rfl) (by kernel_rfl) (fun _ _ _ h => h) (Or.inl ⟨by rfl, ?_⟩) (by assumption) ?_; rotate_left; (· (intro w hSw; (try dsimp only at hSw); go_simp; try with_reducible rfl)); (try simp only [Act.put, List.setIfInBounds_toArray, List.set_cons_zero, List.set_cons_succ]))
          (refine' wpAnyH_take (i := 10) (v := ?_) rfl (by kernel_rfl) (by kernel_rfl) (by kernel_rfl) (fun _ _ _ h => h) (Or.inl ⟨by rfl, ?_⟩) (by assumption) ?_; rotate_left; (· (intro w hSw; (try dsimp only at hSw); go_simp; try with_reducible rfl)); (try simp only [Act.put, List.setIfInBounds_toArray, List.set_cons_zero, List.set_cons_succ]))
          refine wpAnyH_ready (rs := [0]) (by kernel_rfl) (by simp) ?_
          refine AllReadyH.cons rfl (fun K hK => ?_) AllReadyH.nil
          go_simp
          refine hK.out _ _ (by (try dsimp only); first | exact ⟨q0, q1⟩ | exact ⟨cell_al q0, cell_al q1⟩) (fun hHeld => ?_)
          clear hK K
          refine wpAnyH_ready (rs := [11]) (by kernel_rfl) (by simp) ?_
          refine AllReadyH.cons rfl (fun K hK => ?_) AllReadyH.nil
          go_simp
          refine hK.out _ _ (by (try dsimp only); first | exact ⟨q0, q1⟩ | exact ⟨cell_al q0, cell_al q1⟩) (fun hHeld => ?_)
          clear hK K
          refine wpAnyH_ready (rs := [12]) (by kernel_rfl) (by simp) ?_
          refine AllReadyH.cons rfl (fun K hK => ?_) AllReadyH.nil
          go_simp
          refine hK.out _ _ (by (try dsimp only); first | exact ⟨q0, q1⟩ | exact ⟨cell_al q0, cell_al q1⟩) (fun hHeld => ?_)
          clear hK K
          refine wpAnyH_ready (rs := [13]) (by kernel_rfl) (by simp) ?_
          refine AllReadyH.cons rfl (fun K hK => ?_) AllReadyH.nil
          go_simp
          refine hK.out _ _ (by (try dsimp only); first | exact ⟨q0, q1⟩ | exact ⟨cell_al q0, cell_al q1⟩) (fun hHeld => ?_)
          clear hK K
          refine wpAnyH_done (by kernel_rfl) ?_ _
          clear hHeld
          go_wp2_with fail
          have z0 := cell_al (O := .cells #[.int .i64 0, .int .i64 2, .int .i64 3, .int .i64 1] 3) q0
          have z1 := cell_al (O := .cells #[.int .i64 0, .int .i64 2, .int .i64 3, .int .i64 1] 3) q1
          have z2 := cell_al (O := .cells #[.int .i64 0, .int .i64 2, .int .i64 3, .int .i64 1] 3) q2
          have z3 := cell_al (O := .cells #[.int .i64 0, .int .i64 2, .int .i64 3, .int .i64 1] 3) g2
          have hu3 : IntKind.i64.wrap (4 * R) = 4 * R := IntWalk.i64_in _ (by omega)
          have hu4 : IntKind.i64.wrap (4 * R + 3) = 4 * R + 3 := IntWalk.i64_in _ (by omega)
          go_region_held3 (fun v => v.cell? ⟨w1.heap.size, 0, none⟩ = some (.int .i64 W) ∧ v.cell? ⟨w1.heap.size, 1, none⟩ = some (.int .i64 H) ∧ v.cell? ⟨w1.heap.size, 2, none⟩ = some (.slice (some ⟨ba, oa, none⟩) n cp) ∧ v.cell? ⟨ba, oa + I, none⟩ = some (.int .i64 R))
            (first | exact ⟨z0, z1, z2, z3⟩)
            (fail)
          go_wp2_with fail
          go_roundw
          case rel => exact ⟨k + 1, by omega, by go_num, ((HW.out.alloc (by have := HW.out.size; omega) _).drew).drew⟩
          case measure => simp [intOf]; omega
        · rw [eq]
          clear eq
          have ta : X.tdiv W = 1 := by rw [Int.tdiv_eq_ediv_of_nonneg x0]; exact ea
          have tb : Y.tdiv H = 1 := by rw [Int.tdiv_eq_ediv_of_nonneg y0]; exact eb
          have hv0 : IntKind.i64.wrap 0 = 0 := by decide
          have hv1 : IntKind.i64.wrap 1 = 1 := by decide
          have hv2 : IntKind.i64.wrap 2 = 2 := by decide
          have hv3 : IntKind.i64.wrap 3 = 3 := by decide
          refine wp_region_held_drew (S := fun v => v.cell? ⟨w1.heap.size, 0, none⟩ = some (.int .i64 W) ∧ v.cell? ⟨w1.heap.size, 1, none⟩ = some (.int .i64 H)) (by kernel_rfl) ⟨q0, q1⟩ ?_
          intro hHeld
          (refine' wpAnyH_take (i := 1) (v := ?_) rfl (by kernel_rfl) (by kernel_rfl) (by kernel_rfl) (fun _ _ _ h => h) (Or.inl ⟨by rfl, ?_⟩) (by assumption) ?_; rotate_left; (· (intro w hSw; (try dsimp only at hSw); go_simp; try with_reducible rfl)); (try simp only [Act.put, List.setIfInBounds_toArray, List.set_cons_zero, List.set_cons_succ]))
          (refine' wpAnyH_take (i := 2) (v := ?_) rfl (by kernel_rfl) (by kernel_rfl) (by kernel_rfl) (fun _ _ _ h => h) (Or.inl ⟨by rfl, ?_⟩) (by assumption) ?_; rotate_left; (· (intro w hSw; (try dsimp only at hSw); go_simp; try with_reducible rfl)); (try simp only [Act.put, List.setIfInBounds_toArray, List.set_cons_zero, List.set_cons_succ]))
          (refine' wpAnyH_take (i := 3) (v := ?_) rfl (by kernel_rfl) (by kernel_rfl) (by kernel_rfl) (fun _ _ _ h => h) (Or.inl ⟨by rfl, ?_⟩) (by assumption) ?_; rotate_left; (· (intro w hSw; (try dsimp only at hSw); go_simp; try with_reducible rfl)); (try simp only [Act.put, List.setIfInBounds_toArray, List.set_cons_zero, List.set_cons_succ]))
          (refine' wpAnyH_take (i := 4) (v := ?_) rfl (by kernel_rfl) (by kernel_rfl) (by kernel_rfl) (fun _ _ _ h => h) (Or.inl ⟨by rfl, ?_⟩) (by assumption) ?_; rotate_left; (· (intro w hSw; (try dsimp only at hSw); go_simp; try with_reducible rfl)); (try simp only [Act.put, List.setIfInBounds_toArray, List.set_cons_zero, List.set_cons_succ]))
          (refine' wpAnyH_take (i := 5) (v := ?_) rfl (by kernel_rfl) (by kernel_rfl) (by kernel_rfl) (fun _ _ _ h => h) (Or.inl ⟨by rfl, ?_⟩) (by assumption) ?_; rotate_left; (· (intro w hSw; (try dsimp only at hSw); go_simp; try with_reducible rfl)); (try simp only [Act.put, List.setIfInBounds_toArray, List.set_cons_zero, List.set_cons_succ]))
          (refine' wpAnyH_take (i := 6) (v := ?_) rfl (by kernel_rfl) (by kernel_rfl) (by kernel_rfl) (fun _ _ _ h => h) (Or.inl ⟨by rfl, ?_⟩) (by assumption) ?_; rotate_left; (· (intro w hSw; (try dsimp only at hSw); go_simp; try with_reducible rfl)); (try simp only [Act.put, List.setIfInBounds_toArray, List.set_cons_zero, List.set_cons_succ]))
          (refine' wpAnyH_take (i := 7) (v := ?_) rfl (by kernel_rfl) (by kernel_rfl) (by kernel_rfl) (fun _ _ _ h => h) (Or.inl ⟨by rfl, ?_⟩) (by assumption) ?_; rotate_left; (· (intro w hSw; (try dsimp only at hSw); go_simp; try with_reducible rfl)); (try simp only [Act.put, List.setIfInBounds_toArray, List.set_cons_zero, List.set_cons_succ]))
          (refine' wpAnyH_take (i := 8) (v := ?_) rfl (by kernel_rfl) (by kernel_rfl) (by kernel_rfl) (fun _ _ _ h => h) (Or.inl ⟨by rfl, ?_⟩) (by assumption) ?_; rotate_left; (· (intro w hSw; (try dsimp only at hSw); go_simp; try with_reducible rfl)); (try simp only [Act.put, List.setIfInBounds_toArray, List.set_cons_zero, List.set_cons_succ]))
          (refine' wpAnyH_take (i := 9) (v := ?_) rfl (by kernel_rfl) (by kernel_rfl) (by kernel_rfl) (fun _ _ _ h => h) (Or.inl ⟨by rfl, ?_⟩) (by assumption) ?_; rotate_left; (· (intro w hSw; (try dsimp only at hSw); go_simp; try with_reducible rfl)); (try simp only [Act.put, List.setIfInBounds_toArray, List.set_cons_zero, List.set_cons_succ]))
          (refine' wpAnyH_take (i := 10) (v := ?_) rfl (by kernel_rfl) (by kernel_rfl) (by kernel_rfl) (fun _ _ _ h => h) (Or.inl ⟨by rfl, ?_⟩) (by assumption) ?_; rotate_left; (· (intro w hSw; (try dsimp only at hSw); go_simp; try with_reducible rfl)); (try simp only [Act.put, List.setIfInBounds_toArray, List.set_cons_zero, List.set_cons_succ]))
          refine wpAnyH_ready (rs := [0]) (by kernel_rfl) (by simp) ?_
          refine AllReadyH.cons rfl (fun K hK => ?_) AllReadyH.nil
          go_simp
          refine hK.out _ _ (by (try dsimp only); first | exact ⟨q0, q1⟩ | exact ⟨cell_al q0, cell_al q1⟩) (fun hHeld => ?_)
          clear hK K
          refine wpAnyH_ready (rs := [11]) (by kernel_rfl) (by simp) ?_
          refine AllReadyH.cons rfl (fun K hK => ?_) AllReadyH.nil
          go_simp
          refine hK.out _ _ (by (try dsimp only); first | exact ⟨q0, q1⟩ | exact ⟨cell_al q0, cell_al q1⟩) (fun hHeld => ?_)
          clear hK K
          refine wpAnyH_ready (rs := [12]) (by kernel_rfl) (by simp) ?_
          refine AllReadyH.cons rfl (fun K hK => ?_) AllReadyH.nil
          go_simp
          refine hK.out _ _ (by (try dsimp only); first | exact ⟨q0, q1⟩ | exact ⟨cell_al q0, cell_al q1⟩) (fun hHeld => ?_)
          clear hK K
          refine wpAnyH_ready (rs := [13]) (by kernel_rfl) (by simp) ?_
          refine AllReadyH.cons rfl (fun K hK => ?_) AllReadyH.nil
          go_simp
          refine hK.out _ _ (by (try dsimp only); first | exact ⟨q0, q1⟩ | exact ⟨cell_al q0, cell_al q1⟩) (fun hHeld => ?_)
          clear hK K
          refine wpAnyH_done (by kernel_rfl) ?_ _
          clear hHeld
          go_wp2_with fail
          have z0 := cell_al (O := .cells #[.int .i64 0, .int .i64 2, .int .i64 3, .int .i64 1] 3) q0
          have z1 := cell_al (O := .cells #[.int .i64 0, .int .i64 2, .int .i64 3, .int .i64 1] 3) q1
          have z2 := cell_al (O := .cells #[.int .i64 0, .int .i64 2, .int .i64 3, .int .i64 1] 3) q2
          have z3 := cell_al (O := .cells #[.int .i64 0, .int .i64 2, .int .i64 3, .int .i64 1] 3) g2
          have hu3 : IntKind.i64.wrap (4 * R) = 4 * R := IntWalk.i64_in _ (by omega)
          have hu4 : IntKind.i64.wrap (4 * R + 1) = 4 * R + 1 := IntWalk.i64_in _ (by omega)
          go_region_held3 (fun v => v.cell? ⟨w1.heap.size, 0, none⟩ = some (.int .i64 W) ∧ v.cell? ⟨w1.heap.size, 1, none⟩ = some (.int .i64 H) ∧ v.cell? ⟨w1.heap.size, 2, none⟩ = some (.slice (some ⟨ba, oa, none⟩) n cp) ∧ v.cell? ⟨ba, oa + I, none⟩ = some (.int .i64 R))
            (first | exact ⟨z0, z1, z2, z3⟩)
            (fail)
          go_wp2_with fail
          go_roundw
          case rel => exact ⟨k + 1, by omega, by go_num, ((HW.out.alloc (by have := HW.out.size; omega) _).drew).drew⟩
          case measure => simp [intOf]; omega
      · obtain rfl : m = k := by omega
        go_wp2_with fail
        go_ret
        exact ⟨rfl, HBr.out⟩

set_option maxHeartbeats 400000 in
theorem big (ad0 : Option Addr) (n0 cap0 : Nat) (w : World) (h : 1048576 < n0) (hl : n0 ≤ 9223372036854775807) :
    Calls Try.prog 8 #[.slice ad0 n0 cap0] w fun e w' => e = .returned (.bool true) ∧ Below w.heap.size w w' := by
  have h2 : (1048576 : Int) < (n0 : Int) := by omega
  go_enter Try.func8, Try.ntmps8
  go_wp2_with fail
  go_ret
  exact ⟨rfl, Below.refl _ _⟩

set_option maxRecDepth 100000 in
theorem lifted (os : Os) (started : os.Started) (H : Type) (enc : TypeId × Value → H) :
    ReturnsInHanded {} Try.checked os 8 .any (Rows.fnDoubledSpec.pre6 enc Try.prog Try.f8 Rows.fnDoubledRow.domain false) (Rows.fnDoubledSpec.post enc Try.prog Try.f8 false true false false) := by
  refine returnsInHanded_of_change (C := Try.checked) own started (by kernel_rfl) Try.func8
    (ChangeSpec.witness6 (enc := enc) (C := Try.checked) false ⟨#[], #[.slice none 0 0], []⟩ 8 (by kernel_rfl) (by kernel_rfl) (by kernel_rfl) (by kernel_rfl)) ?_
  intro W base args ds gs before hval0 hW hcnd _
  have hval : ∀ (j : Nat) t v, Try.f8.params[j]? = some t → args[j]? = some v → Value.okWide Try.prog W .any base t v := hval0
  have hW' := hW
  have hlt := hW.lt
  obtain ⟨p, q, hA0, hV, rfl, hfz, hnd⟩ := hW
  have hA : DataW.TrodAll enc Try.prog W 0 (fun _ => true) true Try.f8.params.toList args.toList ds p := hA0
  rw [Try.params8] at hA hval
  obtain ⟨v0, vs0, d0, ds0, p0, q0, hargs, rfl, rfl, h0, r0⟩ := trodAll_cons hA
  obtain ⟨rfl, rfl, rfl⟩ := trodAll_nil r0
  obtain rfl : args = #[v0] := by cases args; simp_all
  obtain ⟨rfl, rfl⟩ := trodVars_none hV
  clear hA0 hval0
  obtain ⟨ad0, n0, cap0, bs0, rfl, hn0, hr0, hl0⟩ := open_code (hval 0 22 v0 rfl rfl) h0 (fun x hx => hlt x (by simp [hx]))
  have fin : ∀ (e : Ending) W', (e = .returned (.bool true) ∧ Below W.heap.size W W') → ∃ v, e = .returned v ∧ Rows.fnDoubledSpec.post enc Try.prog Try.f8 false true false false W #[.slice ad0 n0 cap0] v W' := by
    rintro e W' ⟨rfl, hb⟩
    exact ⟨_, rfl, law_post rfl rfl hW' (by kernel_rfl) rfl hb⟩
  by_cases hs0 : n0 ≤ 1048576
  case neg => exact (big ad0 n0 cap0 W (by omega) hl0).mono fin
  case pos => exact (ok ad0 n0 cap0 bs0 W hn0 hr0 hs0).mono fin

theorem proved : Rows.FnDoubledSaid :=
  OpenClaim.holds_of_wide 8 Try.f8 rfl rfl rfl rfl rfl rfl rfl ⟨rfl, rfl, rfl, rfl, rfl⟩ rfl rfl rfl rfl rfl (by kernel_rfl) Try.func8 (by kernel_rfl)
    (of_decide_eq_true (by kernel_rfl)) (by unfold Func.isWrapper; first | (rw [if_pos (by decide +kernel)]; kernel_rfl) | (rw [if_neg (by decide +kernel)]; exact ⟨rfl, rfl⟩))
    (fun os started H enc _ => lifted os started H enc)

end Go.Proofs.Ytdcengccdoohbaa.lDoubled
