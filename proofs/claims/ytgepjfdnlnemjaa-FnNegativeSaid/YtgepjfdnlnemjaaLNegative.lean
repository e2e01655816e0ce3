/-
  FnNegative: of any plate and any picture that is drawn, the negative of the negative is the picture, where no plate comes out, and the amounts of both add up: the law returns true for every code. No conditions.
-/
import Derived.Test.YtgepjfdnlnemjaaR13
import Derived.Test.YtgepjfdnlnemjaaFrameB
import Derived.Deep.RegionHeld3
namespace Go.Proofs.Ytgepjfdnlnemjaa.lNegative
open Go.ChangeShapes Go.WideShapes Go.ChangeAt Go.RowKit
set_option linter.unusedVariables false
set_option linter.unusedSimpArgs false
attribute [local go_sem ↓] Go.wp_at_zero Go.wp_at_succ

set_option maxHeartbeats 6400000 in
theorem ok (ad0 : Option Addr) (n0 cap0 : Nat) (bs0 : List Int) (w : World) (hn0 : bs0.length = n0) (hr0 : RdU w.heap.size w ad0 bs0) (hs0 : n0 ≤ 1048576) :
    Calls Try.prog 7 #[.slice ad0 n0 cap0] w fun e w' => e = .returned (.bool true) ∧ Below w.heap.size w w' := by
  have HL := Lib.hid hn0
  have HC := Lib.hid hr0
  clear hn0 hr0
  go_enter Try.func7, Try.ntmps7
  go_wp2_with fail
  refine (mkplate_call ad0 n0 cap0 bs0 _ HL.out (by exact HC.out) (by omega)).mono ?_
  rintro e w1 ⟨W, H, a, n, c, xs, rfl, hn1, hn2, hl, hr, hp, hb⟩
  obtain ⟨ys, e1⟩ : ∃ ys, xs.map (fun v => 1 - v) = ys := ⟨_, rfl⟩
  obtain ⟨s, hs⟩ : ∃ s, isum xs = s := ⟨_, rfl⟩
  obtain ⟨t, ht⟩ : ∃ t, isum ys = t := ⟨_, rfl⟩
  have HX := Lib.hid hl
  have LY : Hid (ys.length = n) := Lib.hid (by rw [← e1]; simpa using hl)
  have py : picOk W H ys 1 = true := by rw [← e1]; exact sub_ok hl hp
  have PY := Lib.hid (picOk_le py)
  have HW := Lib.hid (picOk_bd hl (picOk_le hp)).2.2
  have E1 : Hid (negF W H xs = ⟨W, H, ys⟩) := Lib.hid (by rw [negF_1 hp, e1])
  have E2 : Hid (negF W H ys = ⟨W, H, xs⟩) := Lib.hid (by rw [negF_1 py, ← e1, sub_sub_map])
  have S0 := Lib.hid hs
  have S1 := Lib.hid ht
  have hts : t + s = (n : Int) := by
    have h := isum_sub 1 xs
    rw [e1, ht, hs, hl, Int.one_mul] at h
    exact h
  have hu1 : IntKind.i64.wrap (t + s) = (n : Int) := by rw [hts]; exact IntWalk.i64_in _ (by omega)
  have hu2 : IntKind.i64.wrap (n : Int) = (n : Int) := IntWalk.i64_in _ (by omega)
  have RP2 := Lib.hid (hr.alloc (.cells #[.int .i64 W, .int .i64 H, .slice a n c] 30))
  have KP2 := Lib.hid (Blk.new w1 30 #[.int .i64 W, .int .i64 H, .slice a n c])
  have HB2 := Lib.hid (bAlloc hb (.cells #[.int .i64 W, .int .i64 H, .slice a n c] 30))
  clear e1 hs ht hl hr hp hb py hts
  go_wp2_with fail
  refine (negi_call W H a n c xs ys _ HX.out (by exact RP2.out) (by omega) E1.out LY.out).mono ?_
  rintro e w3 ⟨a3, c3, rfl, ho, hq⟩
  have HB3 := Lib.hid (bAlloc (bTrans HB2.out hq) (.cells #[.int .i64 W, .int .i64 H, .slice a3 n c3] 30))
  have KP3 := Lib.hid ((KP2.out.below' hq).alloc (.cells #[.int .i64 W, .int .i64 H, .slice a3 n c3] 30))
  have RP3 := Lib.hid ((RP2.out.below hq).alloc (.cells #[.int .i64 W, .int .i64 H, .slice a3 n c3] 30))
  have RA3 := Lib.hid (ho.rd.alloc (.cells #[.int .i64 W, .int .i64 H, .slice a3 n c3] 30))
  have KA3 := Lib.hid (Blk.new w3 30 #[.int .i64 W, .int .i64 H, .slice a3 n c3])
  clear ho hq
  obtain ⟨lp3, p0, p1, p2⟩ := KP3.out.c3
  obtain ⟨lq3, q0, q1, q2⟩ := KA3.out.c3
  go_wp2_with fail
  go_region_held3 (fun v => v.cell? ⟨w1.heap.size, 0, none⟩ = some (.int .i64 W) ∧ v.cell? ⟨w1.heap.size, 1, none⟩ = some (.int .i64 H) ∧ v.cell? ⟨w1.heap.size, 2, none⟩ = some (.slice a n c) ∧ v.cell? ⟨w3.heap.size, 0, none⟩ = some (.int .i64 W) ∧ v.cell? ⟨w3.heap.size, 1, none⟩ = some (.int .i64 H) ∧ v.cell? ⟨w3.heap.size, 2, none⟩ = some (.slice a3 n c3))
    (first | exact ⟨p0, p1, p2, q0, q1, q2⟩)
    (first
      | (go_at_call 32; ((with_reducible refine (negi_call W H a3 n c3 ys xs _ LY.out (by exact RA3.out.drew) (by omega) E2.out HX.out).mono ?_); rintro e v4 ⟨a4, c4, rfl, ho, hq⟩; have RE4 := Lib.hid ho.rd; clear ho; have HB4 := Lib.hid (bTrans HB3.out.drew hq); have KP4 := Lib.hid (KP3.out.drew.below' hq); have KA4 := Lib.hid (KA3.out.drew.below' hq); have RP4 := Lib.hid (RP3.out.drew.below hq); have RA4 := Lib.hid (RA3.out.drew.below hq); obtain ⟨l04, p0, p1, p2⟩ := KP4.out.c3; obtain ⟨l14, q0, q1, q2⟩ := KA4.out.c3))
      | (go_at_call 28; ((with_reducible refine (same_call W H a4 n c4 xs a n c xs _ HX.out (by exact RE4.out) (by omega) HX.out (by exact RP4.out) (by omega) rfl).mono ?_); rintro e v5 ⟨rfl, hq⟩; have HB5 := Lib.hid (bTrans HB4.out hq); have KP5 := Lib.hid (KP4.out.below' hq); have KA5 := Lib.hid (KA4.out.below' hq); have RP5 := Lib.hid (RP4.out.below hq); have RA5 := Lib.hid (RA4.out.below hq); obtain ⟨l05, p0, p1, p2⟩ := KP5.out.c3; obtain ⟨l15, q0, q1, q2⟩ := KA5.out.c3))
      | (go_at_call 33; ((with_reducible refine (sum_call W H a3 n c3 ys t _ LY.out (by exact RA5.out) PY.out (by omega) S1.out).mono ?_); rintro e v6 ⟨rfl, hq⟩; have HB6 := Lib.hid (bTrans HB5.out hq); have KP6 := Lib.hid (KP5.out.below' hq); have KA6 := Lib.hid (KA5.out.below' hq); have RP6 := Lib.hid (RP5.out.below hq); have RA6 := Lib.hid (RA5.out.below hq); obtain ⟨l06, p0, p1, p2⟩ := KP6.out.c3; obtain ⟨l16, q0, q1, q2⟩ := KA6.out.c3))
      | (go_at_call 34; ((with_reducible refine (total_call a n c xs s _ HX.out (by exact RP6.out) HW.out (by omega) S0.out).mono ?_); rintro e v7 ⟨rfl, hq⟩; have HB7 := Lib.hid (bTrans HB6.out hq); have KP7 := Lib.hid (KP6.out.below' hq); have KA7 := Lib.hid (KA6.out.below' hq); have RP7 := Lib.hid (RP6.out.below hq); have RA7 := Lib.hid (RA6.out.below hq); obtain ⟨l07, p0, p1, p2⟩ := KP7.out.c3; obtain ⟨l17, q0, q1, q2⟩ := KA7.out.c3)))
  clear p0 p1 p2 q0 q1 q2
  go_wp2_with fail
  refine (fresh_call ad0 n0 cap0 bs0 w.heap.size _ HL.out (by exact HC.out.below HB7.out) HB7.out.size hs0).mono ?_
  rintro e w8 ⟨af, nf, cf, fs, rfl, hfl, hfn, hfr, hq⟩
  have HB8 := Lib.hid (bTrans HB7.out hq)
  have HF := Lib.hid hfl
  have HG := Lib.hid hfr
  clear hfl hfr hq
  go_wp2_with fail
  refine (pic_call af nf cf fs 9 _ HF.out (by exact HG.out) (by omega) (by omega) (by omega)).mono ?_
  rintro e w9 ⟨V, U, a9, m, c9, us, rfl, b1, b3, hmq, hm1, hm2, hl, hr, hp, hw, hb⟩
  have HU := Lib.hid hl
  have PU := Lib.hid hp
  have HV := Lib.hid hw
  have RP9 := Lib.hid (hr.alloc (.cells #[.int .i64 V, .int .i64 U, .slice a9 m c9] 30))
  have KP9 := Lib.hid (Blk.new w9 30 #[.int .i64 V, .int .i64 U, .slice a9 m c9])
  have HB9 := Lib.hid (bAlloc (bTrans HB8.out hb) (.cells #[.int .i64 V, .int .i64 U, .slice a9 m c9] 30))
  clear hl hr hp hw hb hmq b1 b3
  go_wp2_with fail
  obtain ⟨b, hb⟩ : ∃ b, picOk V U us 1 = b := ⟨_, rfl⟩
  have HBB := Lib.hid hb
  clear hb
  refine (sispl_call V U a9 m c9 us b _ HU.out (by exact RP9.out) (by omega) HBB.out).mono ?_
  rintro e w10 ⟨rfl, hq⟩
  have HB10 := Lib.hid (bTrans HB9.out hq)
  have KP10 := Lib.hid (KP9.out.below' hq)
  have RP10 := Lib.hid (RP9.out.below hq)
  clear hq
  cases b
  case true =>
    go_wp2_with fail
    go_ret
    exact ⟨rfl, HB10.out⟩
  obtain ⟨zs, e1⟩ : ∃ zs, us.map (fun v => 255 - v) = zs := ⟨_, rfl⟩
  obtain ⟨sz, hs⟩ : ∃ s, isum us = s := ⟨_, rfl⟩
  obtain ⟨tz, ht⟩ : ∃ t, isum zs = t := ⟨_, rfl⟩
  have LZ : Hid (zs.length = m) := Lib.hid (by rw [← e1]; simpa using HU.out)
  have PZ : Hid (picOk V U zs 255 = true) := Lib.hid (by rw [← e1]; exact sub_ok HU.out PU.out)
  have E3 : Hid (negF V U us = ⟨V, U, zs⟩) := Lib.hid (by rw [negF_255 PU.out (by rw [HBB.out]; simp), e1])
  have Z0 := Lib.hid hs
  have Z1 := Lib.hid ht
  have hts : tz + sz = 255 * (m : Int) := by
    have h := isum_sub 255 us
    rw [e1, ht, hs, HU.out] at h
    exact h
  have hu3 : IntKind.i64.wrap (tz + sz) = 255 * (m : Int) := by rw [hts]; exact IntWalk.i64_in _ (by omega)
  have hu4 : IntKind.i64.wrap (255 * (m : Int)) = 255 * (m : Int) := IntWalk.i64_in _ (by omega)
  have E4 : Hid (¬ picOk V U zs 1 = true → negF V U zs = ⟨V, U, us⟩) := Lib.hid (fun h => by rw [negF_255 PZ.out h, ← e1, sub_sub_map])
  clear e1 hs ht hts
  obtain ⟨lp10, p0, p1, p2⟩ := KP10.out.c3
  go_wp2_with fail
  refine (negi_call V U a9 m c9 us zs _ HU.out (by exact RP10.out) (by omega) E3.out LZ.out).mono ?_
  rintro e w11 ⟨a11, c11, rfl, ho, hq⟩
  have HB11 := Lib.hid (bAlloc (bTrans HB10.out hq) (.cells #[.int .i64 V, .int .i64 U, .slice a11 m c11] 30))
  have KP11 := Lib.hid ((KP10.out.below' hq).alloc (.cells #[.int .i64 V, .int .i64 U, .slice a11 m c11] 30))
  have RP11 := Lib.hid ((RP10.out.below hq).alloc (.cells #[.int .i64 V, .int .i64 U, .slice a11 m c11] 30))
  have RA11 := Lib.hid (ho.rd.alloc (.cells #[.int .i64 V, .int .i64 U, .slice a11 m c11] 30))
  have KA11 := Lib.hid (Blk.new w11 30 #[.int .i64 V, .int .i64 U, .slice a11 m c11])
  clear ho hq p0 p1 p2
  obtain ⟨lp11, p0, p1, p2⟩ := KP11.out.c3
  obtain ⟨lq11, q0, q1, q2⟩ := KA11.out.c3
  go_wp2_with fail
  by_cases hz : picOk V U zs 1 = true
  case pos =>
    have HP := Lib.hid hz
    clear hz
    refine wp_region_held_drew (S := (fun v => v.cell? ⟨w9.heap.size, 0, none⟩ = some (.int .i64 V) ∧ v.cell? ⟨w9.heap.size, 1, none⟩ = some (.int .i64 U) ∧ v.cell? ⟨w9.heap.size, 2, none⟩ = some (.slice a9 m c9) ∧ v.cell? ⟨w11.heap.size, 0, none⟩ = some (.int .i64 V) ∧ v.cell? ⟨w11.heap.size, 1, none⟩ = some (.int .i64 U) ∧ v.cell? ⟨w11.heap.size, 2, none⟩ = some (.slice a11 m c11))) (by kernel_rfl) ⟨p0, p1, p2, q0, q1, q2⟩ ?_
    intro hHeld
    (refine' wpAnyH_take (i := 0) (v := ?_) rfl (by kernel_rfl) (by kernel_rfl) (by kernel_rfl) (fun _ _ _ h => h) (Or.inl ⟨by rfl, ?_⟩) (by assumption) ?_; rotate_left; (· (intro w hSw; (try dsimp only at hSw); go_simp; try with_reducible rfl)); (try simp only [Act.put, List.setIfInBounds_toArray, List.set_cons_zero, List.set_cons_succ]))
    (refine' wpAnyH_take (i := 2) (v := ?_) rfl (by kernel_rfl) (by kernel_rfl) (by kernel_rfl) (fun _ _ _ h => h) (Or.inl ⟨by rfl, ?_⟩) (by assumption) ?_; rotate_left; (· (intro w hSw; (try dsimp only at hSw); go_simp; try with_reducible rfl)); (try simp only [Act.put, List.setIfInBounds_toArray, List.set_cons_zero, List.set_cons_succ]))
    (refine' wpAnyH_take (i := 3) (v := ?_) rfl (by kernel_rfl) (by kernel_rfl) (by kernel_rfl) (fun _ _ _ h => h) (Or.inl ⟨by rfl, ?_⟩) (by assumption) ?_; rotate_left; (· (intro w hSw; (try dsimp only at hSw); go_simp; try with_reducible rfl)); (try simp only [Act.put, List.setIfInBounds_toArray, List.set_cons_zero, List.set_cons_succ]))
    (refine' wpAnyH_take (i := 6) (v := ?_) rfl (by kernel_rfl) (by kernel_rfl) (by kernel_rfl) (fun _ _ _ h => h) (Or.inl ⟨by rfl, ?_⟩) (by assumption) ?_; rotate_left; (· (intro w hSw; (try dsimp only at hSw); go_simp; try with_reducible rfl)); (try simp only [Act.put, List.setIfInBounds_toArray, List.set_cons_zero, List.set_cons_succ]))
    (refine' wpAnyH_take (i := 7) (v := ?_) rfl (by kernel_rfl) (by kernel_rfl) (by kernel_rfl) (fun _ _ _ h => h) (Or.inl ⟨by rfl, ?_⟩) (by assumption) ?_; rotate_left; (· (intro w hSw; (try dsimp only at hSw); go_simp; try with_reducible rfl)); (try simp only [Act.put, List.setIfInBounds_toArray, List.set_cons_zero, List.set_cons_succ]))
    (refine' wpAnyH_take (i := 8) (v := ?_) rfl (by kernel_rfl) (by kernel_rfl) (by kernel_rfl) (fun _ _ _ h => h) (Or.inl ⟨by rfl, ?_⟩) (by assumption) ?_; rotate_left; (· (intro w hSw; (try dsimp only at hSw); go_simp; try with_reducible rfl)); (try simp only [Act.put, List.setIfInBounds_toArray, List.set_cons_zero, List.set_cons_succ]))
    (refine' wpAnyH_take (i := 9) (v := ?_) rfl (by kernel_rfl) (by kernel_rfl) (by kernel_rfl) (fun _ _ _ h => h) (Or.inl ⟨by rfl, ?_⟩) (by assumption) ?_; rotate_left; (· (intro w hSw; (try dsimp only at hSw); go_simp; try with_reducible rfl)); (try simp only [Act.put, List.setIfInBounds_toArray, List.set_cons_zero, List.set_cons_succ]))
    refine wpAnyH_ready (rs := [1]) (by kernel_rfl) (by simp) ?_
    refine AllReadyH.cons rfl (fun K hK => ?_) AllReadyH.nil
    go_simp
    (go_at_call 33; ((with_reducible refine (sum_call V U a11 m c11 zs tz _ LZ.out (by exact RA11.out.drew) PZ.out (by omega) Z1.out).mono ?_); rintro e v12 ⟨rfl, hq⟩; have HB12 := Lib.hid (bTrans HB11.out.drew hq); have KP12 := Lib.hid (KP11.out.drew.below' hq); have KA12 := Lib.hid (KA11.out.drew.below' hq); have RP12 := Lib.hid (RP11.out.drew.below hq); have RA12 := Lib.hid (RA11.out.drew.below hq); obtain ⟨l012, p0, p1, p2⟩ := KP12.out.c3; obtain ⟨l112, q0, q1, q2⟩ := KA12.out.c3))
    go_wp2_with fail
    refine hK.out _ _ ?_ (fun hHeld => ?_)
    · ((try dsimp only); exact ⟨p0, p1, p2, q0, q1, q2⟩)
    clear hK K
    refine wpAnyH_ready (rs := [4]) (by kernel_rfl) (by simp) ?_
    refine AllReadyH.cons rfl (fun K hK => ?_) AllReadyH.nil
    go_simp
    (go_at_call 34; ((with_reducible refine (total_call a9 m c9 us sz _ HU.out (by exact RP12.out) HV.out (by omega) Z0.out).mono ?_); rintro e v13 ⟨rfl, hq⟩; have HB13 := Lib.hid (bTrans HB12.out hq); have KP13 := Lib.hid (KP12.out.below' hq); have KA13 := Lib.hid (KA12.out.below' hq); have RP13 := Lib.hid (RP12.out.below hq); have RA13 := Lib.hid (RA12.out.below hq); obtain ⟨l013, p0, p1, p2⟩ := KP13.out.c3; obtain ⟨l113, q0, q1, q2⟩ := KA13.out.c3))
    go_wp2_with fail
    refine hK.out _ _ ?_ (fun hHeld => ?_)
    · ((try dsimp only); exact ⟨p0, p1, p2, q0, q1, q2⟩)
    clear hK K
    (refine' wpAnyH_take (i := 5) (v := ?_) rfl (by kernel_rfl) (by kernel_rfl) (by kernel_rfl) (fun _ _ _ h => h) (Or.inl ⟨by rfl, ?_⟩) (by assumption) ?_; rotate_left; (· (intro w hSw; (try dsimp only at hSw); go_simp; try with_reducible rfl)); (try simp only [Act.put, List.setIfInBounds_toArray, List.set_cons_zero, List.set_cons_succ]))
    (refine' wpAnyH_take (i := 10) (v := ?_) rfl (by kernel_rfl) (by kernel_rfl) (by kernel_rfl) (fun _ _ _ h => h) (Or.inl ⟨by rfl, ?_⟩) (by assumption) ?_; rotate_left; (· (intro w hSw; (try dsimp only at hSw); go_simp; try with_reducible rfl)); (try simp only [Act.put, List.setIfInBounds_toArray, List.set_cons_zero, List.set_cons_succ]))
    (refine' wpAnyH_take (i := 11) (v := ?_) rfl (by kernel_rfl) (by kernel_rfl) (by kernel_rfl) (fun _ _ _ h => h) (Or.inl ⟨by rfl, ?_⟩) (by assumption) ?_; rotate_left; (· (intro w hSw; (try dsimp only at hSw); go_simp; try with_reducible rfl)); (try simp only [Act.put, List.setIfInBounds_toArray, List.set_cons_zero, List.set_cons_succ]))
    (refine' wpAnyH_take (i := 12) (v := ?_) rfl (by kernel_rfl) (by kernel_rfl) (by kernel_rfl) (fun _ _ _ h => h) (Or.inl ⟨by rfl, ?_⟩) (by assumption) ?_; rotate_left; (· (intro w hSw; (try dsimp only at hSw); go_simp; try with_reducible rfl)); (try simp only [Act.put, List.setIfInBounds_toArray, List.set_cons_zero, List.set_cons_succ]))
    refine wpAnyH_ready (rs := [13]) (by kernel_rfl) (by simp) ?_
    refine AllReadyH.cons rfl (fun K hK => ?_) AllReadyH.nil
    go_simp
    (go_at_call 24; ((with_reducible refine (ispl_call V U a11 m c11 zs true _ LZ.out (by exact RA13.out) (by omega) HP.out).mono ?_); rintro e v14 ⟨rfl, hq⟩; have HB14 := Lib.hid (bTrans HB13.out hq); have KP14 := Lib.hid (KP13.out.below' hq); have KA14 := Lib.hid (KA13.out.below' hq); have RP14 := Lib.hid (RP13.out.below hq); have RA14 := Lib.hid (RA13.out.below hq); obtain ⟨l014, p0, p1, p2⟩ := KP14.out.c3; obtain ⟨l114, q0, q1, q2⟩ := KA14.out.c3))
    go_wp2_with fail
    refine hK.out _ _ ?_ (fun hHeld => ?_)
    · ((try dsimp only); exact ⟨p0, p1, p2, q0, q1, q2⟩)
    clear hK K
    (refine' wpAnyH_take (i := 14) (v := ?_) rfl (by kernel_rfl) (by kernel_rfl) (by kernel_rfl) (fun _ _ _ h => h) (Or.inl ⟨by rfl, ?_⟩) (by assumption) ?_; rotate_left; (· (intro w hSw; (try dsimp only at hSw); go_simp; try with_reducible rfl)); (try simp only [Act.put, List.setIfInBounds_toArray, List.set_cons_zero, List.set_cons_succ]))
    refine wpAnyH_ready (rs := [15, 17]) (by kernel_rfl) (by simp) ?_
    refine AllReadyH.cons rfl (fun K hK => ?_) (AllReadyH.cons rfl (fun K hK => ?_) AllReadyH.nil)
    · go_simp
      refine hK.out _ _ ?_ (fun hHeld => ?_)
      · ((try dsimp only); exact ⟨p0, p1, p2, q0, q1, q2⟩)
      clear hK K
      refine wpAnyH_ready (rs := [16, 17]) (by kernel_rfl) (by simp) ?_
      refine AllReadyH.cons rfl (fun K hK => ?_) (AllReadyH.cons rfl (fun K hK => ?_) AllReadyH.nil)
      · go_simp
        refine hK.out _ _ ?_ (fun hHeld => ?_)
        · ((try dsimp only); exact ⟨p0, p1, p2, q0, q1, q2⟩)
        clear hK K
        refine wpAnyH_ready (rs := [17]) (by kernel_rfl) (by simp) ?_
        refine AllReadyH.cons rfl (fun K hK => ?_) AllReadyH.nil
        go_simp
        refine hK.out _ _ ?_ (fun hHeld => ?_)
        · ((try dsimp only); exact ⟨p0, p1, p2, q0, q1, q2⟩)
        clear hK K
        refine wpAnyH_ready (rs := [18]) (by kernel_rfl) (by simp) ?_
        refine AllReadyH.cons rfl (fun K hK => ?_) AllReadyH.nil
        go_simp
        refine hK.out _ _ ?_ (fun hHeld => ?_)
        · ((try dsimp only); exact ⟨p0, p1, p2, q0, q1, q2⟩)
        clear hK K
        refine wpAnyH_ready (rs := [19]) (by kernel_rfl) (by simp) ?_
        refine AllReadyH.cons rfl (fun K hK => ?_) AllReadyH.nil
        go_simp
        refine hK.out _ _ ?_ (fun hHeld => ?_)
        · ((try dsimp only); exact ⟨p0, p1, p2, q0, q1, q2⟩)
        clear hK K
        refine wpAnyH_ready (rs := [20]) (by kernel_rfl) (by simp) ?_
        refine AllReadyH.cons rfl (fun K hK => ?_) AllReadyH.nil
        go_simp
        refine hK.out _ _ ?_ (fun hHeld => ?_)
        · ((try dsimp only); exact ⟨p0, p1, p2, q0, q1, q2⟩)
        clear hK K
        refine wpAnyH_ready (rs := [21]) (by kernel_rfl) (by simp) ?_
        refine AllReadyH.cons rfl (fun K hK => ?_) AllReadyH.nil
        go_simp
        refine hK.out _ _ ?_ (fun hHeld => ?_)
        · ((try dsimp only); exact ⟨p0, p1, p2, q0, q1, q2⟩)
        clear hK K
        refine wpAnyH_done (by kernel_rfl) ?_ _
        go_wp2_with fail
        go_ret
        exact ⟨ret_bool (by simp), HB14.out⟩
      · go_simp
        refine hK.out _ _ ?_ (fun hHeld => ?_)
        · ((try dsimp only); exact ⟨p0, p1, p2, q0, q1, q2⟩)
        clear hK K
        refine wpAnyH_ready (rs := [16]) (by kernel_rfl) (by simp) ?_
        refine AllReadyH.cons rfl (fun K hK => ?_) AllReadyH.nil
        go_simp
        refine hK.out _ _ ?_ (fun hHeld => ?_)
        · ((try dsimp only); exact ⟨p0, p1, p2, q0, q1, q2⟩)
        clear hK K
        refine wpAnyH_ready (rs := [18]) (by kernel_rfl) (by simp) ?_
        refine AllReadyH.cons rfl (fun K hK => ?_) AllReadyH.nil
        go_simp
        refine hK.out _ _ ?_ (fun hHeld => ?_)
        · ((try dsimp only); exact ⟨p0, p1, p2, q0, q1, q2⟩)
        clear hK K
        refine wpAnyH_ready (rs := [19]) (by kernel_rfl) (by simp) ?_
        refine AllReadyH.cons rfl (fun K hK => ?_) AllReadyH.nil
        go_simp
        refine hK.out _ _ ?_ (fun hHeld => ?_)
        · ((try dsimp only); exact ⟨p0, p1, p2, q0, q1, q2⟩)
        clear hK K
        refine wpAnyH_ready (rs := [20]) (by kernel_rfl) (by simp) ?_
        refine AllReadyH.cons rfl (fun K hK => ?_) AllReadyH.nil
        go_simp
        refine hK.out _ _ ?_ (fun hHeld => ?_)
        · ((try dsimp only); exact ⟨p0, p1, p2, q0, q1, q2⟩)
        clear hK K
        refine wpAnyH_ready (rs := [21]) (by kernel_rfl) (by simp) ?_
        refine AllReadyH.cons rfl (fun K hK => ?_) AllReadyH.nil
        go_simp
        refine hK.out _ _ ?_ (fun hHeld => ?_)
        · ((try dsimp only); exact ⟨p0, p1, p2, q0, q1, q2⟩)
        clear hK K
        refine wpAnyH_done (by kernel_rfl) ?_ _
        go_wp2_with fail
        go_ret
        exact ⟨ret_bool (by simp), HB14.out⟩
    · go_simp
      refine hK.out _ _ ?_ (fun hHeld => ?_)
      · ((try dsimp only); exact ⟨p0, p1, p2, q0, q1, q2⟩)
      clear hK K
      refine wpAnyH_ready (rs := [15]) (by kernel_rfl) (by simp) ?_
      refine AllReadyH.cons rfl (fun K hK => ?_) AllReadyH.nil
      go_simp
      refine hK.out _ _ ?_ (fun hHeld => ?_)
      · ((try dsimp only); exact ⟨p0, p1, p2, q0, q1, q2⟩)
      clear hK K
      refine wpAnyH_ready (rs := [16]) (by kernel_rfl) (by simp) ?_
      refine AllReadyH.cons rfl (fun K hK => ?_) AllReadyH.nil
      go_simp
      refine hK.out _ _ ?_ (fun hHeld => ?_)
      · ((try dsimp only); exact ⟨p0, p1, p2, q0, q1, q2⟩)
      clear hK K
      refine wpAnyH_ready (rs := [18]) (by kernel_rfl) (by simp) ?_
      refine AllReadyH.cons rfl (fun K hK => ?_) AllReadyH.nil
      go_simp
      refine hK.out _ _ ?_ (fun hHeld => ?_)
      · ((try dsimp only); exact ⟨p0, p1, p2, q0, q1, q2⟩)
      clear hK K
      refine wpAnyH_ready (rs := [19]) (by kernel_rfl) (by simp) ?_
      refine AllReadyH.cons rfl (fun K hK => ?_) AllReadyH.nil
      go_simp
      refine hK.out _ _ ?_ (fun hHeld => ?_)
      · ((try dsimp only); exact ⟨p0, p1, p2, q0, q1, q2⟩)
      clear hK K
      refine wpAnyH_ready (rs := [20]) (by kernel_rfl) (by simp) ?_
      refine AllReadyH.cons rfl (fun K hK => ?_) AllReadyH.nil
      go_simp
      refine hK.out _ _ ?_ (fun hHeld => ?_)
      · ((try dsimp only); exact ⟨p0, p1, p2, q0, q1, q2⟩)
      clear hK K
      refine wpAnyH_ready (rs := [21]) (by kernel_rfl) (by simp) ?_
      refine AllReadyH.cons rfl (fun K hK => ?_) AllReadyH.nil
      go_simp
      refine hK.out _ _ ?_ (fun hHeld => ?_)
      · ((try dsimp only); exact ⟨p0, p1, p2, q0, q1, q2⟩)
      clear hK K
      refine wpAnyH_done (by kernel_rfl) ?_ _
      go_wp2_with fail
      go_ret
      exact ⟨ret_bool (by simp), HB14.out⟩
  case neg =>
    have HP : Hid (picOk V U zs 1 = false) := Lib.hid (by simpa using hz)
    have E4 := Lib.hid (E4.out hz)
    clear hz
    go_region_held3 (fun v => v.cell? ⟨w9.heap.size, 0, none⟩ = some (.int .i64 V) ∧ v.cell? ⟨w9.heap.size, 1, none⟩ = some (.int .i64 U) ∧ v.cell? ⟨w9.heap.size, 2, none⟩ = some (.slice a9 m c9) ∧ v.cell? ⟨w11.heap.size, 0, none⟩ = some (.int .i64 V) ∧ v.cell? ⟨w11.heap.size, 1, none⟩ = some (.int .i64 U) ∧ v.cell? ⟨w11.heap.size, 2, none⟩ = some (.slice a11 m c11))
      (first | exact ⟨p0, p1, p2, q0, q1, q2⟩)
      (first
        | (go_at_call 33; ((with_reducible refine (sum_call V U a11 m c11 zs tz _ LZ.out (by exact RA11.out.drew) PZ.out (by omega) Z1.out).mono ?_); rintro e v12 ⟨rfl, hq⟩; have HB12 := Lib.hid (bTrans HB11.out.drew hq); have KP12 := Lib.hid (KP11.out.drew.below' hq); have KA12 := Lib.hid (KA11.out.drew.below' hq); have RP12 := Lib.hid (RP11.out.drew.below hq); have RA12 := Lib.hid (RA11.out.drew.below hq); obtain ⟨l012, p0, p1, p2⟩ := KP12.out.c3; obtain ⟨l112, q0, q1, q2⟩ := KA12.out.c3))
        | (go_at_call 34; ((with_reducible refine (total_call a9 m c9 us sz _ HU.out (by exact RP12.out) HV.out (by omega) Z0.out).mono ?_); rintro e v13 ⟨rfl, hq⟩; have HB13 := Lib.hid (bTrans HB12.out hq); have KP13 := Lib.hid (KP12.out.below' hq); have KA13 := Lib.hid (KA12.out.below' hq); have RP13 := Lib.hid (RP12.out.below hq); have RA13 := Lib.hid (RA12.out.below hq); obtain ⟨l013, p0, p1, p2⟩ := KP13.out.c3; obtain ⟨l113, q0, q1, q2⟩ := KA13.out.c3))
        | (go_at_call 24; ((with_reducible refine (ispl_call V U a11 m c11 zs false _ LZ.out (by exact RA13.out) (by omega) HP.out).mono ?_); rintro e v14 ⟨rfl, hq⟩; have HB14 := Lib.hid (bTrans HB13.out hq); have KP14 := Lib.hid (KP13.out.below' hq); have KA14 := Lib.hid (KA13.out.below' hq); have RP14 := Lib.hid (RP13.out.below hq); have RA14 := Lib.hid (RA13.out.below hq); obtain ⟨l014, p0, p1, p2⟩ := KP14.out.c3; obtain ⟨l114, q0, q1, q2⟩ := KA14.out.c3))
        | (go_at_call 32; ((with_reducible refine (negi_call V U a11 m c11 zs us _ LZ.out (by exact RA14.out) (by omega) E4.out HU.out).mono ?_); rintro e v15 ⟨a15, c15, rfl, ho, hq⟩; have RE15 := Lib.hid ho.rd; clear ho; have HB15 := Lib.hid (bTrans HB14.out hq); have KP15 := Lib.hid (KP14.out.below' hq); have KA15 := Lib.hid (KA14.out.below' hq); have RP15 := Lib.hid (RP14.out.below hq); have RA15 := Lib.hid (RA14.out.below hq); obtain ⟨l015, p0, p1, p2⟩ := KP15.out.c3; obtain ⟨l115, q0, q1, q2⟩ := KA15.out.c3))
        | (go_at_call 28; ((with_reducible refine (same_call V U a15 m c15 us a9 m c9 us _ HU.out (by exact RE15.out) (by omega) HU.out (by exact RP15.out) (by omega) rfl).mono ?_); rintro e v16 ⟨rfl, hq⟩; have HB16 := Lib.hid (bTrans HB15.out hq); have KP16 := Lib.hid (KP15.out.below' hq); have KA16 := Lib.hid (KA15.out.below' hq); have RP16 := Lib.hid (RP15.out.below hq); have RA16 := Lib.hid (RA15.out.below hq); obtain ⟨l016, p0, p1, p2⟩ := KP16.out.c3; obtain ⟨l116, q0, q1, q2⟩ := KA16.out.c3)))
    go_wp2_with fail
    go_ret
    exact ⟨ret_bool (by simp), HB16.out⟩

set_option maxHeartbeats 400000 in
theorem big (ad0 : Option Addr) (n0 cap0 : Nat) (w : World) (h : 1048576 < n0) (hl : n0 ≤ 9223372036854775807) :
    Calls Try.prog 7 #[.slice ad0 n0 cap0] w fun e w' => e = .returned (.bool true) ∧ Below w.heap.size w w' := by
  have h2 : (1048576 : Int) < (n0 : Int) := by omega
  go_enter Try.func7, Try.ntmps7
  go_wp2_with fail
  go_ret
  exact ⟨rfl, Below.refl _ _⟩

set_option maxRecDepth 100000 in
theorem lifted (os : Os) (started : os.Started) (H : Type) (enc : TypeId × Value → H) :
    ReturnsInHanded {} Try.checked os 7 .any (Rows.fnNegativeSpec.pre6 enc Try.prog Try.f7 Rows.fnNegativeRow.domain false) (Rows.fnNegativeSpec.post enc Try.prog Try.f7 false true false false) := by
  refine returnsInHanded_of_change (C := Try.checked) own started (by kernel_rfl) Try.func7
    (ChangeSpec.witness6 (enc := enc) (C := Try.checked) false ⟨#[], #[.slice none 0 0], []⟩ 8 (by kernel_rfl) (by kernel_rfl) (by kernel_rfl) (by kernel_rfl)) ?_
  intro W base args ds gs before hval0 hW hcnd _
  have hval : ∀ (j : Nat) t v, Try.f7.params[j]? = some t → args[j]? = some v → Value.okWide Try.prog W .any base t v := hval0
  have hW' := hW
  have hlt := hW.lt
  obtain ⟨p, q, hA0, hV, rfl, hfz, hnd⟩ := hW
  have hA : DataW.TrodAll enc Try.prog W 0 (fun _ => true) true Try.f7.params.toList args.toList ds p := hA0
  rw [Try.params7] at hA hval
  obtain ⟨v0, vs0, d0, ds0, p0, q0, hargs, rfl, rfl, h0, r0⟩ := trodAll_cons hA
  obtain ⟨rfl, rfl, rfl⟩ := trodAll_nil r0
  obtain rfl : args = #[v0] := by cases args; simp_all
  obtain ⟨rfl, rfl⟩ := trodVars_none hV
  clear hA0 hval0
  obtain ⟨ad0, n0, cap0, bs0, rfl, hn0, hr0, hl0⟩ := open_code (hval 0 22 v0 rfl rfl) h0 (fun x hx => hlt x (by simp [hx]))
  have fin : ∀ (e : Ending) W', (e = .returned (.bool true) ∧ Below W.heap.size W W') → ∃ v, e = .returned v ∧ Rows.fnNegativeSpec.post enc Try.prog Try.f7 false true false false W #[.slice ad0 n0 cap0] v W' := by
    rintro e W' ⟨rfl, hb⟩
    exact ⟨_, rfl, law_post rfl rfl hW' (by kernel_rfl) rfl hb⟩
  by_cases hs0 : n0 ≤ 1048576
  case neg => exact (big ad0 n0 cap0 W (by omega) hl0).mono fin
  case pos => exact (ok ad0 n0 cap0 bs0 W hn0 hr0 hs0).mono fin

theorem proved : Rows.FnNegativeSaid :=
  OpenClaim.holds_of_wide 7 Try.f7 rfl rfl rfl rfl rfl rfl rfl ⟨rfl, rfl, rfl, rfl, rfl⟩ rfl rfl rfl rfl rfl (by kernel_rfl) Try.func7 (by kernel_rfl)
    (of_decide_eq_true (by kernel_rfl)) (by unfold Func.isWrapper; first | (rw [if_pos (by decide +kernel)]; kernel_rfl) | (rw [if_neg (by decide +kernel)]; exact ⟨rfl, rfl⟩))
    (fun os started H enc _ => lifted os started H enc)

end Go.Proofs.Ytgepjfdnlnemjaa.lNegative
