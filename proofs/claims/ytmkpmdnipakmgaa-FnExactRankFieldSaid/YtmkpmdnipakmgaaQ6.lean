/-
  Contracts of chapter 7 in the model: the ranks of a field.
-/
import Derived.Test.YtmkpmdnipakmgaaQ4
import Derived.Test.YtmkpmdnipakmgaaQ9
import Derived.Test.YtmkpmdnipakmgaaC2
namespace Go.Proofs.Ytmkpmdnipakmgaa
open Go.RowKit
set_option linter.unusedVariables false
set_option linter.unusedSimpArgs false

set_option maxRecDepth 100000 in
set_option maxHeartbeats 1600000 in
theorem spec_RankField (W H : Int) (b off n cap : Nat) (xs : List Int) (w : World) (hn : xs.length = n) (ha : Rd w (some ⟨b, off, none⟩) xs) (hl : n ≤ 1048576) :
    Calls Try.prog 32 #[.agg #[.int .i64 W, .int .i64 H, .slice (some ⟨b, off, none⟩) n cap]] w (MatOut2 w (rankF W H xs)) := by
  have HN := Lib.hid hn
  have HA := Lib.hid ha
  have hbw : n = 0 ∨ b < w.heap.size := by
    by_cases h0 : n = 0
    · exact Or.inl h0
    · obtain ⟨b2, o2, h1, h2, _⟩ := ha.at (by omega)
      cases h1
      exact Or.inr h2
  have HBW := Lib.hid hbw
  clear hn ha hbw
  go_enter Try.func32, Try.ntmps32
  go_wp2_with fail
  have KP := Lib.hid ((Blk.new w 27 #[.int .i64 W, .int .i64 H, .slice (some ⟨b, off, none⟩) n cap]).alloc (.cells #[.int .i64 0, .int .i64 0, .slice none 0 0] 41))
  have KZ := Lib.hid (Blk.new' (g := w.heap.size + 1) (w := w.alloc (.cells #[.int .i64 W, .int .i64 H, .slice (some ⟨b, off, none⟩) n cap] 27)) 41 #[.int .i64 0, .int .i64 0, .slice none 0 0] (by simp))
  have HB := Lib.hid (bAlloc (bAlloc (Below.refl w.heap.size w) (.cells #[.int .i64 W, .int .i64 H, .slice (some ⟨b, off, none⟩) n cap] 27)) (.cells #[.int .i64 0, .int .i64 0, .slice none 0 0] 41))
  have RP := Lib.hid ((HA.out.alloc (.cells #[.int .i64 W, .int .i64 H, .slice (some ⟨b, off, none⟩) n cap] 27)).alloc (.cells #[.int .i64 0, .int .i64 0, .slice none 0 0] 41))
  obtain ⟨wo, hwo⟩ : ∃ wo : World, wo = (w.alloc (.cells #[.int .i64 W, .int .i64 H, .slice (some ⟨b, off, none⟩) n cap] 27)).alloc (.cells #[.int .i64 0, .int .i64 0, .slice none 0 0] 41) := ⟨_, rfl⟩
  have ZO : Hid (wo.heap.size = w.heap.size + 1 + 1) := Lib.hid (by rw [hwo]; simp)
  rw [← hwo] at KP KZ HB RP ⊢
  clear hwo
  obtain ⟨l0, o0, o1, o2⟩ := KP.out.c3
  refine (spec_IsField W H _ n cap xs _ HN.out (by exact RP.out) (by omega)).mono ?_
  rintro e w4 ⟨rfl, hb⟩
  have KP := Lib.hid (KP.out.below' hb)
  have KZ := Lib.hid (KZ.out.below' hb)
  have RP := Lib.hid (RP.out.below hb)
  have HB := Lib.hid (bTrans HB.out hb)
  have ZB : Hid (w.heap.size + 1 < w4.heap.size) := Lib.hid (by have := hb.size; have := ZO.out; omega)
  clear hb l0 o0 o1 o2
  by_cases hok : fieldOk W H xs = true
  case neg =>
    have ER : Hid (rankF W H xs = (noMat, false)) := Lib.hid (by unfold rankF; rw [if_neg hok])
    have hok2 : fieldOk W H xs = false := by simpa using hok
    rw [hok2]
    clear hok hok2
    obtain ⟨z0, r0, r1, r2⟩ := KZ.out.c3
    obtain ⟨f0, f1, f2⟩ := KZ.out.f3
    go_wp2_with fail
    exact bodyPost_ret (v := .tuple #[.agg #[.int .i64 0, .int .i64 0, .slice none 0 0], .bool false]) (by simp [results, Try.results32, go_sem, r0, r1, r2]) rfl
      (by rw [ER.out]; exact ⟨none, 0, 0, rfl, OwnA.none _ _, by omega, by first | exact HB.out | exact ((HB.out.setCell (by first | (simp; done) | (simp; omega)) _).setCell (by first | (simp; done) | (simp; omega)) _).setCell (by first | (simp; done) | (simp; omega)) _⟩)
  case pos =>
    have ER : Hid (rankF W H xs = (⟨W, H, ranksG W H xs⟩, true)) := Lib.hid (by unfold rankF; rw [if_pos hok])
    obtain ⟨b1, b2, b3, b4, b5, b6, b7, b8, b9⟩ := field_bd HN.out hok
    have B5 := Lib.hid b5
    have B8 := Lib.hid b8
    have B9 := Lib.hid b9
    clear b5 b8 b9
    have HOK := Lib.hid hok
    have CC : Hid (countF W H xs 1 = (icount 1 xs : Int)) := Lib.hid (by unfold countF; rw [if_pos (picOk_le (by unfold fieldOk at hok; simp only [Bool.and_eq_true] at hok; exact hok.1))])
    have dn : icount 1 xs ≤ n := by rw [← HN.out]; exact icount_le _ _
    obtain ⟨u, hu⟩ : ∃ u, n - icount 1 xs = u := ⟨_, rfl⟩
    have ER2 : Hid (ranksG W H xs = (upG W H xs (icount 1 xs) (downG W H xs (icount 1 xs) (List.replicate n 0) (icount 1 xs)).2 u).2) := Lib.hid (by unfold ranksG; rw [HN.out, hu])
    have DI := Lib.hid (fun k (hk : k ≤ icount 1 xs) => down_inv HOK.out (List.replicate n 0) k hk)
    have UI := Lib.hid (fun k (hk : icount 1 xs + k ≤ xs.length) => up_inv HOK.out (icount 1 xs) (downG W H xs (icount 1 xs) (List.replicate n 0) (icount 1 xs)).2 k hk)
    obtain ⟨d, hd⟩ : ∃ d, icount 1 xs = d := ⟨_, rfl⟩
    rw [hd] at CC dn hu ER2 DI UI
    have HU : Hid (d + u = n) := Lib.hid (by omega)
    rw [hok]
    clear hok hd hu
    obtain ⟨l0, o0, o1, o2⟩ := KP.out.c3
    have hbw : b < w.heap.size := by rcases HBW.out with h | h <;> omega
    go_upto_region 3 with fail
    go_cut [4] (fun s4 wz => ∃ (wx : World) (mb mg : Nat), wx = wz ∧ s4 = .pointer (some ⟨mb, 0, none⟩) ∧ w4.heap.size ≤ mb ∧ w4.heap.size ≤ mg ∧ mb ≠ mg ∧ Blk wz mb 41 #[.int .i64 W, .int .i64 H, .slice (some ⟨mg, 0, none⟩) n n] ∧ Own wz mg n n (List.replicate n 0) ∧ Below w4.heap.size w4 wz)
    case first =>
      have MK : Hid (∀ v, BelowL w4 v → v.cell? ⟨w.heap.size, 0, none⟩ = some (.int .i64 W) ∧ v.cell? ⟨w.heap.size, 1, none⟩ = some (.int .i64 H) ∧ v.cell? ⟨w.heap.size, 2, none⟩ = some (.slice (some ⟨b, off, none⟩) n cap) ∧ BelowL w4 v) := Lib.hid (fun v hB => ⟨(hB.out.cell l0).trans o0, (hB.out.cell l0).trans o1, (hB.out.cell l0).trans o2, hB⟩)
      refine wp_region_T 10 (fun v => v.cell? ⟨w.heap.size, 0, none⟩ = some (.int .i64 W) ∧ v.cell? ⟨w.heap.size, 1, none⟩ = some (.int .i64 H) ∧ v.cell? ⟨w.heap.size, 2, none⟩ = some (.slice (some ⟨b, off, none⟩) n cap) ∧ BelowL w4 v) (by kernel_rfl) (MK.out _ (BelowL.start _)) ?_
      intro hHeld
      have hb0 := limb4 hHeld
      (refine' wpAnyT_take (i := 0) (v := ?_) rfl (by kernel_rfl) (by kernel_rfl) (by kernel_rfl) (by kernel_rfl) (fun _ _ _ h => h) (Or.inl ⟨by rfl, ?_⟩) (by assumption) ?_; rotate_left; (· (intro w hSw; (try dsimp only at hSw); go_simp; try with_reducible rfl)); (try simp only [Act.put, List.setIfInBounds_toArray, List.set_cons_zero, List.set_cons_succ]))
      (refine' wpAnyT_take (i := 1) (v := ?_) rfl (by kernel_rfl) (by kernel_rfl) (by kernel_rfl) (by kernel_rfl) (fun _ _ _ h => h) (Or.inl ⟨by rfl, ?_⟩) (by assumption) ?_; rotate_left; (· (intro w hSw; (try dsimp only at hSw); go_simp; try with_reducible rfl)); (try simp only [Act.put, List.setIfInBounds_toArray, List.set_cons_zero, List.set_cons_succ]))
      (refine' wpAnyT_take (i := 2) (v := ?_) rfl (by kernel_rfl) (by kernel_rfl) (by kernel_rfl) (by kernel_rfl) (fun _ _ _ h => h) (Or.inl ⟨by rfl, ?_⟩) (by assumption) ?_; rotate_left; (· (intro w hSw; (try dsimp only at hSw); go_simp; try with_reducible rfl)); (try simp only [Act.put, List.setIfInBounds_toArray, List.set_cons_zero, List.set_cons_succ]))
      (refine' wpAnyT_take (i := 3) (v := ?_) rfl (by kernel_rfl) (by kernel_rfl) (by kernel_rfl) (by kernel_rfl) (fun _ _ _ h => h) (Or.inl ⟨by rfl, ?_⟩) (by assumption) ?_; rotate_left; (· (intro w hSw; (try dsimp only at hSw); go_simp; try with_reducible rfl)); (try simp only [Act.put, List.setIfInBounds_toArray, List.set_cons_zero, List.set_cons_succ]))
      (refine' wpAnyT_take (i := 4) (v := ?_) rfl (by kernel_rfl) (by kernel_rfl) (by kernel_rfl) (by kernel_rfl) (fun _ _ _ h => h) (Or.inl ⟨by rfl, ?_⟩) (by assumption) ?_; rotate_left; (· (intro w hSw; (try dsimp only at hSw); go_simp; try with_reducible rfl)); (try simp only [Act.put, List.setIfInBounds_toArray, List.set_cons_zero, List.set_cons_succ]))
      (refine' wpAnyT_take (i := 5) (v := ?_) rfl (by kernel_rfl) (by kernel_rfl) (by kernel_rfl) (by kernel_rfl) (fun _ _ _ h => h) (Or.inl ⟨by rfl, ?_⟩) (by assumption) ?_; rotate_left; (· (intro w hSw; (try dsimp only at hSw); go_simp; try with_reducible rfl)); (try simp only [Act.put, List.setIfInBounds_toArray, List.set_cons_zero, List.set_cons_succ]))
      (refine' wpAnyT_take (i := 6) (v := ?_) rfl (by kernel_rfl) (by kernel_rfl) (by kernel_rfl) (by kernel_rfl) (fun _ _ _ h => h) (Or.inl ⟨by rfl, ?_⟩) (by assumption) ?_; rotate_left; (· (intro w hSw; (try dsimp only at hSw); go_simp; try with_reducible rfl)); (try simp only [Act.put, List.setIfInBounds_toArray, List.set_cons_zero, List.set_cons_succ]))
      simp only [List.getElem_toArray, List.getElem_cons_succ, List.getElem_cons_zero, Act.put, List.setIfInBounds_toArray, List.set_cons_zero, List.set_cons_succ]
      refine wpAnyT_two (i := 7) (j := 9) (by kernel_rfl) rfl rfl (fun K hK => ?_) (fun K hK => ?_)
      · refine step_make6 _ rfl (.tmp 21) (.tmp 21) rfl .i64 .i64 n rfl rfl (by omega) ?_
        intro M hM
        have hb1 := BelowL.alloc hb0 (.cells M 3)
        refine hK.out _ _ (fun _ => by (try dsimp only); exact MK.out _ hb1) (fun hH2 => ?_)
        clear hK K hHeld
        have hHeld := hH2 (by decide)
        (refine' wpAnyT_take (i := 8) (v := ?_) rfl (by kernel_rfl) (by kernel_rfl) (by kernel_rfl) (by kernel_rfl) (fun _ _ _ h => h) (Or.inl ⟨by rfl, ?_⟩) (by assumption) ?_; rotate_left; (· (intro w hSw; (try dsimp only at hSw); go_simp; try with_reducible rfl)); (try simp only [Act.put, List.setIfInBounds_toArray, List.set_cons_zero, List.set_cons_succ]))
        refine wpAnyT_one (i := 9) (by kernel_rfl) rfl (fun K hK => ?_)
        go_simp
        have hb2 := BelowL.alloc hb1 (.cells #[.int .i64 0, .int .i64 0, .slice none 0 0] 41)
        refine hK.out _ _ (fun _ => by (try dsimp only); first | exact MK.out _ hb2 | exact MK.out _ (BelowL.mk (bAlloc (bAlloc (Below.refl _ _) _) _).drew)) (fun hH3 => ?_)
        clear hK K hHeld
        refine wpAnyT_one (i := 10) (by kernel_rfl) rfl (fun K hK => ?_)
        go_simp
        refine hK.out _ _ (fun h => absurd h (by decide)) (fun hH4 => ?_)
        clear hK K hH4 hH3 hH2
        refine wpAnyT_done (by kernel_rfl) ?_ _
        (try go_simp)
        go_wp2_with fail
        go_meet
        have hr := hM.own w4.drew
        refine ⟨_, w4.heap.size + 1, w4.heap.size, rfl, rfl, by omega, Nat.le_refl _, by omega, ?_, ?_, ?_⟩
        · first | exact Blk.new' _ _ (by simp) | exact (Blk.new' _ _ (by simp)).drew | trace_state
        · first | exact (hM.own w4).alloc _ | exact (hr.alloc _) | exact ((hM.own w4).alloc _).drewN 1 | trace_state
        · first | exact bAlloc (bAlloc (Below.refl _ _) _) _ | exact (bAlloc (bAlloc (Below.refl _ _) _) _).drew | trace_state
      · go_simp
        have hb1 := BelowL.alloc hb0 (.cells #[.int .i64 0, .int .i64 0, .slice none 0 0] 41)
        have hb1' : BelowL w4 (w4.alloc (.cells #[.int .i64 0, .int .i64 0, .slice none 0 0] 41)).drew := BelowL.mk (bAlloc (Below.refl _ _) _).drew
        refine hK.out _ _ (fun _ => by (try dsimp only); first | exact MK.out _ hb1 | exact MK.out _ hb1') (fun hH2 => ?_)
        clear hK K hHeld
        have hHeld := hH2 (by decide)
        (try simp only [List.getElem_toArray, List.getElem_cons_succ, List.getElem_cons_zero, Act.put, List.setIfInBounds_toArray, List.set_cons_zero, List.set_cons_succ])
        refine wpAnyT_one (i := 7) (by kernel_rfl) rfl (fun K hK => ?_)
        refine step_make6 _ (by rfl) (.tmp 21) (.tmp 21) (by rfl) .i64 .i64 n (by rfl) (by rfl) (by omega) ?_
        intro M hM
        have hb2 := BelowL.alloc hb1 (.cells M 3)
        have hb2' := BelowL.alloc hb1' (.cells M 3)
        refine hK.out _ _ (fun _ => by (try dsimp only); first | exact MK.out _ hb2 | exact MK.out _ hb2') (fun hH3 => ?_)
        clear hK K hHeld
        have hHeld := hH3 (by decide)
        (refine' wpAnyT_take (i := 8) (v := ?_) rfl (by kernel_rfl) (by kernel_rfl) (by kernel_rfl) (by kernel_rfl) (fun _ _ _ h => h) (Or.inl ⟨by rfl, ?_⟩) (by assumption) ?_; rotate_left; (· (intro w hSw; (try dsimp only at hSw); go_simp; try with_reducible rfl)); (try simp only [Act.put, List.setIfInBounds_toArray, List.set_cons_zero, List.set_cons_succ]))
        have hX := (Blk.new w4 41 #[.int .i64 0, .int .i64 0, .slice none 0 0])
        refine wpAnyT_one (i := 10) (by kernel_rfl) rfl (fun K hK => ?_)
        go_simp
        refine hK.out _ _ (fun h => absurd h (by decide)) (fun hH4 => ?_)
        clear hK K hH4 hH3 hH2
        refine wpAnyT_done (by kernel_rfl) ?_ _
        (try go_simp)
        go_wp2_with fail
        go_meet
        have hr := hM.own' (g := w4.heap.size + 1) (w4.alloc (.cells #[.int .i64 W, .int .i64 H, .slice (some ⟨w4.heap.size + 1, 0, none⟩) n n] 41)) (by simp)
        have hr2 := hM.own' (g := w4.heap.size + 1) (w4.alloc (.cells #[.int .i64 W, .int .i64 H, .slice (some ⟨w4.heap.size + 1, 0, none⟩) n n] 41)).drew (by show _ = (w4.alloc _).heap.size; simp)
        refine ⟨_, w4.heap.size, w4.heap.size + 1, rfl, rfl, Nat.le_refl _, by omega, by omega, ?_, ?_, ?_⟩
        · first | exact (Blk.new _ _ _).alloc _ | exact (Blk.new _ _ _).drew.alloc _ | exact ((Blk.new _ _ _).alloc _).drew | trace_state
        · first | exact hr | exact hr2 | exact hr.drewN 1 | trace_state
        · first | exact bAlloc (bAlloc (Below.refl _ _) _) _ | exact bAlloc (bAlloc (Below.refl _ _) _).drew _ | exact (bAlloc (bAlloc (Below.refl _ _) _) _).drew | trace_state
    case rest =>
      obtain ⟨wx, mb, mg, rfl, rfl, hmb, hmg, hne, hbm, hom, hb⟩ := hcut
      have KM := Lib.hid hbm
      have HM := Lib.hid hom
      have KP := Lib.hid (KP.out.below' hb)
      have KZ := Lib.hid (KZ.out.below' hb)
      have RP := Lib.hid (RP.out.below hb)
      have HB := Lib.hid (bTrans HB.out hb)
      have HMB : Hid (w.heap.size + 1 < mb ∧ w.heap.size + 1 < mg ∧ mb ≠ mg) := Lib.hid ⟨by have := ZB.out; omega, by have := ZB.out; omega, hne⟩
      clear hbm hom hb hmb hmg hne l0 o0 o1 o2
      obtain ⟨l0, o0, o1, o2⟩ := KP.out.c3
      go_wp2_with fail
      refine (spec_l6Copy W H b off n cap xs _ HN.out (by exact RP.out) (by omega)).mono ?_
      rintro e w5 ⟨oa, oc, rfl, ho, hb⟩
      obtain ⟨dg, rfl, hdgB, hog⟩ : ∃ g, oa = some ⟨g, 0, none⟩ ∧ wx.heap.size ≤ g ∧ Own w5 g n oc xs := by
        rcases ho with ⟨_, h, _⟩ | h
        · omega
        · exact h
      have HG : Hid (mb < dg ∧ mg < dg ∧ w.heap.size + 1 < dg ∧ dg < w5.heap.size ∧ b < w.heap.size) := Lib.hid ⟨by have := KM.out.lt; omega, by have := HM.out.lt; omega, by have := KZ.out.lt; omega, hog.lt, hbw⟩
      have KM := Lib.hid ((KM.out.below' hb).alloc (.cells #[.int .i64 W, .int .i64 H, .slice (some ⟨dg, 0, none⟩) n oc] 27))
      have KP := Lib.hid ((KP.out.below' hb).alloc (.cells #[.int .i64 W, .int .i64 H, .slice (some ⟨dg, 0, none⟩) n oc] 27))
      have KZ := Lib.hid ((KZ.out.below' hb).alloc (.cells #[.int .i64 W, .int .i64 H, .slice (some ⟨dg, 0, none⟩) n oc] 27))
      have HM := Lib.hid ((HM.out.below hb HM.out.lt).alloc (.cells #[.int .i64 W, .int .i64 H, .slice (some ⟨dg, 0, none⟩) n oc] 27))
      have RP := Lib.hid ((RP.out.below hb).alloc (.cells #[.int .i64 W, .int .i64 H, .slice (some ⟨dg, 0, none⟩) n oc] 27))
      have HB := Lib.hid (bAlloc (bTrans HB.out hb) (.cells #[.int .i64 W, .int .i64 H, .slice (some ⟨dg, 0, none⟩) n oc] 27))
      have KD := Lib.hid (Blk.new w5 27 #[.int .i64 W, .int .i64 H, .slice (some ⟨dg, 0, none⟩) n oc])
      have HD := Lib.hid (hog.alloc (.cells #[.int .i64 W, .int .i64 H, .slice (some ⟨dg, 0, none⟩) n oc] 27))
      obtain ⟨wy, hwy⟩ : ∃ wy, wy = w5.alloc (.cells #[.int .i64 W, .int .i64 H, .slice (some ⟨dg, 0, none⟩) n oc] 27) := ⟨_, rfl⟩
      clear ho hb hdgB hog l0 o0 o1 o2
      go_upto_region 5 with fail
      rw [← hwy] at KM KP KZ HM RP HB KD HD ⊢
      clear hwy
      obtain ⟨l0, o0, o1, o2⟩ := KP.out.c3
      go_wp2_with fail
      refine (spec_CountInk W H _ n cap xs 1 _ HN.out (by exact RP.out) (by omega)).mono ?_
      rw [CC.out]
      rintro e w7 ⟨rfl, hb⟩
      have KM := Lib.hid (KM.out.below' hb)
      have KP := Lib.hid (KP.out.below' hb)
      have KZ := Lib.hid (KZ.out.below' hb)
      have KD := Lib.hid (KD.out.below' hb)
      have HM := Lib.hid (HM.out.below hb HM.out.lt)
      have HD := Lib.hid (HD.out.below hb HD.out.lt)
      have RP := Lib.hid (RP.out.below hb)
      have HB := Lib.hid (bTrans HB.out hb)
      clear hb l0 o0 o1 o2
      go_wp2_with fail
      go_loopw [6] (fun s wr => ∃ (k : Nat) (L : Int), k ≤ d ∧ s = .int .i64 L ∧ Hid (L + k + 1 = d) ∧ -1 ≤ L ∧ Hid (Own wr dg n oc (downG W H xs d (List.replicate n 0) k).1) ∧ Hid (Own wr mg n n (downG W H xs d (List.replicate n 0) k).2) ∧ Hid (Keep6 (Duo dg mg) w7 wr)) (fun s _ => (intOf s + 1).toNat)
      case atStart => exact ⟨0, (d : Int) - 1, Nat.zero_le _, rfl, Lib.hid (by omega), by omega, HD, HM, Lib.hid (Keep6.refl _ _)⟩
      case round =>
        clear HD HM
        obtain ⟨k, L, hk, rfl, HL, hL1, HD, HM, HK⟩ := hrel
        by_cases hlt : 0 ≤ L
        · have hk1 : k < d := by have := HL.out; omega
          have hLd : L < d := by have := HL.out; omega
          obtain ⟨F1, F2, F3, F4⟩ := DI.out k (by omega)
          rw [HN.out] at F2
          obtain ⟨i, i1, i2, i3⟩ := tight_some (W := W) (H := H) (xs := (downG W H xs d (List.replicate n 0) k).1) (by omega)
          have DE : Hid (downG W H xs d (List.replicate n 0) (k + 1) = ((downG W H xs d (List.replicate n 0) k).1.set i 0, (downG W H xs d (List.replicate n 0) k).2.set i L)) := Lib.hid (by
            rw [downG, flipT, i1, show (d : Int) - 1 - k = L by have := HL.out; omega]
            rfl)
          rw [F2] at i2
          have HF1 := Lib.hid F1
          have HF2 := Lib.hid F2
          have HI := Lib.hid i1
          clear F1 F2 F3 F4 i1 i3
          obtain ⟨cur, hcur⟩ : ∃ c, (downG W H xs d (List.replicate n 0) k).1 = c := ⟨_, rfl⟩
          obtain ⟨rk, hrk⟩ : ∃ c, (downG W H xs d (List.replicate n 0) k).2 = c := ⟨_, rfl⟩
          rw [hcur] at HD HF1 HF2 HI DE
          rw [hrk] at HM DE
          clear hcur hrk
          have KDr := Lib.hid (HK.out.blk KD.out (by have := HG.out; unfold Duo; omega))
          have KMr := Lib.hid (HK.out.blk KM.out (by have := HG.out; have := HMB.out; unfold Duo; omega))
          obtain ⟨lD, q0, q1, q2⟩ := KDr.out.c3
          go_wp2_with fail
          refine (spec_tight W H _ n oc cur _ HF2.out (by exact HD.out.rd) HF1.out).mono ?_
          rw [HI.out]
          rintro e w8 ⟨rfl, hb⟩
          have KM8 := Lib.hid (KMr.out.below' hb)
          have KD8 := Lib.hid (KDr.out.below' hb)
          have HD8 := Lib.hid (HD.out.below hb HD.out.lt)
          have HM8 := Lib.hid (HM.out.below hb HM.out.lt)
          have HK8 := Lib.hid (HK.out.call hb)
          clear hb lD q0 q1 q2 KDr KMr
          obtain ⟨lD, q0, q1, q2⟩ := KD8.out.c3
          have g1 := HD8.out.cell i2
          have g2 := HD8.out.frozen i
          have HD9 := Lib.hid (HD8.out.set i 0)
          have KM9 := Lib.hid (KM8.out.other (a := ⟨dg, i, none⟩) (by have := HG.out; simp; omega) (.int .i64 0))
          have HM9 := Lib.hid (HM8.out.other (a := ⟨dg, i, none⟩) (by have := HG.out; simp; omega) (.int .i64 0))
          have HK9 := Lib.hid (HK8.out.set (a := ⟨dg, i, none⟩) (Or.inl rfl) (.int .i64 0))
          obtain ⟨wv, hwv⟩ : ∃ wv, wv = w8.setCell ⟨dg, i, none⟩ (.int .i64 0) := ⟨_, rfl⟩
          go_upto_region 10 with fail
          rw [← hwv] at HD9 KM9 HM9 HK9 ⊢
          clear hwv g1 g2 lD q0 q1 q2
          obtain ⟨lm, m0, m1, m2⟩ := KM9.out.c3
          have g1 := HM9.out.cell i2
          have g2 := HM9.out.frozen i
          go_wp2_with fail
          go_roundw
          case rel => exact ⟨k + 1, L - 1, by omega, by go_num, Lib.hid (by have := HL.out; push_cast; omega), by omega, Lib.hid (by rw [DE.out]; exact HD9.out.other (by exact fun e => by have := HG.out; simp at e; omega) _), Lib.hid (by rw [DE.out]; exact HM9.out.set i L), Lib.hid (HK9.out.set (Or.inr rfl) _)⟩
          case measure => simp [intOf]; omega
        · obtain rfl : k = d := by have := HL.out; omega
          have hL0 : L < 0 := by omega
          obtain ⟨RK, hRK⟩ : ∃ R, (downG W H xs k (List.replicate n 0) k).2 = R := ⟨_, rfl⟩
          rw [hRK] at HM ER2 UI
          have KM := Lib.hid (HK.out.blk KM.out (by have := HG.out; have := HMB.out; unfold Duo; omega))
          have KP := Lib.hid (HK.out.blk KP.out (by have := HG.out; have := HMB.out; unfold Duo; omega))
          have KZ := Lib.hid (HK.out.blk KZ.out (by have := HG.out; have := HMB.out; unfold Duo; omega))
          have RP := Lib.hid (HK.out.rd RP.out (fun a ha => by cases ha; have := HG.out; have := HMB.out; unfold Duo; simp; omega))
          have HB := Lib.hid (HB.out.trans (HK.out.below (B := w.heap.size) (fun i hi => by have := HG.out; have := HMB.out; unfold Duo at hi; omega) HB.out.size))
          clear hRK HD HK HG KD hlt
          obtain ⟨l0, o0, o1, o2⟩ := KP.out.c3
          go_wp2_with fail
          refine (spec_l6Copy W H b off n cap xs _ HN.out (by exact RP.out) (by omega)).mono ?_
          rintro e w11 ⟨oa, oc, rfl, ho, hb⟩
          obtain ⟨dg, rfl, hdgB, hog⟩ : ∃ g, oa = some ⟨g, 0, none⟩ ∧ wr.heap.size ≤ g ∧ Own w11 g n oc xs := by
            rcases ho with ⟨_, h, _⟩ | h
            · omega
            · exact h
          have HG : Hid (mb < dg ∧ mg < dg ∧ w.heap.size + 1 < dg ∧ dg < w11.heap.size ∧ b < w.heap.size) := Lib.hid ⟨by have := KM.out.lt; omega, by have := HM.out.lt; omega, by have := KZ.out.lt; omega, hog.lt, hbw⟩
          have KM := Lib.hid ((KM.out.below' hb).alloc (.cells #[.int .i64 W, .int .i64 H, .slice (some ⟨dg, 0, none⟩) n oc] 27))
          have KP := Lib.hid ((KP.out.below' hb).alloc (.cells #[.int .i64 W, .int .i64 H, .slice (some ⟨dg, 0, none⟩) n oc] 27))
          have KZ := Lib.hid ((KZ.out.below' hb).alloc (.cells #[.int .i64 W, .int .i64 H, .slice (some ⟨dg, 0, none⟩) n oc] 27))
          have HM := Lib.hid ((HM.out.below hb HM.out.lt).alloc (.cells #[.int .i64 W, .int .i64 H, .slice (some ⟨dg, 0, none⟩) n oc] 27))
          have RP := Lib.hid ((RP.out.below hb).alloc (.cells #[.int .i64 W, .int .i64 H, .slice (some ⟨dg, 0, none⟩) n oc] 27))
          have HB := Lib.hid (bAlloc (bTrans HB.out hb) (.cells #[.int .i64 W, .int .i64 H, .slice (some ⟨dg, 0, none⟩) n oc] 27))
          have KD := Lib.hid (Blk.new w11 27 #[.int .i64 W, .int .i64 H, .slice (some ⟨dg, 0, none⟩) n oc])
          have HD := Lib.hid (hog.alloc (.cells #[.int .i64 W, .int .i64 H, .slice (some ⟨dg, 0, none⟩) n oc] 27))
          obtain ⟨wy, hwy⟩ : ∃ wy, wy = w11.alloc (.cells #[.int .i64 W, .int .i64 H, .slice (some ⟨dg, 0, none⟩) n oc] 27) := ⟨_, rfl⟩
          clear ho hb hdgB hog l0 o0 o1 o2
          go_upto_region 12 with fail
          rw [← hwy] at KM KP KZ HM RP HB KD HD ⊢
          clear hwy
          obtain ⟨l0, o0, o1, o2⟩ := KP.out.c3
          go_wp2_with fail
          refine (spec_CountInk W H _ n cap xs 1 _ HN.out (by exact RP.out) (by omega)).mono ?_
          rw [CC.out]
          rintro e w13 ⟨rfl, hb⟩
          have KM := Lib.hid (KM.out.below' hb)
          have KP := Lib.hid (KP.out.below' hb)
          have KZ := Lib.hid (KZ.out.below' hb)
          have KD := Lib.hid (KD.out.below' hb)
          have HM := Lib.hid (HM.out.below hb HM.out.lt)
          have HD := Lib.hid (HD.out.below hb HD.out.lt)
          have RP := Lib.hid (RP.out.below hb)
          have HB := Lib.hid (bTrans HB.out hb)
          clear hb l0 o0 o1 o2
          go_wp2_with fail
          go_loopw [9] (fun s wr => ∃ (q : Nat) (L : Int), q ≤ u ∧ s = .int .i64 L ∧ Hid (L = (k : Int) + q) ∧ 0 ≤ L ∧ Hid (Own wr dg n oc (upG W H xs k RK q).1) ∧ Hid (Own wr mg n n (upG W H xs k RK q).2) ∧ Hid (Keep6 (Duo dg mg) w13 wr)) (fun s _ => n - (intOf s).toNat)
          case atStart => exact ⟨0, (k : Int), Nat.zero_le _, rfl, Lib.hid (by omega), by omega, HD, HM, Lib.hid (Keep6.refl _ _)⟩
          case round =>
            clear HD HM
            obtain ⟨q, L, hq, rfl, HL, hL1, HD, HM, HK⟩ := hrel
            have KPr := Lib.hid (HK.out.blk KP.out (by have := HG.out; have := HMB.out; unfold Duo; omega))
            obtain ⟨l0, o0, o1, o2⟩ := KPr.out.c3
            by_cases hlt : L < n
            · have hk1 : q < u := by have := HL.out; have := HU.out; omega
              obtain ⟨F1, F2, F3, F4⟩ := UI.out q (by have := HU.out; rw [HN.out]; omega)
              rw [HN.out] at F2
              obtain ⟨i, i1, i2, i3⟩ := wide_some (W := W) (H := H) (xs := (upG W H xs k RK q).1) (dots_of (field_bd rfl F1).2.2.2.2.2.2.2.1) (by have := HU.out; omega)
              have DE : Hid (upG W H xs k RK (q + 1) = ((upG W H xs k RK q).1.set i 1, (upG W H xs k RK q).2.set i L)) := Lib.hid (by
                rw [upG, flipW, i1, show (k : Int) + q = L by have := HL.out; omega]
                rfl)
              rw [F2] at i2
              have HF1 := Lib.hid F1
              have HF2 := Lib.hid F2
              have HI := Lib.hid i1
              clear F1 F2 F3 F4 i1 i3
              obtain ⟨cur, hcur⟩ : ∃ c, (upG W H xs k RK q).1 = c := ⟨_, rfl⟩
              obtain ⟨rk, hrk⟩ : ∃ c, (upG W H xs k RK q).2 = c := ⟨_, rfl⟩
              rw [hcur] at HD HF1 HF2 HI DE
              rw [hrk] at HM DE
              clear hcur hrk
              have KDr := Lib.hid (HK.out.blk KD.out (by have := HG.out; unfold Duo; omega))
              have KMr := Lib.hid (HK.out.blk KM.out (by have := HG.out; have := HMB.out; unfold Duo; omega))
              obtain ⟨lD, q0, q1, q2⟩ := KDr.out.c3
              go_wp2_with fail
              refine (spec_wide W H _ n oc cur _ HF2.out (by exact HD.out.rd) HF1.out).mono ?_
              rw [HI.out]
              rintro e w8 ⟨rfl, hb⟩
              have KM8 := Lib.hid (KMr.out.below' hb)
              have KD8 := Lib.hid (KDr.out.below' hb)
              have HD8 := Lib.hid (HD.out.below hb HD.out.lt)
              have HM8 := Lib.hid (HM.out.below hb HM.out.lt)
              have HK8 := Lib.hid (HK.out.call hb)
              clear hb lD q0 q1 q2 KDr KMr
              obtain ⟨lD, q0, q1, q2⟩ := KD8.out.c3
              have g1 := HD8.out.cell i2
              have g2 := HD8.out.frozen i
              have HD9 := Lib.hid (HD8.out.set i 1)
              have KM9 := Lib.hid (KM8.out.other (a := ⟨dg, i, none⟩) (by have := HG.out; simp; omega) (.int .i64 1))
              have HM9 := Lib.hid (HM8.out.other (a := ⟨dg, i, none⟩) (by have := HG.out; simp; omega) (.int .i64 1))
              have HK9 := Lib.hid (HK8.out.set (a := ⟨dg, i, none⟩) (Or.inl rfl) (.int .i64 1))
              obtain ⟨wv, hwv⟩ : ∃ wv, wv = w8.setCell ⟨dg, i, none⟩ (.int .i64 1) := ⟨_, rfl⟩
              go_upto_region 17 with fail
              rw [← hwv] at HD9 KM9 HM9 HK9 ⊢
              clear hwv g1 g2 lD q0 q1 q2
              obtain ⟨lm, m0, m1, m2⟩ := KM9.out.c3
              have g1 := HM9.out.cell i2
              have g2 := HM9.out.frozen i
              go_wp2_with fail
              go_roundw
              case rel => exact ⟨q + 1, L + 1, by omega, by go_num, Lib.hid (by have := HL.out; push_cast; omega), by omega, Lib.hid (by rw [DE.out]; exact HD9.out.other (by exact fun e => by have := HG.out; simp at e; omega) _), Lib.hid (by rw [DE.out]; exact HM9.out.set i L), Lib.hid (HK9.out.set (Or.inr rfl) _)⟩
              case measure => simp [intOf]; omega
            · obtain rfl : q = u := by have := HL.out; have := HU.out; omega
              have hnl : (n : Int) ≤ L := by omega
              have EF : Hid (ranksG W H xs = (upG W H xs k RK q).2) := ER2
              have KM := Lib.hid (HK.out.blk KM.out (by have := HG.out; have := HMB.out; unfold Duo; omega))
              have KZ := Lib.hid (HK.out.blk KZ.out (by have := HG.out; have := HMB.out; unfold Duo; omega))
              have HB := Lib.hid (HB.out.trans (HK.out.below (B := w.heap.size) (fun i hi => by have := HG.out; have := HMB.out; unfold Duo at hi; omega) HB.out.size))
              obtain ⟨z0, r0, r1, r2⟩ := KZ.out.c3
              obtain ⟨f0, f1, f2⟩ := KZ.out.f3
              obtain ⟨lm, m0, m1, m2⟩ := KM.out.c3
              clear hlt
              go_wp2_with fail
              exact bodyPost_ret (v := .tuple #[.agg #[.int .i64 W, .int .i64 H, .slice (some ⟨mg, 0, none⟩) n n], .bool true]) (by simp [results, Try.results32, go_sem, r0, r1, r2]) rfl
                (by
                  rw [ER.out]
                  refine ⟨_, _, _, rfl, OwnA.mk (g := mg) ?_ (by have := HMB.out; omega), by omega, ?_⟩
                  · show Own _ mg n n (ranksG W H xs)
                    rw [EF.out]
                    exact ((HM.out.other (by have := HMB.out; simp; omega) _).other (by have := HMB.out; simp; omega) _).other (by have := HMB.out; simp; omega) _
                  · exact ((HB.out.setCell (by first | (simp; done) | (simp; omega)) _).setCell (by first | (simp; done) | (simp; omega)) _).setCell (by first | (simp; done) | (simp; omega)) _)

end Go.Proofs.Ytmkpmdnipakmgaa
