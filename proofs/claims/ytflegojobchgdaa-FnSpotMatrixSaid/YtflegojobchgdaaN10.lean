/-
  Contracts of chapter 6: the program's names and turns; TurnedLattice of both.
-/
import Derived.Test.YtflegojobchgdaaN9
namespace Go.Proofs.Ytflegojobchgdaa
open Go.RowKit
set_option linter.unusedVariables false
set_option linter.unusedSimpArgs false

/-- The period is at hand, and a box holds the step. -/
def StepSt (w wx : World) (A B d g : Int) (v7 v8 : Value) : Prop := v7 = .int .i64 d ∧ ∃ (gb : Nat) (sx : Int), v8 = .pointer (some ⟨gb, 0, none⟩) ∧ w.heap.size ≤ gb ∧ Blk wx gb 56 #[.int .i64 sx, .int .i64 g] ∧ HasL A B sx g ∧ -1000 ≤ sx ∧ sx ≤ 1000 ∧ Below w.heap.size w wx

theorem step_last {w v : World} {A B d g sx : Int} (hB : BelowL w v) (hs : HasL A B sx g) (s1 : -1000 ≤ sx) (s2 : sx ≤ 1000) : StepSt w (v.alloc (.cells #[.int .i64 sx, .int .i64 g] 56)) A B d g (.int .i64 d) (.pointer (some ⟨v.heap.size, 0, none⟩)) :=
  ⟨rfl, v.heap.size, sx, rfl, hB.le, Blk.new _ _ _, hs, s1, s2, bAlloc hB.out _⟩

theorem step_set {w v : World} {A B d g sx : Int} {gb : Nat} (hB : BelowL w v) (hg : w.heap.size ≤ gb) (hk : Blk v gb 56 #[.int .i64 0, .int .i64 0]) (hs : HasL A B sx g) (s1 : -1000 ≤ sx) (s2 : sx ≤ 1000) : StepSt w ((v.setCell ⟨gb, 0, none⟩ (.int .i64 sx)).setCell ⟨gb, 1, none⟩ (.int .i64 g)) A B d g (.int .i64 d) (.pointer (some ⟨gb, 0, none⟩)) :=
  ⟨rfl, gb, sx, rfl, hg, by exact (hk.set 0 _).set 1 _, hs, s1, s2, (hB.out.setCell (p := ⟨gb, 0, none⟩) (by exact hg) _).setCell (p := ⟨gb, 1, none⟩) (by exact hg) _⟩

theorem name_math {A B n g d a b p q x y K sx : Int} (L : Lat A B n g d a b p q) (hK : IsName A B x y K) (hs : HasL A B sx g) : y % g * d + (x - (y - y % g) / g * sx) % d = K :=
  L.name_one (L.name_by hs) hK

set_option maxRecDepth 100000 in
set_option maxHeartbeats 1600000 in
theorem impl_NameOf_yes {A B n g d a b p q : Int} (L : Lat A B n g d a b p q) (x y K : Int) (x1 : -100000 ≤ x) (x2 : x ≤ 100000) (y1 : -100000 ≤ y) (y2 : y ≤ 100000) (hK : IsName A B x y K) (w : World) :
    Calls Try.prog 11 #[.agg #[.int .i64 A, .int .i64 B], .int .i64 x, .int .i64 y] w fun e w' => e = .returned (.int .i64 K) ∧ Below w.heap.size w w' := by
  have HL := Lib.hid L
  have HK := Lib.hid hK
  have g1 := L.g1; have g2 := L.g2; have d1 := L.w1; have d2 := L.w2
  clear L hK
  go_enter Try.func11, Try.ntmps11
  go_wp2_with fail
  refine (impl_IsLattice _ _ _).mono ?_
  rw [lat_ok HL.out]
  rintro e w1 ⟨rfl, hb⟩
  have HB1 := Lib.hid (bTrans (Joins.below_alloc1 _ _) hb)
  have KB1 := Lib.hid ((Blk.new w 24 #[.int .i64 A, .int .i64 B]).below' hb)
  clear hb
  obtain ⟨z, c0, c1⟩ := KB1.out.c2
  go_wp2_with fail
  refine (impl_isPlace _ _).mono ?_
  rw [decide_eq_true (show -100000 ≤ x ∧ x ≤ 100000 from ⟨x1, x2⟩)]
  rintro e w2 ⟨rfl, rfl⟩
  go_wp2_with fail
  refine (impl_isPlace _ _).mono ?_
  rw [decide_eq_true (show -100000 ≤ y ∧ y ≤ 100000 from ⟨y1, y2⟩)]
  rintro e w2 ⟨rfl, rfl⟩
  clear z c0 c1
  go_upto_region 3 with fail
  go_cut [7, 8] (fun s7 s8 wx => StepSt w1 wx A B d g s7 s8)
  case first =>
    obtain ⟨z, c0, c1⟩ := KB1.out.c2
    have MK : Hid (∀ v, BelowL w1 v → v.cell? ⟨w.heap.size, 0, none⟩ = some (.int .i64 A) ∧ v.cell? ⟨w.heap.size, 1, none⟩ = some (.int .i64 B) ∧ BelowL w1 v) := Lib.hid (fun v h => ⟨(h.out.cell z).trans c0, (h.out.cell z).trans c1, h⟩)
    refine wp_region_held_drew (S := fun v => v.cell? ⟨w.heap.size, 0, none⟩ = some (.int .i64 A) ∧ v.cell? ⟨w.heap.size, 1, none⟩ = some (.int .i64 B) ∧ BelowL w1 v) (by kernel_rfl) (MK.out _ (BelowL.start _)) ?_
    intro hHeld
    have hb0 := limb3 hHeld
    (refine' wpAnyH_take (i := 0) (v := ?_) rfl (by kernel_rfl) (by kernel_rfl) (by kernel_rfl) (fun _ _ _ h => h) (Or.inl ⟨by rfl, ?_⟩) (by assumption) ?_; rotate_left; (· (intro w hSw; (try dsimp only at hSw); go_simp; try with_reducible rfl)); (try simp only [Act.put, List.setIfInBounds_toArray, List.set_cons_zero, List.set_cons_succ]))
    (refine' wpAnyH_take (i := 2) (v := ?_) rfl (by kernel_rfl) (by kernel_rfl) (by kernel_rfl) (fun _ _ _ h => h) (Or.inl ⟨by rfl, ?_⟩) (by assumption) ?_; rotate_left; (· (intro w hSw; (try dsimp only at hSw); go_simp; try with_reducible rfl)); (try simp only [Act.put, List.setIfInBounds_toArray, List.set_cons_zero, List.set_cons_succ]))
    refine wpAnyH_ready (rs := [1, 4]) (by kernel_rfl) (by simp) ?_
    refine AllReadyH.cons rfl (fun K hK => ?_) (AllReadyH.cons rfl (fun K hK => ?_) AllReadyH.nil)
    · skip
      go_simp
      go_at_call 15
      ((with_reducible refine (impl_PeriodOf_yes HL.out _).mono ?_); rintro e v1 ⟨rfl, hq1⟩)
      have hb1 := BelowL.call hb0 hq1
      go_wp2_with fail
      refine hK.out _ _ (by (try dsimp only); exact MK.out _ hb1) (fun hHeld => ?_)
      clear hK K
      refine wpAnyH_ready (rs := [3, 4]) (by kernel_rfl) (by simp) ?_
      refine AllReadyH.cons rfl (fun K hK => ?_) (AllReadyH.cons rfl (fun K hK => ?_) AllReadyH.nil)
      · skip
        go_simp
        go_at_call 32
        ((with_reducible refine (impl_stepDown HL.out _).mono ?_); rintro e v2 ⟨sx, rfl, hs, s1, s2, hq2⟩)
        have hb2 := BelowL.call hb1 hq2
        go_wp2_with fail
        refine hK.out _ _ (by (try dsimp only); exact MK.out _ hb2) (fun hHeld => ?_)
        clear hK K
        refine wpAnyH_ready (rs := [4]) (by kernel_rfl) (by simp) ?_
        refine AllReadyH.cons rfl (fun K hK => ?_) AllReadyH.nil
        go_simp
        refine hK.out _ _ (by (try dsimp only); exact MK.out _ (BelowL.alloc hb2 _)) (fun hHeld => ?_)
        clear hK K
        refine wpAnyH_ready (rs := [5]) (by kernel_rfl) (by simp) ?_
        refine AllReadyH.cons rfl (fun K hK => ?_) AllReadyH.nil
        go_simp
        refine hK.out _ _ (by (try dsimp only); exact MK.out _ (BelowL.alloc hb2 _)) (fun hHeld => ?_)
        clear hK K
        refine wpAnyH_ready (rs := [6]) (by kernel_rfl) (by simp) ?_
        refine AllReadyH.cons rfl (fun K hK => ?_) AllReadyH.nil
        go_simp
        refine hK.out _ _ (by (try dsimp only); exact MK.out _ (BelowL.alloc hb2 _)) (fun hHeld => ?_)
        clear hK K
        refine wpAnyH_done (by kernel_rfl) ?_ _
        (try go_simp)
        go_wp2_with fail
        go_meet
        exact step_last hb2 hs s1 s2
      · skip
        go_simp
        refine hK.out _ _ (by (try dsimp only); exact MK.out _ (BelowL.alloc hb1 _)) (fun hHeld => ?_)
        clear hK K
        refine wpAnyH_ready (rs := [3]) (by kernel_rfl) (by simp) ?_
        refine AllReadyH.cons rfl (fun K hK => ?_) AllReadyH.nil
        go_simp
        go_at_call 32
        ((with_reducible refine (impl_stepDown HL.out _).mono ?_); rintro e v2 ⟨sx, rfl, hs, s1, s2, hq2⟩)
        have hb2 := BelowL.call (BelowL.alloc hb1 _) hq2
        go_wp2_with fail
        refine hK.out _ _ (by (try dsimp only); exact MK.out _ hb2) (fun hHeld => ?_)
        clear hK K
        have kb := (Blk.new v1 56 #[.int .i64 0, .int .i64 0]).below' hq2
        obtain ⟨kl, k0, k1⟩ := kb.c2
        have f0 := kb.frozen 0
        have f1 := kb.frozen 1
        refine wpAnyH_ready (rs := [5]) (by kernel_rfl) (by simp) ?_
        refine AllReadyH.cons rfl (fun K hK => ?_) AllReadyH.nil
        go_simp
        refine hK.out _ _ (by (try dsimp only); exact MK.out _ hb2) (fun hHeld => ?_)
        clear hK K
        refine wpAnyH_ready (rs := [6]) (by kernel_rfl) (by simp) ?_
        refine AllReadyH.cons rfl (fun K hK => ?_) AllReadyH.nil
        go_simp
        refine hK.out _ _ (by (try dsimp only); exact MK.out _ (BelowL.set (BelowL.set hb2 (a := ⟨v1.heap.size, 0, none⟩) (by exact hb1.le) _) (a := ⟨v1.heap.size, 1, none⟩) (by exact hb1.le) _)) (fun hHeld => ?_)
        clear hK K
        refine wpAnyH_done (by kernel_rfl) ?_ _
        (try go_simp)
        go_wp2_with fail
        go_meet
        exact step_set hb2 hb1.le kb hs s1 s2
    · skip
      go_simp
      refine hK.out _ _ (by (try dsimp only); exact MK.out _ (BelowL.alloc hb0 _)) (fun hHeld => ?_)
      clear hK K
      refine wpAnyH_ready (rs := [1]) (by kernel_rfl) (by simp) ?_
      refine AllReadyH.cons rfl (fun K hK => ?_) AllReadyH.nil
      go_simp
      go_at_call 15
      ((with_reducible refine (impl_PeriodOf_yes HL.out _).mono ?_); rintro e v1 ⟨rfl, hq1⟩)
      have hb1 := BelowL.call (BelowL.alloc hb0 _) hq1
      go_wp2_with fail
      refine hK.out _ _ (by (try dsimp only); exact MK.out _ hb1) (fun hHeld => ?_)
      clear hK K
      refine wpAnyH_ready (rs := [3]) (by kernel_rfl) (by simp) ?_
      refine AllReadyH.cons rfl (fun K hK => ?_) AllReadyH.nil
      go_simp
      go_at_call 32
      ((with_reducible refine (impl_stepDown HL.out _).mono ?_); rintro e v2 ⟨sx, rfl, hs, s1, s2, hq2⟩)
      have hb2 := BelowL.call hb1 hq2
      go_wp2_with fail
      refine hK.out _ _ (by (try dsimp only); exact MK.out _ hb2) (fun hHeld => ?_)
      clear hK K
      have kb := ((Blk.new w1 56 #[.int .i64 0, .int .i64 0]).drew.below' hq1).below' hq2
      obtain ⟨kl, k0, k1⟩ := kb.c2
      have f0 := kb.frozen 0
      have f1 := kb.frozen 1
      refine wpAnyH_ready (rs := [5]) (by kernel_rfl) (by simp) ?_
      refine AllReadyH.cons rfl (fun K hK => ?_) AllReadyH.nil
      go_simp
      refine hK.out _ _ (by (try dsimp only); exact MK.out _ hb2) (fun hHeld => ?_)
      clear hK K
      refine wpAnyH_ready (rs := [6]) (by kernel_rfl) (by simp) ?_
      refine AllReadyH.cons rfl (fun K hK => ?_) AllReadyH.nil
      go_simp
      refine hK.out _ _ (by (try dsimp only); exact MK.out _ (BelowL.set (BelowL.set hb2 (a := ⟨w1.heap.size, 0, none⟩) (by exact (Nat.le_refl _)) _) (a := ⟨w1.heap.size, 1, none⟩) (by exact (Nat.le_refl _)) _)) (fun hHeld => ?_)
      clear hK K
      refine wpAnyH_done (by kernel_rfl) ?_ _
      (try go_simp)
      go_wp2_with fail
      go_meet
      exact step_set hb2 (Nat.le_refl _) kb hs s1 s2
  case rest =>
    obtain ⟨rfl, gb, sx, rfl, hg, kb, hs, s1, s2, hb⟩ := hcut
    have HB2 := Lib.hid (bTrans HB1.out hb)
    have HS := Lib.hid hs
    have HM := Lib.hid (name_math HL.out HK.out hs)
    obtain ⟨kl, k0, k1⟩ := kb.c2
    clear kb hs hb
    have v0 := Int.emod_nonneg y (show g ≠ 0 by omega)
    have v1 := Int.emod_lt_of_pos y (show 0 < g by omega)
    obtain ⟨V, hV⟩ : ∃ V, y % g = V := ⟨_, rfl⟩
    rw [hV] at v0 v1 HM
    have hyt : g * ((y - V) / g) = y - V := by
      have h := Int.mul_ediv_add_emod y g
      have e1 : y - V = g * (y / g) := by omega
      rw [e1, Int.mul_ediv_cancel_left _ (by omega)]
    obtain ⟨T, hT⟩ : ∃ T, (y - V) / g = T := ⟨_, rfl⟩
    rw [hT] at hyt HM
    have tb : -100012 ≤ T ∧ T ≤ 100000 := by
      have : g * 1 ≤ g * 12 := by omega
      constructor
      · by_cases h : -100012 ≤ T
        · exact h
        · exfalso
          have : g * T ≤ 1 * T := Int.mul_le_mul_of_nonpos_right (by omega) (by omega)
          omega
      · by_cases h : T ≤ 100000
        · exact h
        · exfalso
          have : 1 * T ≤ g * T := Int.mul_le_mul_of_nonneg_right (by omega) (by omega)
          omega
    obtain ⟨tb1, tb2⟩ := tb
    have tt : (y - V).tdiv g = T := by rw [← hyt]; exact Int.mul_tdiv_cancel_left _ (by omega)
    have m1 : -100012000 ≤ T * sx ∧ T * sx ≤ 100012000 := by
      have q1 : T * sx ≤ 100012 * 1000 ∧ -(100012 * 1000) ≤ T * sx := by
        rcases Int.le_total 0 sx with h | h
        · have i1 : T * sx ≤ 100012 * sx := Int.mul_le_mul_of_nonneg_right (by omega) h
          have i2 : -100012 * sx ≤ T * sx := Int.mul_le_mul_of_nonneg_right (by omega) h
          omega
        · have i1 : 100012 * sx ≤ T * sx := Int.mul_le_mul_of_nonpos_right (by omega) h
          have i2 : T * sx ≤ -100012 * sx := Int.mul_le_mul_of_nonpos_right (by omega) h
          omega
      omega
    obtain ⟨m2, m3⟩ := m1
    have u0 := Int.emod_nonneg (x - T * sx) (show d ≠ 0 by omega)
    have u1 := Int.emod_lt_of_pos (x - T * sx) (show 0 < d by omega)
    obtain ⟨U, hU⟩ : ∃ U, (x - T * sx) % d = U := ⟨_, rfl⟩
    rw [hU] at u0 u1 HM
    have r1 : 0 ≤ V * d := Int.mul_nonneg v0 (by omega)
    have r2 := Int.mul_le_mul (show V ≤ 12 by omega) (show d ≤ 288 by omega) (by omega) (by omega)
    have z1 : ¬ g = 0 := by omega
    have z2 : (g == 0) = false := by simp; omega
    have HV := Lib.hid hV
    have HU := Lib.hid hU
    clear hV hU hyt hT
    go_wp2_with fail
    refine (rem5 _ _ _ (by omega) (by omega)).mono ?_
    rw [HV.out]
    rintro e w3 ⟨rfl, rfl⟩
    go_wp2_with fail
    refine (rem5 _ _ _ (by omega) (by omega)).mono ?_
    rw [HU.out]
    rintro e w3 ⟨rfl, rfl⟩
    have HMM := Lib.hid HM
    clear HM
    go_wp2_with fail
    go_ret
    exact ⟨ret_int HMM.out, HB2.out⟩

set_option maxHeartbeats 800000 in
theorem impl_NameOf {A B x y R : Int} (h : NameR A B x y R) (w : World) :
    Calls Try.prog 11 #[.agg #[.int .i64 A, .int .i64 B], .int .i64 x, .int .i64 y] w fun e w' => e = .returned (.int .i64 R) ∧ Below w.heap.size w w' := by
  rcases h with ⟨hok, ⟨x1, x2, y1, y2⟩, hK⟩ | ⟨hn, rfl⟩
  · obtain ⟨n, g, d, a, b, p, q, L⟩ := lat_of hok
    exact impl_NameOf_yes L x y R x1 x2 y1 y2 hK w
  · by_cases hok : latOk A B = true
    · have HO := Lib.hid hok
      by_cases hx : -100000 ≤ x ∧ x ≤ 100000
      · have hy : ¬ (-100000 ≤ y ∧ y ≤ 100000) := fun hy => hn ⟨hok, hx.1, hx.2, hy.1, hy.2⟩
        have HX := Lib.hid hx
        have HY := Lib.hid hy
        clear hn hok hx hy
        go_enter Try.func11, Try.ntmps11
        go_wp2_with fail
        refine (impl_IsLattice _ _ _).mono ?_
        rw [HO.out]
        rintro e w1 ⟨rfl, hb⟩
        have HB1 := Lib.hid (bTrans (Joins.below_alloc1 _ _) hb)
        clear hb
        go_wp2_with fail
        refine (impl_isPlace _ _).mono ?_
        rw [decide_eq_true HX.out]
        rintro e w2 ⟨rfl, rfl⟩
        go_wp2_with fail
        refine (impl_isPlace _ _).mono ?_
        rw [decide_eq_false HY.out]
        rintro e w2 ⟨rfl, rfl⟩
        go_wp2_with fail
        go_ret
        exact ⟨rfl, HB1.out⟩
      · have HX := Lib.hid hx
        clear hn hok hx
        go_enter Try.func11, Try.ntmps11
        go_wp2_with fail
        refine (impl_IsLattice _ _ _).mono ?_
        rw [HO.out]
        rintro e w1 ⟨rfl, hb⟩
        have HB1 := Lib.hid (bTrans (Joins.below_alloc1 _ _) hb)
        clear hb
        go_wp2_with fail
        refine (impl_isPlace _ _).mono ?_
        rw [decide_eq_false HX.out]
        rintro e w2 ⟨rfl, rfl⟩
        go_wp2_with fail
        go_ret
        exact ⟨rfl, HB1.out⟩
    · have ho2 : latOk A B = false := by simpa using hok
      have HO := Lib.hid ho2
      clear hn hok ho2
      go_enter Try.func11, Try.ntmps11
      go_wp2_with fail
      refine (impl_IsLattice _ _ _).mono ?_
      rw [HO.out]
      rintro e w1 ⟨rfl, hb⟩
      have HB1 := Lib.hid (bTrans (Joins.below_alloc1 _ _) hb)
      clear hb
      go_wp2_with fail
      go_ret
      exact ⟨rfl, HB1.out⟩

set_option maxHeartbeats 800000 in
theorem impl_TurnName {A B K R : Int} (h : TurnR A B K R) (w : World) :
    Calls Try.prog 21 #[.agg #[.int .i64 A, .int .i64 B], .int .i64 K] w fun e w' => e = .returned (.int .i64 R) ∧ Below w.heap.size w w' := by
  rcases h with ⟨hok, ⟨k0, k1⟩, hK⟩ | ⟨hn, rfl⟩
  · obtain ⟨n, g, d, a, b, p, q, L⟩ := lat_of hok
    rw [L.hn] at k1
    rw [L.hw] at hK
    obtain ⟨U, hU⟩ : ∃ U, K % d = U := ⟨_, rfl⟩
    obtain ⟨V, hV⟩ : ∃ V, K / d = V := ⟨_, rfl⟩
    obtain ⟨u1, u2, v1, v2, t1, t2⟩ := div5 L k0 k1
    rw [hU] at u1 u2 hK
    rw [hV] at v1 v2 hK
    have HL := Lib.hid L
    have HK := Lib.hid hK
    have HU := Lib.hid hU
    have HV := Lib.hid hV
    clear L hK hok t1 t2 hU hV
    go_enter Try.func21, Try.ntmps21
    go_wp2_with fail
    refine (impl_PointOf_yes HL.out _ k0 k1 _).mono ?_
    rw [HU.out, HV.out]
    rintro e w1 ⟨rfl, hb⟩
    have HB1 := Lib.hid (bTrans (Joins.below_alloc1 _ _) hb)
    obtain ⟨z, c0, c1⟩ := ((Blk.new w 24 #[.int .i64 A, .int .i64 B]).below' hb).c2
    clear hb
    go_wp2_with fail
    refine (impl_NameOf_yes HL.out _ _ _ (by omega) (by omega) (by omega) (by omega) HK.out _).mono ?_
    rintro e w2 ⟨rfl, hb⟩
    have HB2 := Lib.hid (bTrans HB1.out hb)
    clear hb
    go_wp2_with fail
    go_ret
    exact ⟨rfl, HB2.out⟩
  · have H : Hid (∀ w, Calls Try.prog 13 #[.agg #[.int .i64 A, .int .i64 B], .int .i64 K] w fun e w' => e = .returned (.tuple #[.int .i64 0, .int .i64 0, .bool false]) ∧ Below w.heap.size w w') := Lib.hid (by
      intro w
      by_cases hok : latOk A B = true
      · obtain ⟨n, g, d, a, b, p, q, L⟩ := lat_of hok
        exact impl_PointOf_no1 L K (fun h => hn ⟨hok, by rw [L.hn]; exact h⟩) w
      · exact impl_PointOf_no0 (by simpa using hok) K w)
    clear hn
    go_enter Try.func21, Try.ntmps21
    go_wp2_with fail
    refine (H.out _).mono ?_
    rintro e w1 ⟨rfl, hb⟩
    have HB1 := Lib.hid (bTrans (Joins.below_alloc1 _ _) hb)
    clear hb
    go_wp2_with fail
    go_ret
    exact ⟨rfl, HB1.out⟩

end Go.Proofs.Ytflegojobchgdaa
