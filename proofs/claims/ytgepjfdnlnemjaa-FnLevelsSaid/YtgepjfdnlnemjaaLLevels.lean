/-
  FnLevels: levels grow with the ink from none to all cells, and the levels of a picture are those of its amounts: the law returns true for every code. No conditions.
-/
import Derived.Test.YtgepjfdnlnemjaaU1
import Derived.Test.YtgepjfdnlnemjaaR11
import Derived.Test.YtgepjfdnlnemjaaCut
import Derived.Test.YtgepjfdnlnemjaaR8
import Derived.Test.YtgepjfdnlnemjaaR4
import Derived.Test.YtgepjfdnlnemjaaM14
import Derived.Test.YtgepjfdnlnemjaaD15
import Derived.Test.YtgepjfdnlnemjaaFrameB
namespace Go.Proofs.Ytgepjfdnlnemjaa.lLevels
open Go.ChangeShapes Go.WideShapes Go.ChangeAt Go.RowKit
set_option linter.unusedVariables false
set_option linter.unusedSimpArgs false
attribute [local go_sem ↓] Go.wp_at_zero Go.wp_at_succ

theorem lev_call (W H : Int) (a : Option Addr) (n cp : Nat) (xs : List Int) (v l : Int) (w : World) (hl : xs.length = n) (ha : Rd w a xs) (mk : matOk W H xs = true) (hn : n ≤ 9223372036854775807) (h0 : 0 ≤ v) (h1 : v ≤ 255) (h : levelG n v = l) :
    Calls Try.prog 27 #[.agg #[.int .i64 W, .int .i64 H, .slice a n cp], .int .i64 v] w fun e w' => e = .returned (.int .i64 l) ∧ Below w.heap.size w w' :=
  (impl_LevelOf W H a n cp xs v w hl ha hn).mono fun e w' ⟨he, hb⟩ => ⟨by rw [he, levelOfF_yes hl mk h0 h1, h], hb⟩

set_option maxRecDepth 100000 in
set_option maxHeartbeats 8000000 in
theorem ok (ad0 : Option Addr) (n0 cap0 : Nat) (bs0 : List Int) (w : World) (hn0 : bs0.length = n0) (hr0 : RdU w.heap.size w ad0 bs0) (hs0 : n0 ≤ 1048576) :
    Calls Try.prog 5 #[.slice ad0 n0 cap0] w fun e w' => e = .returned (.bool true) ∧ Below w.heap.size w w' := by
  have HL := Lib.hid hn0
  have HC := Lib.hid hr0
  clear hn0 hr0
  go_enter Try.func5, Try.ntmps5
  go_wp2_with fail
  refine (spec_MakeMatrix ad0 n0 cap0 bs0 _ HL.out (by exact HC.out) (by omega)).mono ?_
  rintro e w1 ⟨W, H, a, n, cp, xs, rfl, mk, mw, mh, ho, hb⟩
  obtain ⟨m1, m2, m3, m4⟩ := matOk_bd ho.len mk
  obtain ⟨b1, b2, b3, b4, b5, b6⟩ := matSize_bd m1
  have hn1 : 1 ≤ n := by omega
  have hn2 : n ≤ 256 := by omega
  have MK := Lib.hid mk
  have HX := Lib.hid ho.len
  have HB1 := Lib.hid hb
  have RD2 := Lib.hid (ho.rd.alloc (.cells #[.int .i64 W, .int .i64 H, .slice a n cp] 25))
  have KM2 := Lib.hid (Blk.new w1 25 #[.int .i64 W, .int .i64 H, .slice a n cp])
  have HB2 := Lib.hid (bAlloc HB1.out (.cells #[.int .i64 W, .int .i64 H, .slice a n cp] 25))
  clear mk ho hb m1 m2 m3 m4 b5 b6
  go_wp2_with fail
  refine (laws_at w.heap.size ad0 n0 cap0 bs0 1 _ HL.out (by exact HC.out.below HB2.out) hs0 (by omega)).mono ?_
  rintro e w2 ⟨v, rfl, hv, rfl⟩
  go_upto_region 5 with fail
  obtain ⟨w2, hw2⟩ : ∃ v, v = w1.alloc (.cells #[.int .i64 W, .int .i64 H, .slice a n cp] 25) := ⟨_, rfl⟩
  rw [← hw2] at RD2 KM2 HB2 ⊢
  clear hw2
  obtain ⟨l2, c0, c1, c2⟩ := KM2.out.c3
  obtain ⟨u, hu⟩ : ∃ u : Nat, (255 : Int) - (v : Int) = (u : Int) := ⟨255 - v, by omega⟩
  obtain ⟨L1, hL1⟩ : ∃ L, levelG n (v : Int) = L := ⟨_, rfl⟩
  obtain ⟨L2, hL2⟩ : ∃ L, levelG n (u : Int) = L := ⟨_, rfl⟩
  have hsum : ¬ (L1 + L2 < (n : Int)) := by have := level_sum (n := n) (v := (v : Int)); rw [hu, hL1, hL2] at this; omega
  have hL1b := levelG_bd (n := n) (v := (v : Int)) (by omega) (by omega) hn2
  have hL2b := levelG_bd (n := n) (v := (u : Int)) (by omega) (by omega) hn2
  rw [hL1] at hL1b
  rw [hL2] at hL2b
  obtain ⟨z0, z1⟩ := hL1b
  obtain ⟨z2, z3⟩ := hL2b
  have hu0 : u ≤ 255 := by omega
  have HL1 := Lib.hid hL1
  have HL2 := Lib.hid hL2
  have HU := Lib.hid hu
  have hwu : IntKind.i64.wrap (255 - (v : Int)) = (u : Int) := by rw [IntWalk.i64_in _ (by omega)]; exact hu
  have hws : IntKind.i64.wrap (L1 + L2) = L1 + L2 := IntWalk.i64_in _ (by omega)
  clear hL1 hL2 hu
  have MK2 : Hid (∀ v, BelowH w2 v → v.cell? ⟨w1.heap.size, 0, none⟩ = some (.int .i64 W) ∧ v.cell? ⟨w1.heap.size, 1, none⟩ = some (.int .i64 H) ∧ v.cell? ⟨w1.heap.size, 2, none⟩ = some (.slice a n cp) ∧ BelowH w2 v) := Lib.hid (fun v hB => ⟨(hB.out.cell l2).trans c0, (hB.out.cell l2).trans c1, (hB.out.cell l2).trans c2, hB⟩)
  go_upto_region 6 with fail
  go_region_held3 (fun v => v.cell? ⟨w1.heap.size, 0, none⟩ = some (.int .i64 W) ∧ v.cell? ⟨w1.heap.size, 1, none⟩ = some (.int .i64 H) ∧ v.cell? ⟨w1.heap.size, 2, none⟩ = some (.slice a n cp) ∧ BelowH w2 v)
    (first | exact MK2.out _ (BelowH.start _) | exact MK2.out _ hb9)
    (first
      | (go_at_call 27; ((with_reducible refine (lev_call W H a n cp xs 0 0 _ HX.out (by exact RD2.out.below (BelowH.out (held4 (by assumption)))) MK.out (by omega) (by omega) (by omega) level_0).mono ?_); rintro e v9 ⟨rfl, hq9⟩; have hb9 := BelowH.call (held4 (by assumption)) hq9))
      | (go_at_call 27; ((with_reducible refine (lev_call W H a n cp xs 255 n _ HX.out (by exact RD2.out.below (BelowH.out (held4 (by assumption)))) MK.out (by omega) (by omega) (by omega) level_255).mono ?_); rintro e v9 ⟨rfl, hq9⟩; have hb9 := BelowH.call (held4 (by assumption)) hq9))
      | (go_at_call 27; ((with_reducible refine (lev_call W H a n cp xs v L1 _ HX.out (by exact RD2.out.below (BelowH.out (held4 (by assumption)))) MK.out (by omega) (by omega) (by omega) HL1.out).mono ?_); rintro e v9 ⟨rfl, hq9⟩; have hb9 := BelowH.call (held4 (by assumption)) hq9))
      | (go_at_call 27; ((with_reducible refine (lev_call W H a n cp xs u L2 _ HX.out (by exact RD2.out.below (BelowH.out (held4 (by assumption)))) MK.out (by omega) (by omega) (by omega) HL2.out).mono ?_); rintro e v9 ⟨rfl, hq9⟩; have hb9 := BelowH.call (held4 (by assumption)) hq9)))
  clear hwu hws hu0 HU HL2
  obtain ⟨w3, hw3⟩ : ∃ v, v = v9 := ⟨_, rfl⟩
  subst hw3
  have HB3 := Lib.hid (HB2.out.trans (hb9.out.mono HB2.out.size))
  have RD3 := Lib.hid (RD2.out.below hb9.out)
  have KM3 := Lib.hid (KM2.out.below' hb9.out)
  clear hb9 hq9 c0 c1 c2 l2 MK2
  obtain ⟨l2, c0, c1, c2⟩ := KM3.out.c3
  go_upto_region 8 with fail
  go_cut [52] (fun s wx => s = .bool false ∧ Below w3.heap.size w3 wx)
  case first =>
    by_cases hv0 : 0 < v
    · have hvp : 0 < (v : Int) := by omega
      obtain ⟨t, ht⟩ : ∃ t : Nat, (v : Int) - 1 = (t : Int) := ⟨v - 1, by omega⟩
      obtain ⟨L0, hL0⟩ : ∃ L, levelG n (t : Int) = L := ⟨_, rfl⟩
      have hm : ¬ L1 < L0 := by
        have h := level_mono (n := n) (u := (t : Int)) (v := (v : Int)) (by omega)
        rw [hL0, HL1.out] at h
        omega
      have ht0 : t ≤ 255 := by omega
      have HL0 := Lib.hid hL0
      have hwt : IntKind.i64.wrap ((v : Int) - 1) = (t : Int) := by rw [IntWalk.i64_in _ (by omega)]; exact ht
      clear hL0 ht
      have MK3 : Hid (∀ v, BelowH w3 v → v.cell? ⟨w1.heap.size, 0, none⟩ = some (.int .i64 W) ∧ v.cell? ⟨w1.heap.size, 1, none⟩ = some (.int .i64 H) ∧ v.cell? ⟨w1.heap.size, 2, none⟩ = some (.slice a n cp) ∧ BelowH w3 v) := Lib.hid (fun v hB => ⟨(hB.out.cell l2).trans c0, (hB.out.cell l2).trans c1, (hB.out.cell l2).trans c2, hB⟩)
      refine wp_region_held_drew (S := fun v => v.cell? ⟨w1.heap.size, 0, none⟩ = some (.int .i64 W) ∧ v.cell? ⟨w1.heap.size, 1, none⟩ = some (.int .i64 H) ∧ v.cell? ⟨w1.heap.size, 2, none⟩ = some (.slice a n cp) ∧ BelowH w3 v) (by kernel_rfl) (MK3.out _ (BelowH.start _)) ?_
      intro hHeld
      (refine' wpAnyH_take (i := 0) (v := ?_) rfl (by kernel_rfl) (by kernel_rfl) (by kernel_rfl) (fun _ _ _ h => h) (Or.inl ⟨by rfl, ?_⟩) (by assumption) ?_; rotate_left; (· (intro w hSw; (try dsimp only at hSw); go_simp; try with_reducible rfl)); (try simp only [Act.put, List.setIfInBounds_toArray, List.set_cons_zero, List.set_cons_succ]))
      (refine' wpAnyH_take (i := 1) (v := .bool true) rfl (by kernel_rfl) (by kernel_rfl) (by kernel_rfl) (fun _ _ _ h => h) (Or.inl ⟨by rfl, ?_⟩) (by assumption) ?_; (· (intro w hSw; (try dsimp only at hSw); go_simp)); (try simp only [Act.put, List.setIfInBounds_toArray, List.set_cons_zero, List.set_cons_succ]))
      (refine' wpAnyH_take (i := 2) (v := ?_) rfl (by kernel_rfl) (by kernel_rfl) (by kernel_rfl) (fun _ _ _ h => h) (Or.inl ⟨by rfl, ?_⟩) (by assumption) ?_; rotate_left; (· (intro w hSw; (try dsimp only at hSw); go_simp; try with_reducible rfl)); (try simp only [Act.put, List.setIfInBounds_toArray, List.set_cons_zero, List.set_cons_succ]))
      (refine' wpAnyH_take (i := 3) (v := ?_) rfl (by kernel_rfl) (by kernel_rfl) (by kernel_rfl) (fun _ _ _ h => h) (Or.inl ⟨by rfl, ?_⟩) (by assumption) ?_; rotate_left; (· (intro w hSw; (try dsimp only at hSw); go_simp; try with_reducible rfl)); (try simp only [Act.put, List.setIfInBounds_toArray, List.set_cons_zero, List.set_cons_succ]))
      (refine' wpAnyH_take (i := 4) (v := ?_) rfl (by kernel_rfl) (by kernel_rfl) (by kernel_rfl) (fun _ _ _ h => h) (Or.inl ⟨by rfl, ?_⟩) (by assumption) ?_; rotate_left; (· (intro w hSw; (try dsimp only at hSw); go_simp; try with_reducible rfl)); (try simp only [Act.put, List.setIfInBounds_toArray, List.set_cons_zero, List.set_cons_succ]))
      (refine' wpAnyH_take (i := 7) (v := ?_) rfl (by kernel_rfl) (by kernel_rfl) (by kernel_rfl) (fun _ _ _ h => h) (Or.inl ⟨by rfl, ?_⟩) (by assumption) ?_; rotate_left; (· (intro w hSw; (try dsimp only at hSw); go_simp; try with_reducible rfl)); (try simp only [Act.put, List.setIfInBounds_toArray, List.set_cons_zero, List.set_cons_succ]))
      (refine' wpAnyH_take (i := 8) (v := ?_) rfl (by kernel_rfl) (by kernel_rfl) (by kernel_rfl) (fun _ _ _ h => h) (Or.inl ⟨by rfl, ?_⟩) (by assumption) ?_; rotate_left; (· (intro w hSw; (try dsimp only at hSw); go_simp; try with_reducible rfl)); (try simp only [Act.put, List.setIfInBounds_toArray, List.set_cons_zero, List.set_cons_succ]))
      refine wpAnyH_ready (rs := [5]) (by kernel_rfl) (by simp) ?_
      refine AllReadyH.cons rfl (fun K hK => ?_) AllReadyH.nil
      go_simp
      refine hK.out _ _ (MK3.out _ (BelowH.start _)) (fun hHeld => ?_)
      clear hK K
      refine wpAnyH_ready (rs := [6]) (by kernel_rfl) (by simp) ?_
      refine AllReadyH.cons rfl (fun K hK => ?_) AllReadyH.nil
      go_simp
      (go_at_call 27; ((with_reducible refine (lev_call W H a n cp xs t L0 _ HX.out (by exact RD3.out.below (BelowH.out (held4 (by assumption)))) MK.out (by omega) (by omega) (by omega) HL0.out).mono ?_); rintro e v9 ⟨rfl, hq9⟩; have hb9 := BelowH.call (held4 (by assumption)) hq9))
      go_wp2_with fail
      refine hK.out _ _ (MK3.out _ hb9) (fun hHeld => ?_)
      clear hK K
      refine wpAnyH_ready (rs := [9]) (by kernel_rfl) (by simp) ?_
      refine AllReadyH.cons rfl (fun K hK => ?_) AllReadyH.nil
      go_simp
      (go_at_call 27; ((with_reducible refine (lev_call W H a n cp xs v L1 _ HX.out (by exact RD3.out.below hb9.out) MK.out (by omega) (by omega) (by omega) HL1.out).mono ?_); rintro e v8 ⟨rfl, hq8⟩; have hb8 := BelowH.call hb9 hq8))
      go_wp2_with fail
      refine hK.out _ _ (MK3.out _ hb8) (fun hHeld => ?_)
      clear hK K
      refine wpAnyH_ready (rs := [10]) (by kernel_rfl) (by simp) ?_
      refine AllReadyH.cons rfl (fun K hK => ?_) AllReadyH.nil
      go_simp
      refine hK.out _ _ (MK3.out _ hb8) (fun hHeld => ?_)
      clear hK K
      refine wpAnyH_ready (rs := [11]) (by kernel_rfl) (by simp) ?_
      refine AllReadyH.cons rfl (fun K hK => ?_) AllReadyH.nil
      go_simp
      refine hK.out _ _ (MK3.out _ hb8) (fun hHeld => ?_)
      clear hK K
      refine wpAnyH_done (by kernel_rfl) ?_ _
      go_wp2_with fail
      go_meet
      exact ⟨by rw [decide_eq_false (by omega)], hb8.out⟩
    · have hvp : ¬ 0 < (v : Int) := by omega
      refine wp_region_held_drew (S := fun _ => True) (by kernel_rfl) trivial ?_
      intro hHeld
      (refine' wpAnyH_take (i := 0) (v := ?_) rfl (by kernel_rfl) (by kernel_rfl) (by kernel_rfl) (fun _ _ _ h => h) (Or.inl ⟨by rfl, ?_⟩) (by assumption) ?_; rotate_left; (· (intro w hSw; (try dsimp only at hSw); go_simp; try with_reducible rfl)); (try simp only [Act.put, List.setIfInBounds_toArray, List.set_cons_zero, List.set_cons_succ]))
      (refine' wpAnyH_take (i := 1) (v := .bool false) rfl (by kernel_rfl) (by kernel_rfl) (by kernel_rfl) (fun _ _ _ h => h) (Or.inl ⟨by rfl, ?_⟩) (by assumption) ?_; (· (intro w hSw; (try dsimp only at hSw); go_simp)); (try simp only [Act.put, List.setIfInBounds_toArray, List.set_cons_zero, List.set_cons_succ]))
      (refine' wpAnyH_take (i := 2) (v := ?_) rfl (by kernel_rfl) (by kernel_rfl) (by kernel_rfl) (fun _ _ _ h => h) (Or.inl ⟨by rfl, ?_⟩) (by assumption) ?_; rotate_left; (· (intro w hSw; (try dsimp only at hSw); go_simp; try with_reducible rfl)); (try simp only [Act.put, List.setIfInBounds_toArray, List.set_cons_zero, List.set_cons_succ]))
      (refine' wpAnyH_take (i := 3) (v := undef) rfl (by kernel_rfl) (by kernel_rfl) (by kernel_rfl) (fun _ _ _ h => h) (Or.inr ⟨by rfl, rfl⟩) (by assumption) ?_; (try simp only [Act.put, List.setIfInBounds_toArray, List.set_cons_zero, List.set_cons_succ]))
      (refine' wpAnyH_take (i := 4) (v := undef) rfl (by kernel_rfl) (by kernel_rfl) (by kernel_rfl) (fun _ _ _ h => h) (Or.inr ⟨by rfl, rfl⟩) (by assumption) ?_; (try simp only [Act.put, List.setIfInBounds_toArray, List.set_cons_zero, List.set_cons_succ]))
      (refine' wpAnyH_take (i := 7) (v := undef) rfl (by kernel_rfl) (by kernel_rfl) (by kernel_rfl) (fun _ _ _ h => h) (Or.inr ⟨by rfl, rfl⟩) (by assumption) ?_; (try simp only [Act.put, List.setIfInBounds_toArray, List.set_cons_zero, List.set_cons_succ]))
      (refine' wpAnyH_take (i := 8) (v := undef) rfl (by kernel_rfl) (by kernel_rfl) (by kernel_rfl) (fun _ _ _ h => h) (Or.inr ⟨by rfl, rfl⟩) (by assumption) ?_; (try simp only [Act.put, List.setIfInBounds_toArray, List.set_cons_zero, List.set_cons_succ]))
      refine wpAnyH_ready (rs := [5]) (by kernel_rfl) (by simp) ?_
      refine AllReadyH.cons rfl (fun K hK => ?_) AllReadyH.nil
      go_simp
      refine hK.out _ _ trivial (fun hHeld => ?_)
      clear hK K
      refine wpAnyH_ready (rs := [6]) (by kernel_rfl) (by simp) ?_
      refine AllReadyH.cons rfl (fun K hK => ?_) AllReadyH.nil
      go_simp
      refine hK.out _ _ trivial (fun hHeld => ?_)
      clear hK K
      refine wpAnyH_ready (rs := [9]) (by kernel_rfl) (by simp) ?_
      refine AllReadyH.cons rfl (fun K hK => ?_) AllReadyH.nil
      go_simp
      refine hK.out _ _ trivial (fun hHeld => ?_)
      clear hK K
      refine wpAnyH_ready (rs := [10]) (by kernel_rfl) (by simp) ?_
      refine AllReadyH.cons rfl (fun K hK => ?_) AllReadyH.nil
      go_simp
      refine hK.out _ _ trivial (fun hHeld => ?_)
      clear hK K
      refine wpAnyH_ready (rs := [11]) (by kernel_rfl) (by simp) ?_
      refine AllReadyH.cons rfl (fun K hK => ?_) AllReadyH.nil
      go_simp
      refine hK.out _ _ trivial (fun hHeld => ?_)
      clear hK K
      refine wpAnyH_done (by kernel_rfl) ?_ _
      go_wp2_with fail
      go_meet
      exact ⟨rfl, (Below.refl _ _).drew⟩
  case rest =>
    obtain ⟨rfl, hb⟩ := hcut
    obtain ⟨w4, hw4⟩ : ∃ v, v = wc := ⟨_, rfl⟩
    subst hw4
    have HB4 := Lib.hid (bTrans HB3.out hb)
    have RD4 := Lib.hid (RD3.out.below hb)
    have KM4 := Lib.hid (KM3.out.below' hb)
    clear hb c0 c1 c2 l2
    go_wp2_with fail
    refine (laws_fresh ad0 n0 cap0 bs0 w.heap.size _ HL.out (by exact HC.out.below HB4.out) (by exact HB4.out.size) (by omega)).mono ?_
    rintro e w5 ⟨fa, fn, fc, fs, rfl, hfl, hfn, hfr, hb⟩
    have HB5 := Lib.hid (bTrans HB4.out hb)
    have RD5 := Lib.hid (RD4.out.below hb)
    have KM5 := Lib.hid (KM4.out.below' hb)
    clear hb
    go_wp2_with fail
    refine (pic_call fa fn fc fs 6 _ hfl (by exact hfr) (by omega) (by omega) (by omega)).mono ?_
    rintro e w6 ⟨V, U, ap, m, cq, ps, rfl, p1, p2, pq, pm1, pm2, pl, prd, pp, pw, hb⟩
    have HB6 := Lib.hid (bAlloc (bTrans HB5.out hb) (.cells #[.int .i64 V, .int .i64 U, .slice ap m cq] 30))
    have RD6 := Lib.hid ((RD5.out.below hb).alloc (.cells #[.int .i64 V, .int .i64 U, .slice ap m cq] 30))
    have KM6 := Lib.hid ((KM5.out.below' hb).alloc (.cells #[.int .i64 V, .int .i64 U, .slice ap m cq] 30))
    have RP6 := Lib.hid (prd.alloc (.cells #[.int .i64 V, .int .i64 U, .slice ap m cq] 30))
    have KP6 := Lib.hid (Blk.new w6 30 #[.int .i64 V, .int .i64 U, .slice ap m cq])
    have PP := Lib.hid pp
    have PW := Lib.hid pw
    have PL := Lib.hid pl
    clear hb prd pp pw pl pq hfr hfl hfn
    obtain ⟨l2, c0, c1, c2⟩ := KM6.out.c3
    obtain ⟨m2, d0, d1, d2⟩ := KP6.out.c3
    go_wp2_with fail
    refine (impl_LevelsFor_yes W H a n cp xs V U ap m cq ps _ HX.out (by exact RD6.out) (by omega) PL.out (by exact RP6.out) (by omega) MK.out PP.out).mono ?_
    rintro e w7 ⟨a7, c7, rfl, ho, hb⟩
    have HB7 := Lib.hid (bTrans HB6.out hb)
    have RD7 := Lib.hid (RD6.out.below hb)
    have KM7 := Lib.hid (KM6.out.below' hb)
    have RP7 := Lib.hid (RP6.out.below hb)
    have KP7 := Lib.hid (KP6.out.below' hb)
    have RL7 := Lib.hid ho.rd
    have HLL : Hid ((ps.map (levelG n)).length = m) := Lib.hid ho.len
    clear hb ho c0 c1 c2 l2 d0 d1 d2 m2
    obtain ⟨l2, c0, c1, c2⟩ := KM7.out.c3
    obtain ⟨m2, d0, d1, d2⟩ := KP7.out.c3
    go_wp2_with fail
    go_loopw [68] (fun i wr => ∃ k : Nat, k ≤ m ∧ i = .int .i64 k ∧ Below w7.heap.size w7 wr) (fun i _ => m - (intOf i).toNat)
    case atStart => exact ⟨0, Nat.zero_le _, rfl, Below.refl _ _⟩
    case round =>
      obtain ⟨k, hk, rfl, hwr⟩ := hrel
      have HBr := Lib.hid (bTrans HB7.out hwr)
      have RDr := Lib.hid (RD7.out.below hwr)
      have KMr := Lib.hid (KM7.out.below' hwr)
      have HWr := Lib.hid hwr
      clear c0 c1 c2 l2 d0 d1 d2 m2
      obtain ⟨l2, c0, c1, c2⟩ := KMr.out.c3
      by_cases hlt : k < m
      · obtain ⟨ba, oa, hae, hal, hac⟩ := (RP7.out.below hwr).at (by have := PL.out; omega)
        have h1 := hac k (by have := PL.out; omega)
        obtain ⟨bb, ob, hbe, hbl, hbc⟩ := (RL7.out.below hwr).at (by have := HLL.out; omega)
        have h2 := hbc k (by have := HLL.out; omega)
        have e2 : (ps.map (levelG n)).getD k 0 = levelG n (ps[k]?.getD 0) := map_get _ _ _ (by have := PL.out; omega)
        rw [e2] at h2
        have h1' : wr.cell? ⟨ba, oa + k, none⟩ = some (.int .i64 (ps[k]?.getD 0)) := h1
        subst hae hbe
        obtain ⟨V1, V2⟩ := within_at PW.out k (by have := PL.out; omega)
        obtain ⟨x, hx⟩ : ∃ x : Int, ps[k]?.getD 0 = x := ⟨_, rfl⟩
        rw [hx] at h2 h1' V1 V2
        obtain ⟨z, hz⟩ : ∃ z : Int, levelG n x = z := ⟨_, rfl⟩
        rw [hz] at h2
        have HZ := Lib.hid hz
        clear hac hbc h1 e2 hx hz hwr
        have MKr : Hid (∀ v, BelowH wr v → v.cell? ⟨w1.heap.size, 0, none⟩ = some (.int .i64 W) ∧ v.cell? ⟨w1.heap.size, 1, none⟩ = some (.int .i64 H) ∧ v.cell? ⟨w1.heap.size, 2, none⟩ = some (.slice a n cp) ∧ v.cell? ⟨bb, ob + k, none⟩ = some (.int .i64 z) ∧ BelowH wr v) := Lib.hid (fun v hB => ⟨(hB.out.cell l2).trans c0, (hB.out.cell l2).trans c1, (hB.out.cell l2).trans c2, (hB.out.cell hbl).trans h2, hB⟩)
        go_upto_region 17 with fail
        go_region_held3 (fun v => v.cell? ⟨w1.heap.size, 0, none⟩ = some (.int .i64 W) ∧ v.cell? ⟨w1.heap.size, 1, none⟩ = some (.int .i64 H) ∧ v.cell? ⟨w1.heap.size, 2, none⟩ = some (.slice a n cp) ∧ v.cell? ⟨bb, ob + k, none⟩ = some (.int .i64 z) ∧ BelowH wr v)
          (first | exact MKr.out _ (BelowH.start _) | exact MKr.out _ hb9)
          (first
            | (go_at_call 27; ((with_reducible refine (lev_call W H a n cp xs x z _ HX.out (by exact RDr.out.below (BelowH.out (held5 (by assumption)))) MK.out (by omega) V1 V2 HZ.out).mono ?_); rintro e v9 ⟨rfl, hq9⟩; have hb9 := BelowH.call (held5 (by assumption)) hq9)))
        have HW9 := Lib.hid (HWr.out.trans (hb9.out.mono HWr.out.size))
        clear hb9 hq9
        go_wp2_with fail
        go_roundw
        case rel => exact ⟨k + 1, by omega, by go_num, HW9.out⟩
        case measure => simp [intOf]; omega
      · go_wp2_with fail
        go_ret
        exact ⟨rfl, HBr.out⟩

set_option maxHeartbeats 400000 in
theorem big (ad0 : Option Addr) (n0 cap0 : Nat) (w : World) (h : 1048576 < n0) (hl : n0 ≤ 9223372036854775807) :
    Calls Try.prog 5 #[.slice ad0 n0 cap0] w fun e w' => e = .returned (.bool true) ∧ Below w.heap.size w w' := by
  have h2 : (1048576 : Int) < (n0 : Int) := by omega
  go_enter Try.func5, Try.ntmps5
  go_wp2_with fail
  go_ret
  exact ⟨rfl, Below.refl _ _⟩

set_option maxRecDepth 100000 in
theorem lifted (os : Os) (started : os.Started) (H : Type) (enc : TypeId × Value → H) :
    ReturnsInHanded {} Try.checked os 5 .any (Rows.fnLevelsSpec.pre6 enc Try.prog Try.f5 Rows.fnLevelsRow.domain false) (Rows.fnLevelsSpec.post enc Try.prog Try.f5 false true false false) := by
  refine returnsInHanded_of_change (C := Try.checked) own started (by kernel_rfl) Try.func5
    (ChangeSpec.witness6 (enc := enc) (C := Try.checked) false ⟨#[], #[.slice none 0 0], []⟩ 8 (by kernel_rfl) (by kernel_rfl) (by kernel_rfl) (by kernel_rfl)) ?_
  intro W base args ds gs before hval0 hW hcnd _
  have hval : ∀ (j : Nat) t v, Try.f5.params[j]? = some t → args[j]? = some v → Value.okWide Try.prog W .any base t v := hval0
  have hW' := hW
  have hlt := hW.lt
  obtain ⟨p, q, hA0, hV, rfl, hfz, hnd⟩ := hW
  have hA : DataW.TrodAll enc Try.prog W 0 (fun _ => true) true Try.f5.params.toList args.toList ds p := hA0
  rw [Try.params5] at hA hval
  obtain ⟨v0, vs0, d0, ds0, p0, q0, hargs, rfl, rfl, h0, r0⟩ := trodAll_cons hA
  obtain ⟨rfl, rfl, rfl⟩ := trodAll_nil r0
  obtain rfl : args = #[v0] := by cases args; simp_all
  obtain ⟨rfl, rfl⟩ := trodVars_none hV
  clear hA0 hval0
  obtain ⟨ad0, n0, cap0, bs0, rfl, hn0, hr0, hl0⟩ := open_code (hval 0 22 v0 rfl rfl) h0 (fun x hx => hlt x (by simp [hx]))
  have fin : ∀ (e : Ending) W', (e = .returned (.bool true) ∧ Below W.heap.size W W') → ∃ v, e = .returned v ∧ Rows.fnLevelsSpec.post enc Try.prog Try.f5 false true false false W #[.slice ad0 n0 cap0] v W' := by
    rintro e W' ⟨rfl, hb⟩
    exact ⟨_, rfl, law_post rfl rfl hW' (by kernel_rfl) rfl hb⟩
  by_cases hs0 : n0 ≤ 1048576
  case neg => exact (big ad0 n0 cap0 W (by omega) hl0).mono fin
  case pos => exact (ok ad0 n0 cap0 bs0 W hn0 hr0 hs0).mono fin

theorem proved : Rows.FnLevelsSaid :=
  OpenClaim.holds_of_wide 5 Try.f5 rfl rfl rfl rfl rfl rfl rfl ⟨rfl, rfl, rfl, rfl, rfl⟩ rfl rfl rfl rfl rfl (by kernel_rfl) Try.func5 (by kernel_rfl)
    (of_decide_eq_true (by kernel_rfl)) (by unfold Func.isWrapper; first | (rw [if_pos (by decide +kernel)]; kernel_rfl) | (rw [if_neg (by decide +kernel)]; exact ⟨rfl, rfl⟩))
    (fun os started H enc _ => lifted os started H enc)

end Go.Proofs.Ytgepjfdnlnemjaa.lLevels
