/-
  FnCovered: a sum of two pictures covers both, and two pictures that cover each other are equal: the law returns true for every code. No conditions.
-/
import Derived.Test.YtgepjfdnlnemjaaR14
import Derived.Test.YtgepjfdnlnemjaaFrameB
namespace Go.Proofs.Ytgepjfdnlnemjaa.lCovered
open Go.ChangeShapes Go.WideShapes Go.ChangeAt Go.RowKit
set_option linter.unusedVariables false
set_option linter.unusedSimpArgs false
attribute [local go_sem ↓] Go.wp_at_zero Go.wp_at_succ

set_option maxRecDepth 100000 in
set_option maxHeartbeats 8000000 in
theorem ok (ad0 : Option Addr) (n0 cap0 : Nat) (bs0 : List Int) (w : World) (hn0 : bs0.length = n0) (hr0 : RdU w.heap.size w ad0 bs0) (hs0 : n0 ≤ 1048576) :
    Calls Try.prog 8 #[.slice ad0 n0 cap0] w fun e w' => e = .returned (.bool true) ∧ Below w.heap.size w w' := by
  have HL := Lib.hid hn0
  have HC := Lib.hid hr0
  clear hn0 hr0
  go_enter Try.func8, Try.ntmps8
  go_wp2_with fail
  refine (pic_call8 ad0 n0 cap0 bs0 _ HL.out (by exact HC.out) (by omega)).mono ?_
  rintro e w1 ⟨W, H, a, n, cp, xs, rfl, b1, b2, b3, b4, hq, hn1, hn2, hx, rd, hp, hw, hb⟩
  have HQ := Lib.hid hq
  have HX := Lib.hid hx
  have HP := Lib.hid hp
  have HW := Lib.hid hw
  have HS := Lib.hid (picOk_bd hx hp).1
  clear hq hx hp hw
  go_upto_region 4 with fail
  obtain ⟨w2, hw2, KP2, RD2, HB2⟩ : ∃ v, v = w1.alloc (.cells #[.int .i64 W, .int .i64 H, .slice a n cp] 30) ∧ Hid (Blk v w1.heap.size 30 #[.int .i64 W, .int .i64 H, .slice a n cp]) ∧ Hid (Rd v a xs) ∧ Hid (Below w.heap.size w v) := ⟨_, rfl, Lib.hid (Blk.new _ _ _), Lib.hid (rd.alloc _), Lib.hid (bAlloc hb _)⟩
  rw [← hw2]
  clear hw2 hb rd
  obtain ⟨l2, c0, c1, c2⟩ := KP2.out.c3
  go_cut [4] (fun s4 wx => ∃ ys : List Int, Hid (within ys 1 = true) ∧ Hid (ys.length = n) ∧ CutBox w2 wx 30 W H ys s4)
  case first =>
    have MK : Hid (∀ v, BelowH w2 v → v.cell? ⟨w1.heap.size, 0, none⟩ = some (.int .i64 W) ∧ v.cell? ⟨w1.heap.size, 1, none⟩ = some (.int .i64 H) ∧ v.cell? ⟨w1.heap.size, 2, none⟩ = some (.slice a n cp) ∧ BelowH w2 v) := Lib.hid (fun v hB => ⟨(hB.out.cell l2).trans c0, (hB.out.cell l2).trans c1, (hB.out.cell l2).trans c2, hB⟩)
    go_region_held3 (fun v => v.cell? ⟨w1.heap.size, 0, none⟩ = some (.int .i64 W) ∧ v.cell? ⟨w1.heap.size, 1, none⟩ = some (.int .i64 H) ∧ v.cell? ⟨w1.heap.size, 2, none⟩ = some (.slice a n cp) ∧ BelowH w2 v)
      (first | exact MK.out _ (BelowH.start _) | exact MK.out _ hb2 | exact MK.out _ hb1 | exact MK.out _ (BelowH.alloc hb2 _) | exact MK.out _ (BelowH.alloc (held4 (by assumption)) _) | exact MK.out _ (BelowH.allocD (held4 (by assumption)) _) | exact MK.out _ (BelowH.set (BelowH.set (BelowH.set (held4 (by assumption)) (by exact kg) _) (by exact kg) _) (by exact kg) _))
      (first
        | (go_at_call 20; ((with_reducible refine (laws_fresh ad0 n0 cap0 bs0 w.heap.size _ HL.out (by exact HC.out.below (bTrans HB2.out (BelowH.out (held4 (by assumption))))) (by exact (bTrans HB2.out (BelowH.out (held4 (by assumption)))).size) (by omega)).mono ?_); rintro e v1 ⟨fa, fn, fc, fs, rfl, hfl, hfn, hfr, hq1⟩; have hz1 := BelowH.le_call (held4 (by assumption)) hq1; have hb1 := BelowH.call (held4 (by assumption)) hq1; (first | (have kl := lt_after hq1; have kg := kg_after (n := w2.heap.size) hq1 (by exact Nat.le_refl _); have kb := blk_after hq1) | (have kl := lt_afterD hq1; have kg := kg_afterD (n := w2.heap.size) hq1 (by exact Nat.le_refl _); have kb := blk_afterD hq1) | skip); (first | (have kc3 := Blk.c3 kb; have kf3 := Blk.f3 kb; obtain ⟨kl0, k0, k1, k2⟩ := kc3; obtain ⟨kf0, kf1, kf2⟩ := kf3) | skip)))
        | (go_at_call 22; ((with_reducible refine (spec_MakeLike fa fn fc fs W H a n cp n _ hfl (by first | exact hfr | exact (hfr.below (Joins.below_alloc1 _ _)).mono (by simp)) (by omega) HS.out HQ.out).mono ?_); rintro e v2 ⟨g2, ys, rfl, hg2, ho, hwi, hq2⟩; have hz2 := BelowH.le_call (held4 (by assumption)) hq2; have hb2 := BelowH.call (held4 (by assumption)) hq2; (first | (have kl := lt_after hq2; have kg := kg_after (n := w2.heap.size) hq2 (by exact hb1.le); have kb := blk_after hq2) | (have kl := blk_lt kb hq2; have kb := Blk.below' kb hq2) | skip); (first | (have kc3 := Blk.c3 kb; have kf3 := Blk.f3 kb; obtain ⟨kl0, k0, k1, k2⟩ := kc3; obtain ⟨kf0, kf1, kf2⟩ := kf3) | skip))))
    all_goals (go_wp2_with fail; go_meet; (first | exact ⟨ys, Lib.hid hwi, Lib.hid ho.len, cut_last hb2 (OwnA.mk ho hg2) hz2 (by omega)⟩ | exact ⟨ys, Lib.hid hwi, Lib.hid ho.len, cut_set hb2 kb kg kl (OwnA.mk ho hg2) hz2 (by omega)⟩))
  case rest =>
    obtain ⟨ys, HY, HYL, gb, a2, k2, c2', rfl, kb, kg, ho, hr, hk2, hb⟩ := hcut
    have e2 : n = k2 := by rw [← ho.len]; exact HYL.out.symm
    subst e2
    obtain ⟨w3, hw3⟩ : ∃ v, v = wc := ⟨_, rfl⟩
    subst hw3
    have HB3 := Lib.hid (bTrans HB2.out hb)
    have KP3 := Lib.hid (KP2.out.below' hb)
    have RP3 := Lib.hid (RD2.out.below hb)
    have KQ3 := Lib.hid kb
    have RQ3 := Lib.hid ho.rd
    have KG := Lib.hid kg
    clear c0 c1 c2 l2 kb kg ho hr hb
    obtain ⟨l3, c0, c1, c2⟩ := KP3.out.c3
    obtain ⟨m3, d0, d1, d2⟩ := KQ3.out.c3
    have HA4 := Lib.hid (add_ok HS.out HQ.out HX.out HYL.out HW.out HY.out)
    go_wp2_with fail
    refine (add_call W H a n cp xs a2 c2' ys _ HX.out (by exact RP3.out) (by omega) HYL.out (by exact RQ3.out) HP.out (plate_pic HS.out HYL.out HQ.out HY.out)).mono ?_
    rintro e w4 ⟨a4, c4, rfl, ho4, hb4⟩
    obtain ⟨zs, hzs⟩ : ∃ zs, zs = gen n (addG xs ys) := ⟨_, rfl⟩
    rw [← hzs] at HA4 ho4
    clear hzs
    obtain ⟨w5, hw5, KS5, RS5, LS, KP5, KQ5, RP5, RQ5, HB5⟩ : ∃ v, v = w4.alloc (.cells #[.int .i64 W, .int .i64 H, .slice a4 n c4] 30) ∧ Hid (Blk v w4.heap.size 30 #[.int .i64 W, .int .i64 H, .slice a4 n c4]) ∧ Hid (Rd v a4 zs) ∧ Hid (zs.length = n) ∧ Hid (Blk v w1.heap.size 30 #[.int .i64 W, .int .i64 H, .slice a n cp]) ∧ Hid (Blk v gb 30 #[.int .i64 W, .int .i64 H, .slice a2 n c2']) ∧ Hid (Rd v a xs) ∧ Hid (Rd v a2 ys) ∧ Hid (Below w.heap.size w v) :=
      ⟨_, rfl, Lib.hid (Blk.new _ _ _), Lib.hid (ho4.rd.alloc _), Lib.hid ho4.len, Lib.hid ((KP3.out.below' hb4).alloc _), Lib.hid ((KQ3.out.below' hb4).alloc _), Lib.hid ((RP3.out.below hb4).alloc _), Lib.hid ((RQ3.out.below hb4).alloc _), Lib.hid (bAlloc (bTrans HB3.out hb4) _)⟩
    clear ho4 hb4 c0 c1 c2 l3 m3 d0 d1 d2
    go_upto_region 6 with fail
    rw [← hw5]
    clear hw5
    obtain ⟨l5, c0, c1, c2⟩ := KP5.out.c3
    obtain ⟨m5, d0, d1, d2⟩ := KQ5.out.c3
    obtain ⟨n5, e0, e1, e2⟩ := KS5.out.c3
    go_wp2_with fail
    refine (covb_call W H a4 n c4 zs a n cp xs true _ LS.out (by exact RS5.out) (by omega) HX.out (by exact RP5.out) (by omega) HA4.out.2.1).mono ?_
    rintro e w6 ⟨rfl, hb⟩
    have HB6 := Lib.hid (bTrans HB5.out hb)
    have KP6 := Lib.hid (KP5.out.below' hb)
    have KQ6 := Lib.hid (KQ5.out.below' hb)
    have KS6 := Lib.hid (KS5.out.below' hb)
    have RP6 := Lib.hid (RP5.out.below hb)
    have RQ6 := Lib.hid (RQ5.out.below hb)
    have RS6 := Lib.hid (RS5.out.below hb)
    clear hb c0 c1 c2 d0 d1 d2 e0 e1 e2 l5 m5 n5
    obtain ⟨l5, c0, c1, c2⟩ := KP6.out.c3
    obtain ⟨m5, d0, d1, d2⟩ := KQ6.out.c3
    obtain ⟨n5, e0, e1, e2⟩ := KS6.out.c3
    go_wp2_with fail
    refine (covb_call W H a4 n c4 zs a2 n c2' ys true _ LS.out (by exact RS6.out) (by omega) HYL.out (by exact RQ6.out) (by omega) HA4.out.2.2.1).mono ?_
    rintro e w7 ⟨rfl, hb⟩
    have HB7 := Lib.hid (bTrans HB6.out hb)
    have KP7 := Lib.hid (KP6.out.below' hb)
    have KS7 := Lib.hid (KS6.out.below' hb)
    have RP7 := Lib.hid (RP6.out.below hb)
    have RS7 := Lib.hid (RS6.out.below hb)
    clear hb c0 c1 c2 d0 d1 d2 e0 e1 e2 l5 m5 n5
    obtain ⟨l5, c0, c1, c2⟩ := KP7.out.c3
    obtain ⟨n5, e0, e1, e2⟩ := KS7.out.c3
    obtain ⟨b, hbb⟩ : ∃ b, b = decide (xs = zs) := ⟨_, rfl⟩
    have HBB := Lib.hid hbb
    clear hbb
    have MK : Hid (∀ v, BelowH w7 v → v.cell? ⟨w1.heap.size, 0, none⟩ = some (.int .i64 W) ∧ v.cell? ⟨w1.heap.size, 1, none⟩ = some (.int .i64 H) ∧ v.cell? ⟨w1.heap.size, 2, none⟩ = some (.slice a n cp) ∧ v.cell? ⟨w4.heap.size, 0, none⟩ = some (.int .i64 W) ∧ v.cell? ⟨w4.heap.size, 1, none⟩ = some (.int .i64 H) ∧ v.cell? ⟨w4.heap.size, 2, none⟩ = some (.slice a4 n c4) ∧ BelowH w7 v) := Lib.hid (fun v hB => ⟨(hB.out.cell l5).trans c0, (hB.out.cell l5).trans c1, (hB.out.cell l5).trans c2, (hB.out.cell n5).trans e0, (hB.out.cell n5).trans e1, (hB.out.cell n5).trans e2, hB⟩)
    go_upto_region 8 with fail
    go_region_held3 (fun v => v.cell? ⟨w1.heap.size, 0, none⟩ = some (.int .i64 W) ∧ v.cell? ⟨w1.heap.size, 1, none⟩ = some (.int .i64 H) ∧ v.cell? ⟨w1.heap.size, 2, none⟩ = some (.slice a n cp) ∧ v.cell? ⟨w4.heap.size, 0, none⟩ = some (.int .i64 W) ∧ v.cell? ⟨w4.heap.size, 1, none⟩ = some (.int .i64 H) ∧ v.cell? ⟨w4.heap.size, 2, none⟩ = some (.slice a4 n c4) ∧ BelowH w7 v)
      (first | exact MK.out _ (BelowH.start _) | exact MK.out _ hb9)
      (first
        | (go_at_call 25; ((with_reducible refine (covb_call W H a n cp xs a4 n c4 zs b _ HX.out (by exact RP7.out.below (BelowH.out (held7 (by assumption)))) (by omega) LS.out (by exact RS7.out.below (BelowH.out (held7 (by assumption)))) (by omega) (by rw [HBB.out]; exact HA4.out.2.2.2)).mono ?_); rintro e v9 ⟨rfl, hq9⟩; have hb9 := BelowH.call (held7 (by assumption)) hq9))
        | (go_at_call 28; ((with_reducible refine (sameb_call W H a n cp xs a4 n c4 zs b _ HX.out (by exact RP7.out.below (BelowH.out (held7 (by assumption)))) (by omega) LS.out (by exact RS7.out.below (BelowH.out (held7 (by assumption)))) (by omega) HBB.out.symm).mono ?_); rintro e v9 ⟨rfl, hq9⟩; have hb9 := BelowH.call (held7 (by assumption)) hq9))
        | (go_at_call 37; ((with_reducible refine (sampb_call W H a n cp xs a4 n c4 zs b _ HX.out (by exact RP7.out.below (BelowH.out (held7 (by assumption)))) (by omega) LS.out (by exact RS7.out.below (BelowH.out (held7 (by assumption)))) (by omega) HBB.out.symm).mono ?_); rintro e v9 ⟨rfl, hq9⟩; have hb9 := BelowH.call (held7 (by assumption)) hq9)))
    go_wp2_with fail
    go_ret
    exact ⟨rfl, bTrans HB7.out hb9.out⟩

set_option maxHeartbeats 400000 in
theorem big (ad0 : Option Addr) (n0 cap0 : Nat) (w : World) (h : 1048576 < n0) (hl : n0 ≤ 9223372036854775807) :
    Calls Try.prog 8 #[.slice ad0 n0 cap0] w fun e w' => e = .returned (.bool true) ∧ Below w.heap.size w w' := by
  have h2 : (1048576 : Int) < (n0 : Int) := by omega
  go_enter Try.func8, Try.ntmps8
  go_wp2_with fail
  go_ret
  exact ⟨rfl, Below.refl _ _⟩

set_option maxRecDepth 100000 in
theorem lifted (os : Os) (started : os.Started) (H : Type) (enc : TypeId × Value → H) :
    ReturnsInHanded {} Try.checked os 8 .any (Rows.fnCoveredSpec.pre6 enc Try.prog Try.f8 Rows.fnCoveredRow.domain false) (Rows.fnCoveredSpec.post enc Try.prog Try.f8 false true false false) := by
  refine returnsInHanded_of_change (C := Try.checked) own started (by kernel_rfl) Try.func8
    (ChangeSpec.witness6 (enc := enc) (C := Try.checked) false ⟨#[], #[.slice none 0 0], []⟩ 8 (by kernel_rfl) (by kernel_rfl) (by kernel_rfl) (by kernel_rfl)) ?_
  intro W base args ds gs before hval0 hW hcnd _
  have hval : ∀ (j : Nat) t v, Try.f8.params[j]? = some t → args[j]? = some v → Value.okWide Try.prog W .any base t v := hval0
  have hW' := hW
  have hlt := hW.lt
  obtain ⟨p, q, hA0, hV, rfl, hfz, hnd⟩ := hW
  have hA : DataW.TrodAll enc Try.prog W 0 (fun _ => true) true Try.f8.params.toList args.toList ds p := hA0
  rw [Try.params8] at hA hval
  obtain ⟨v0, vs0, d0, ds0, p0, q0, hargs, rfl, rfl, h0, r0⟩ := trodAll_cons hA
  obtain ⟨rfl, rfl, rfl⟩ := trodAll_nil r0
  obtain rfl : args = #[v0] := by cases args; simp_all
  obtain ⟨rfl, rfl⟩ := trodVars_none hV
  clear hA0 hval0
  obtain ⟨ad0, n0, cap0, bs0, rfl, hn0, hr0, hl0⟩ := open_code (hval 0 22 v0 rfl rfl) h0 (fun x hx => hlt x (by simp [hx]))
  have fin : ∀ (e : Ending) W', (e = .returned (.bool true) ∧ Below W.heap.size W W') → ∃ v, e = .returned v ∧ Rows.fnCoveredSpec.post enc Try.prog Try.f8 false true false false W #[.slice ad0 n0 cap0] v W' := by
    rintro e W' ⟨rfl, hb⟩
    exact ⟨_, rfl, law_post rfl rfl hW' (by kernel_rfl) rfl hb⟩
  by_cases hs0 : n0 ≤ 1048576
  case neg => exact (big ad0 n0 cap0 W (by omega) hl0).mono fin
  case pos => exact (ok ad0 n0 cap0 bs0 W hn0 hr0 hs0).mono fin

theorem proved : Rows.FnCoveredSaid :=
  OpenClaim.holds_of_wide 8 Try.f8 rfl rfl rfl rfl rfl rfl rfl ⟨rfl, rfl, rfl, rfl, rfl⟩ rfl rfl rfl rfl rfl (by kernel_rfl) Try.func8 (by kernel_rfl)
    (of_decide_eq_true (by kernel_rfl)) (by unfold Func.isWrapper; first | (rw [if_pos (by decide +kernel)]; kernel_rfl) | (rw [if_neg (by decide +kernel)]; exact ⟨rfl, rfl⟩))
    (fun os started H enc _ => lifted os started H enc)

end Go.Proofs.Ytgepjfdnlnemjaa.lCovered
