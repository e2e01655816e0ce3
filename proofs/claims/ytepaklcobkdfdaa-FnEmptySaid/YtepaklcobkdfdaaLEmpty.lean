/-
  FnEmpty: an even picture of 0 or 255 is diffused without an error: the law returns true for every code. No conditions.
-/
import Derived.Test.YtepaklcobkdfdaaR19
import Derived.Test.YtepaklcobkdfdaaFrameB
namespace Go.Proofs.Ytepaklcobkdfdaa.lEmpty
open Go.ChangeShapes Go.WideShapes Go.ChangeAt Go.RowKit
set_option linter.unusedVariables false
set_option linter.unusedSimpArgs false

set_option maxRecDepth 100000 in
set_option maxHeartbeats 16000000 in
theorem ok (ad0 : Option Addr) (n0 cap0 : Nat) (bs0 : List Int) (w : World) (hn0 : bs0.length = n0) (hr0 : RdU w.heap.size w ad0 bs0) (hs0 : n0 ≤ 1048576) :
    Calls Try.prog 8 #[.slice ad0 n0 cap0] w fun e w' => e = .returned (.bool true) ∧ Below w.heap.size w w' := by
  have HL := Lib.hid hn0
  have HC := Lib.hid hr0
  clear hn0 hr0
  go_enter Try.func8, Try.ntmps8
  go_wp2_with fail
  refine (spec_MakeKernel ad0 n0 cap0 bs0 _ HL.out (by exact HC.out) (by omega)).mono ?_
  rintro e w1 ⟨ka, kn, kc, ks, rfl, hl, hk, ho, hb⟩
  have HK := Lib.hid hk
  have HKL := Lib.hid hl
  have k2 := (kernOk_bd hl hk).2.1
  have hcap := rowA_cap ho
  have HB1 := Lib.hid hb
  have RK1 := Lib.hid ho.rd
  clear hl hk ho hb
  go_wp2_with fail
  refine (pic_callB ad0 n0 cap0 bs0 9 _ HL.out (by exact (HC.out.below HB1.out).mono HB1.out.size) (by omega) (by omega) (by omega)).mono ?_
  rintro e w2 ⟨W, H, pa, n, pc, xs, rfl, b1, b2, b3, b4, hs, hq, hn1, hn2, hc1, hc2, hx, hr, hp, hw, hb⟩
  have HS := Lib.hid hs
  have HQ := Lib.hid hq
  have HB2 := Lib.hid (bAlloc (bTrans HB1.out hb) (.cells #[.int .i64 W, .int .i64 H, .slice pa n pc] 34))
  have RK2 := Lib.hid ((RK1.out.below hb).alloc (.cells #[.int .i64 W, .int .i64 H, .slice pa n pc] 34))
  have KP2 := Lib.hid (Blk.new w2 34 #[.int .i64 W, .int .i64 H, .slice pa n pc])
  clear hs hq hx hr hp hw hb
  go_wp2_with fail
  refine (at_callB w.heap.size ad0 n0 cap0 bs0 1 _ HL.out (by exact HC.out.below HB2.out) (by omega) (by omega) (by omega)).mono ?_
  rintro e w3 ⟨v1, rfl, hv1, rfl⟩
  obtain ⟨l0, o0, o1, o2⟩ := KP2.out.c3
  by_cases hv : (v1 : Int) % 2 = 1
  · have z1 : ((v1 : Int) % 2 == 1) = true := by simpa using hv
    clear hv
    go_wp2_with fail
    refine (flat_callB W H 255 n _ HS.out HQ.out (by omega) (by omega)).mono ?_
    rintro e w3 ⟨fa, fc, rfl, ho, hb⟩
    have HF := Lib.hid (ho.rd.alloc (.cells #[.int .i64 W, .int .i64 H, .slice fa n fc] 34))
    have HB3 := Lib.hid (bAlloc (bTrans HB2.out hb) (.cells #[.int .i64 W, .int .i64 H, .slice fa n fc] 34))
    have RK3 := Lib.hid ((RK2.out.below hb).alloc (.cells #[.int .i64 W, .int .i64 H, .slice fa n fc] 34))
    have KP3 := Lib.hid ((KP2.out.below' hb).alloc (.cells #[.int .i64 W, .int .i64 H, .slice fa n fc] 34))
    have KF3 := Lib.hid (Blk.new w3 34 #[.int .i64 W, .int .i64 H, .slice fa n fc])
    have PF : Hid (picOk W H (List.replicate n (255 : Int)) 255 = true) := Lib.hid (picOk_mkB HS.out (by simp) HQ.out (by unfold within; rw [List.all_eq_true]; intro x hx; rw [List.mem_replicate] at hx; obtain ⟨_, rfl⟩ := hx; simp))
    have PD : Hid (picOk W H (List.replicate n (1 : Int)) 255 = true) := Lib.hid (picOk_mkB HS.out (by simp) HQ.out (by unfold within; rw [List.all_eq_true]; intro x hx; rw [List.mem_replicate] at hx; obtain ⟨_, rfl⟩ := hx; simp))
    have ED : Hid (∀ alt, (runG alt ks W H (List.replicate n (255 : Int)) n).dots = List.replicate n (1 : Int) ∧ (runG alt ks W H (List.replicate n (255 : Int)) n).lost = 0) := Lib.hid (fun alt => even_dots (RunOk.of (by simp) HK.out PF.out) (by decide))
    clear hb ho o0 o1 o2 l0 z1
    go_upto_region 12 with fail
    obtain ⟨w8, bf, hw8, hbf⟩ : ∃ (x : World) (bf : Nat), x = w3.alloc (.cells #[.int .i64 W, .int .i64 H, .slice fa n fc] 34) ∧ bf = w3.heap.size := ⟨_, _, rfl, rfl⟩
    rw [← hw8] at HF HB3 RK3 KP3 KF3 ⊢
    rw [← hbf] at KF3 ⊢
    clear hw8 hbf
    obtain ⟨l0, o0, o1, o2⟩ := KF3.out.c3
    go_cut [10, 11, 12] (fun s10 s11 s12 wx => CutBox w8 wx 34 W H (List.replicate n (1 : Int)) s10 ∧ s11 = .int .i64 0 ∧ s12 = .bool true)
    case first =>
      have MQ : Hid (∀ v, BelowH w8 v → v.cell? ⟨bf, 0, none⟩ = some (.int .i64 W) ∧ v.cell? ⟨bf, 1, none⟩ = some (.int .i64 H) ∧ v.cell? ⟨bf, 2, none⟩ = some (.slice fa n fc) ∧ BelowH w8 v) := Lib.hid (fun v hB => ⟨(hB.out.cell l0).trans o0, (hB.out.cell l0).trans o1, (hB.out.cell l0).trans o2, hB⟩)
      go_region_held3 (fun v => v.cell? ⟨bf, 0, none⟩ = some (.int .i64 W) ∧ v.cell? ⟨bf, 1, none⟩ = some (.int .i64 H) ∧ v.cell? ⟨bf, 2, none⟩ = some (.slice fa n fc) ∧ BelowH w8 v)
        (first | exact MQ.out _ (BelowH.start _) | exact MQ.out _ hb2 | exact MQ.out _ hb1 | exact MQ.out _ (BelowH.alloc hb2 _) | exact MQ.out _ (BelowH.alloc (held4 (by assumption)) _) | exact MQ.out _ (BelowH.allocD (held4 (by assumption)) _) | exact MQ.out _ (BelowH.set (BelowH.set (BelowH.set (held4 (by assumption)) (by exact kg) _) (by exact kg) _) (by exact kg) _))
        (first
          | (go_at_call 12; ((with_reducible refine (at_callC w.heap.size ad0 n0 cap0 bs0 2 _ HL.out (by exact HC.out.below (bTrans HB3.out (BelowH.out (held4 (by assumption))))) (by omega) (by omega) (by omega)).mono ?_); rintro e v1 ⟨vv, rfl, hvv, hq1⟩; have hz1 := BelowH.le_call (held4 (by assumption)) hq1; have hb1 := BelowH.call (held4 (by assumption)) hq1; (first | (have kl := lt_after hq1; have kg := kg_after (n := w8.heap.size) hq1 (by first | exact Nat.le_refl _); have kb := blk_after hq1) | (have kl := lt_afterD hq1; have kg := kg_afterD (n := w8.heap.size) hq1 (by first | exact Nat.le_refl _); have kb := blk_afterD hq1) | (have kl := blk_lt kb hq1; have kb := Blk.below' kb hq1) | skip); (first | (have kc3 := Blk.c3 kb; have kf3 := Blk.f3 kb; obtain ⟨kl0, k0, k1, k2⟩ := kc3; obtain ⟨kf0, kf1, kf2⟩ := kf3) | skip)))
          | (go_at_call 18; ((with_reducible refine (diff_call ka kn kc ks W H fa n fc (List.replicate n (255 : Int)) _ (List.replicate n (1 : Int)) 0 _ HKL.out (by exact RK3.out.below (BelowH.out (held4 (by assumption)))) (by omega) hcap (by simp) (by exact HF.out.below (BelowH.out (held4 (by assumption)))) (by omega) HK.out PF.out (ED.out _).1 (ED.out _).2).mono ?_); rintro e v2 ⟨at0, ct0, rfl, ho, hq2⟩; have hz2 := BelowH.le_call (held4 (by assumption)) hq2; have hb2 := BelowH.call (held4 (by assumption)) hq2; (first | (have kl := lt_after hq2; have kg := kg_after (n := w8.heap.size) hq2 (by first | exact Nat.le_refl _ | exact hb1.le); have kb := blk_after hq2) | (have kl := lt_afterD hq2; have kg := kg_afterD (n := w8.heap.size) hq2 (by first | exact Nat.le_refl _ | exact hb1.le); have kb := blk_afterD hq2) | (have kl := blk_lt kb hq2; have kb := Blk.below' kb hq2) | skip); (first | (have kc3 := Blk.c3 kb; have kf3 := Blk.f3 kb; obtain ⟨kl0, k0, k1, k2⟩ := kc3; obtain ⟨kf0, kf1, kf2⟩ := kf3) | skip))))
      all_goals (go_wp2_with fail; go_meet; (first | exact ⟨cut_last hb2 ho hz2 (by omega), rfl, rfl⟩ | exact ⟨cut_set hb2 kb kg kl ho hz2 (by omega), rfl, rfl⟩))
    case rest =>
      obtain ⟨⟨gq, aq, m, cq, rfl, kb, kg, ho, hr, hm, hb⟩, rfl, rfl⟩ := hcut
      have e2 : n = m := by have h := ho.len; simp at h; exact h
      subst e2
      obtain ⟨w9, hw9⟩ : ∃ v, v = wc := ⟨_, rfl⟩
      subst hw9
      have HB9 := Lib.hid (bTrans HB3.out hb)
      have KP9 := Lib.hid (KP3.out.below' hb)
      have KQ9 := Lib.hid kb
      have RQ9 := Lib.hid ho.rd
      have CN := Lib.hid (icount_rep 1 n)
      clear kb kg ho hr hb o0 o1 o2 l0
      obtain ⟨l0, o0, o1, o2⟩ := KP9.out.c3
      obtain ⟨l2, c0, c1, c2⟩ := KQ9.out.c3
      go_wp2_with fail
      have MQ : Hid (∀ v, BelowH w9 v → v.cell? ⟨w2.heap.size, 2, none⟩ = some (.slice pa n pc) ∧ v.cell? ⟨gq, 0, none⟩ = some (.int .i64 W) ∧ v.cell? ⟨gq, 1, none⟩ = some (.int .i64 H) ∧ v.cell? ⟨gq, 2, none⟩ = some (.slice aq n cq) ∧ BelowH w9 v) := Lib.hid (fun v hB => ⟨(hB.out.cell l0).trans o2, (hB.out.cell l2).trans c0, (hB.out.cell l2).trans c1, (hB.out.cell l2).trans c2, hB⟩)
      go_region_held3 (fun v => v.cell? ⟨w2.heap.size, 2, none⟩ = some (.slice pa n pc) ∧ v.cell? ⟨gq, 0, none⟩ = some (.int .i64 W) ∧ v.cell? ⟨gq, 1, none⟩ = some (.int .i64 H) ∧ v.cell? ⟨gq, 2, none⟩ = some (.slice aq n cq) ∧ BelowH w9 v)
        (first | exact MQ.out _ (BelowH.start _) | exact MQ.out _ hb1)
        (first
          | (go_at_call 20; ((with_reducible refine (cnt_callB W H aq n cq (List.replicate n (1 : Int)) 1 n _ (by simp) (by exact RQ9.out.below (BelowH.out (held5 (by assumption)))) PD.out (by omega) CN.out).mono ?_); rintro e v1 ⟨rfl, hq1⟩; have hz1 := BelowH.le_call (held5 (by assumption)) hq1; have hb1 := BelowH.call (held5 (by assumption)) hq1)))
      all_goals (go_wp2_with fail; go_ret; exact ⟨by first | rfl | simp, bTrans HB9.out (BelowH.out hb1)⟩)
  · have z1 : ((v1 : Int) % 2 == 1) = false := by simpa using hv
    clear hv
    go_wp2_with fail
    refine (flat_callB W H 0 n _ HS.out HQ.out (by omega) (by omega)).mono ?_
    rintro e w3 ⟨fa, fc, rfl, ho, hb⟩
    have HF := Lib.hid (ho.rd.alloc (.cells #[.int .i64 W, .int .i64 H, .slice fa n fc] 34))
    have HB3 := Lib.hid (bAlloc (bTrans HB2.out hb) (.cells #[.int .i64 W, .int .i64 H, .slice fa n fc] 34))
    have RK3 := Lib.hid ((RK2.out.below hb).alloc (.cells #[.int .i64 W, .int .i64 H, .slice fa n fc] 34))
    have KP3 := Lib.hid ((KP2.out.below' hb).alloc (.cells #[.int .i64 W, .int .i64 H, .slice fa n fc] 34))
    have KF3 := Lib.hid (Blk.new w3 34 #[.int .i64 W, .int .i64 H, .slice fa n fc])
    have PF : Hid (picOk W H (List.replicate n (0 : Int)) 255 = true) := Lib.hid (picOk_mkB HS.out (by simp) HQ.out (by unfold within; rw [List.all_eq_true]; intro x hx; rw [List.mem_replicate] at hx; obtain ⟨_, rfl⟩ := hx; simp))
    have PD : Hid (picOk W H (List.replicate n (0 : Int)) 255 = true) := Lib.hid (picOk_mkB HS.out (by simp) HQ.out (by unfold within; rw [List.all_eq_true]; intro x hx; rw [List.mem_replicate] at hx; obtain ⟨_, rfl⟩ := hx; simp))
    have ED : Hid (∀ alt, (runG alt ks W H (List.replicate n (0 : Int)) n).dots = List.replicate n (0 : Int) ∧ (runG alt ks W H (List.replicate n (0 : Int)) n).lost = 0) := Lib.hid (fun alt => even_dots (RunOk.of (by simp) HK.out PF.out) (by decide))
    clear hb ho o0 o1 o2 l0 z1
    go_upto_region 12 with fail
    obtain ⟨w8, bf, hw8, hbf⟩ : ∃ (x : World) (bf : Nat), x = w3.alloc (.cells #[.int .i64 W, .int .i64 H, .slice fa n fc] 34) ∧ bf = w3.heap.size := ⟨_, _, rfl, rfl⟩
    rw [← hw8] at HF HB3 RK3 KP3 KF3 ⊢
    rw [← hbf] at KF3 ⊢
    clear hw8 hbf
    obtain ⟨l0, o0, o1, o2⟩ := KF3.out.c3
    go_cut [10, 11, 12] (fun s10 s11 s12 wx => CutBox w8 wx 34 W H (List.replicate n (0 : Int)) s10 ∧ s11 = .int .i64 0 ∧ s12 = .bool true)
    case first =>
      have MQ : Hid (∀ v, BelowH w8 v → v.cell? ⟨bf, 0, none⟩ = some (.int .i64 W) ∧ v.cell? ⟨bf, 1, none⟩ = some (.int .i64 H) ∧ v.cell? ⟨bf, 2, none⟩ = some (.slice fa n fc) ∧ BelowH w8 v) := Lib.hid (fun v hB => ⟨(hB.out.cell l0).trans o0, (hB.out.cell l0).trans o1, (hB.out.cell l0).trans o2, hB⟩)
      go_region_held3 (fun v => v.cell? ⟨bf, 0, none⟩ = some (.int .i64 W) ∧ v.cell? ⟨bf, 1, none⟩ = some (.int .i64 H) ∧ v.cell? ⟨bf, 2, none⟩ = some (.slice fa n fc) ∧ BelowH w8 v)
        (first | exact MQ.out _ (BelowH.start _) | exact MQ.out _ hb2 | exact MQ.out _ hb1 | exact MQ.out _ (BelowH.alloc hb2 _) | exact MQ.out _ (BelowH.alloc (held4 (by assumption)) _) | exact MQ.out _ (BelowH.allocD (held4 (by assumption)) _) | exact MQ.out _ (BelowH.set (BelowH.set (BelowH.set (held4 (by assumption)) (by exact kg) _) (by exact kg) _) (by exact kg) _))
        (first
          | (go_at_call 12; ((with_reducible refine (at_callC w.heap.size ad0 n0 cap0 bs0 2 _ HL.out (by exact HC.out.below (bTrans HB3.out (BelowH.out (held4 (by assumption))))) (by omega) (by omega) (by omega)).mono ?_); rintro e v1 ⟨vv, rfl, hvv, hq1⟩; have hz1 := BelowH.le_call (held4 (by assumption)) hq1; have hb1 := BelowH.call (held4 (by assumption)) hq1; (first | (have kl := lt_after hq1; have kg := kg_after (n := w8.heap.size) hq1 (by first | exact Nat.le_refl _); have kb := blk_after hq1) | (have kl := lt_afterD hq1; have kg := kg_afterD (n := w8.heap.size) hq1 (by first | exact Nat.le_refl _); have kb := blk_afterD hq1) | (have kl := blk_lt kb hq1; have kb := Blk.below' kb hq1) | skip); (first | (have kc3 := Blk.c3 kb; have kf3 := Blk.f3 kb; obtain ⟨kl0, k0, k1, k2⟩ := kc3; obtain ⟨kf0, kf1, kf2⟩ := kf3) | skip)))
          | (go_at_call 18; ((with_reducible refine (diff_call ka kn kc ks W H fa n fc (List.replicate n (0 : Int)) _ (List.replicate n (0 : Int)) 0 _ HKL.out (by exact RK3.out.below (BelowH.out (held4 (by assumption)))) (by omega) hcap (by simp) (by exact HF.out.below (BelowH.out (held4 (by assumption)))) (by omega) HK.out PF.out (ED.out _).1 (ED.out _).2).mono ?_); rintro e v2 ⟨at0, ct0, rfl, ho, hq2⟩; have hz2 := BelowH.le_call (held4 (by assumption)) hq2; have hb2 := BelowH.call (held4 (by assumption)) hq2; (first | (have kl := lt_after hq2; have kg := kg_after (n := w8.heap.size) hq2 (by first | exact Nat.le_refl _ | exact hb1.le); have kb := blk_after hq2) | (have kl := lt_afterD hq2; have kg := kg_afterD (n := w8.heap.size) hq2 (by first | exact Nat.le_refl _ | exact hb1.le); have kb := blk_afterD hq2) | (have kl := blk_lt kb hq2; have kb := Blk.below' kb hq2) | skip); (first | (have kc3 := Blk.c3 kb; have kf3 := Blk.f3 kb; obtain ⟨kl0, k0, k1, k2⟩ := kc3; obtain ⟨kf0, kf1, kf2⟩ := kf3) | skip))))
      all_goals (go_wp2_with fail; go_meet; (first | exact ⟨cut_last hb2 ho hz2 (by omega), rfl, rfl⟩ | exact ⟨cut_set hb2 kb kg kl ho hz2 (by omega), rfl, rfl⟩))
    case rest =>
      obtain ⟨⟨gq, aq, m, cq, rfl, kb, kg, ho, hr, hm, hb⟩, rfl, rfl⟩ := hcut
      have e2 : n = m := by have h := ho.len; simp at h; exact h
      subst e2
      obtain ⟨w9, hw9⟩ : ∃ v, v = wc := ⟨_, rfl⟩
      subst hw9
      have HB9 := Lib.hid (bTrans HB3.out hb)
      have KP9 := Lib.hid (KP3.out.below' hb)
      have KQ9 := Lib.hid kb
      have RQ9 := Lib.hid ho.rd
      have CN := Lib.hid (icount_rep 0 n)
      clear kb kg ho hr hb o0 o1 o2 l0
      obtain ⟨l0, o0, o1, o2⟩ := KP9.out.c3
      obtain ⟨l2, c0, c1, c2⟩ := KQ9.out.c3
      go_wp2_with fail
      have MQ : Hid (∀ v, BelowH w9 v → v.cell? ⟨w2.heap.size, 2, none⟩ = some (.slice pa n pc) ∧ v.cell? ⟨gq, 0, none⟩ = some (.int .i64 W) ∧ v.cell? ⟨gq, 1, none⟩ = some (.int .i64 H) ∧ v.cell? ⟨gq, 2, none⟩ = some (.slice aq n cq) ∧ BelowH w9 v) := Lib.hid (fun v hB => ⟨(hB.out.cell l0).trans o2, (hB.out.cell l2).trans c0, (hB.out.cell l2).trans c1, (hB.out.cell l2).trans c2, hB⟩)
      go_region_held3 (fun v => v.cell? ⟨w2.heap.size, 2, none⟩ = some (.slice pa n pc) ∧ v.cell? ⟨gq, 0, none⟩ = some (.int .i64 W) ∧ v.cell? ⟨gq, 1, none⟩ = some (.int .i64 H) ∧ v.cell? ⟨gq, 2, none⟩ = some (.slice aq n cq) ∧ BelowH w9 v)
        (first | exact MQ.out _ (BelowH.start _) | exact MQ.out _ hb1)
        (first
          | (go_at_call 20; ((with_reducible refine (cnt_callB W H aq n cq (List.replicate n (0 : Int)) 0 n _ (by simp) (by exact RQ9.out.below (BelowH.out (held5 (by assumption)))) PD.out (by omega) CN.out).mono ?_); rintro e v1 ⟨rfl, hq1⟩; have hz1 := BelowH.le_call (held5 (by assumption)) hq1; have hb1 := BelowH.call (held5 (by assumption)) hq1)))
      all_goals (go_wp2_with fail; go_ret; exact ⟨by first | rfl | simp, bTrans HB9.out (BelowH.out hb1)⟩)

set_option maxHeartbeats 400000 in
theorem big (ad0 : Option Addr) (n0 cap0 : Nat) (w : World) (h : 1048576 < n0) (hl : n0 ≤ 9223372036854775807) :
    Calls Try.prog 8 #[.slice ad0 n0 cap0] w fun e w' => e = .returned (.bool true) ∧ Below w.heap.size w w' := by
  have h2 : (1048576 : Int) < (n0 : Int) := by omega
  go_enter Try.func8, Try.ntmps8
  go_wp2_with fail
  go_ret
  exact ⟨rfl, Below.refl _ _⟩

set_option maxRecDepth 100000 in
theorem lifted (os : Os) (started : os.Started) (H : Type) (enc : TypeId × Value → H) :
    ReturnsInHanded {} Try.checked os 8 .any (Rows.fnEmptySpec.pre6 enc Try.prog Try.f8 Rows.fnEmptyRow.domain false) (Rows.fnEmptySpec.post enc Try.prog Try.f8 false true false false) := by
  refine returnsInHanded_of_change (C := Try.checked) own started (by kernel_rfl) Try.func8
    (ChangeSpec.witness6 (enc := enc) (C := Try.checked) false ⟨#[], #[.slice none 0 0], []⟩ 8 (by kernel_rfl) (by kernel_rfl) (by kernel_rfl) (by kernel_rfl)) ?_
  intro W base args ds gs before hval0 hW hcnd _
  have hval : ∀ (j : Nat) t v, Try.f8.params[j]? = some t → args[j]? = some v → Value.okWide Try.prog W .any base t v := hval0
  have hW' := hW
  have hlt := hW.lt
  obtain ⟨p, q, hA0, hV, rfl, hfz, hnd⟩ := hW
  have hA : DataW.TrodAll enc Try.prog W 0 (fun _ => true) true Try.f8.params.toList args.toList ds p := hA0
  rw [Try.params8] at hA hval
  obtain ⟨v0, vs0, d0, ds0, p0, q0, hargs, rfl, rfl, h0, r0⟩ := trodAll_cons hA
  obtain ⟨rfl, rfl, rfl⟩ := trodAll_nil r0
  obtain rfl : args = #[v0] := by cases args; simp_all
  obtain ⟨rfl, rfl⟩ := trodVars_none hV
  clear hA0 hval0
  obtain ⟨ad0, n0, cap0, bs0, rfl, hn0, hr0, hl0⟩ := open_code (hval 0 22 v0 rfl rfl) h0 (fun x hx => hlt x (by simp [hx]))
  have fin : ∀ (e : Ending) W', (e = .returned (.bool true) ∧ Below W.heap.size W W') → ∃ v, e = .returned v ∧ Rows.fnEmptySpec.post enc Try.prog Try.f8 false true false false W #[.slice ad0 n0 cap0] v W' := by
    rintro e W' ⟨rfl, hb⟩
    exact ⟨_, rfl, law_post rfl rfl hW' (by kernel_rfl) rfl hb⟩
  by_cases hs0 : n0 ≤ 1048576
  case neg => exact (big ad0 n0 cap0 W (by omega) hl0).mono fin
  case pos => exact (ok ad0 n0 cap0 bs0 W hn0 hr0 hs0).mono fin

theorem proved : Rows.FnEmptySaid :=
  OpenClaim.holds_of_wide 8 Try.f8 rfl rfl rfl rfl rfl rfl rfl ⟨rfl, rfl, rfl, rfl, rfl⟩ rfl rfl rfl rfl rfl (by kernel_rfl) Try.func8 (by kernel_rfl)
    (of_decide_eq_true (by kernel_rfl)) (by unfold Func.isWrapper; first | (rw [if_pos (by decide +kernel)]; kernel_rfl) | (rw [if_neg (by decide +kernel)]; exact ⟨rfl, rfl⟩))
    (fun os started H enc _ => lifted os started H enc)

end Go.Proofs.Ytepaklcobkdfdaa.lEmpty
