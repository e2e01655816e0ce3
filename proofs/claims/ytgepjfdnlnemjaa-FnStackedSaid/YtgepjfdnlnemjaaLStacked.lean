/-
  FnStacked: a picture that covers another one keeps its dots when both are screened, and screening a flat picture screens its level: the law returns true for every code. No conditions.
-/
import Derived.Test.YtgepjfdnlnemjaaM15
import Derived.Test.YtgepjfdnlnemjaaR11
import Derived.Test.YtgepjfdnlnemjaaR8
import Derived.Test.YtgepjfdnlnemjaaR4
import Derived.Test.YtgepjfdnlnemjaaFrameB
namespace Go.Proofs.Ytgepjfdnlnemjaa.lStacked
open Go.ChangeShapes Go.WideShapes Go.ChangeAt Go.RowKit
set_option linter.unusedVariables false
set_option linter.unusedSimpArgs false
set_option maxRecDepth 100000 in
set_option maxHeartbeats 800000 in
theorem laws_fresh5 (ac : Option Addr) (nc capc : Nat) (bs : List Int) (B0 : Nat) (w : World) (hl : bs.length = nc) (hr : RdU B0 w ac bs) (hB0 : B0 ≤ w.heap.size) (hn : nc ≤ 1048576) :
    Calls Try.prog 20 #[.slice ac nc capc, .int .i64 5] w (FreshOut w) := by
  have HL := Lib.hid hl
  have HC := Lib.hid (hr.mono hB0)
  clear hl hr hB0
  go_enter Try.func20, Try.ntmps20
  go_wp2_with fail
  go_loopw [5, 6] (fun r i wr => ∃ (k : Nat) (xs : List Int), k ≤ nc ∧ k ≤ 600 ∧ i = .int .i64 k ∧ OwnsU wr w.heap.size r (k + 1) xs ∧ bytesOk xs ∧ Below w.heap.size w wr) (fun _ i _ => nc - (intOf i).toNat)
  case atStart => exact ⟨0, _, Nat.zero_le _, by omega, rfl, OwnsU.new _ _, fun x hx => by simp at hx; subst hx; omega, Joins.below_alloc1 _ _⟩
  case round =>
    obtain ⟨k, xs, hk, hk6, rfl, ho, hy, hw⟩ := hrel
    obtain ⟨ad', cap', rfl, hlen, hrd⟩ := ho.rd hy
    have HO := Lib.hid ho
    have HY := Lib.hid hy
    have HW := Lib.hid hw
    have HR := Lib.hid hrd
    have HN := Lib.hid hlen
    have HK6 := Lib.hid hk6
    clear ho hy hw hrd hlen hk6
    by_cases hlt : k < nc
    · by_cases hlt6 : (k : Int) < 600
      · obtain ⟨hv, ba, oa, hae, hba, hal, hac⟩ := (HC.out.below HW.out) k (by have := HL.out; omega)
        obtain ⟨v0, v1⟩ := hv
        have hac2 := hac
        rw [show bs.getD k 0 = bs[k]?.getD 0 from rfl] at hac2 v0 v1
        obtain ⟨u, hu⟩ : ∃ u : Int, bs[k]?.getD 0 = u := ⟨_, rfl⟩
        rw [hu] at hac2 v0 v1
        clear hac hu
        subst hae
        go_wp2_with (at_builtin; refine wp_appendU _ rfl (.tmp 20) (.tmp 34) rfl w.heap.size (k + 1) _ xs rfl (HO.out.alloc _) wr.heap.size _ rfl (cell_new1 _ _ _) (by have := HK6.out; omega) (by have := HW.out.size; simp; omega) ?_; intro v2 w5 ho5 hg5)
        have HO5 := Lib.hid ho5
        have HG5 := Lib.hid hg5
        clear ho5 hg5
        go_roundw
        case rel => exact ⟨k + 1, _, by omega, by omega, by go_num, HO5.out, HY.out.snoc (u8_bd _).1 (u8_bd _).2, (HW.out.alloc HW.out.size _).grown HG5.out (by have := HW.out.size; simp; omega) (fun b hb => (HO.out.own b hb).1)⟩
        case measure => simp [intOf]; omega
      · go_wp2_with fail
        go_ret
        exact ⟨_, _, _, _, rfl, HN.out, by have := HK6.out; omega, HR.out, HW.out⟩
    · go_wp2_with fail
      go_ret
      exact ⟨_, _, _, _, rfl, HN.out, by have := HK6.out; omega, HR.out, HW.out⟩

attribute [local go_sem ↓] Go.wp_at_zero Go.wp_at_succ

set_option maxRecDepth 100000 in
set_option maxHeartbeats 16000000 in
theorem ok (ad0 : Option Addr) (n0 cap0 : Nat) (bs0 : List Int) (w : World) (hn0 : bs0.length = n0) (hr0 : RdU w.heap.size w ad0 bs0) (hs0 : n0 ≤ 1048576) :
    Calls Try.prog 4 #[.slice ad0 n0 cap0] w fun e w' => e = .returned (.bool true) ∧ Below w.heap.size w w' := by
  have HL := Lib.hid hn0
  have HC := Lib.hid hr0
  clear hn0 hr0
  go_enter Try.func4, Try.ntmps4
  go_wp2_with fail
  refine (spec_MakeMatrix ad0 n0 cap0 bs0 _ HL.out (by exact HC.out) (by omega)).mono ?_
  rintro e w1 ⟨W, H, a, n, cp, xs, rfl, mk, mw, mh, ho, hb⟩
  obtain ⟨m1, m2, m3, m4⟩ := matOk_bd ho.len mk
  obtain ⟨b1, b2, b3, b4, b5, b6⟩ := matSize_bd m1
  have hn1 : 1 ≤ n := by omega
  have hn2 : n ≤ 256 := by omega
  have MK := Lib.hid mk
  have HX := Lib.hid ho.len
  have HB1 := Lib.hid hb
  have RD2 := Lib.hid (ho.rd.alloc (.cells #[.int .i64 W, .int .i64 H, .slice a n cp] 25))
  have KM2 := Lib.hid (Blk.new w1 25 #[.int .i64 W, .int .i64 H, .slice a n cp])
  have HB2 := Lib.hid (bAlloc HB1.out (.cells #[.int .i64 W, .int .i64 H, .slice a n cp] 25))
  clear mk ho hb m1 m2 m3 m4 b5 b6
  go_wp2_with fail
  refine (laws_fresh ad0 n0 cap0 bs0 w.heap.size _ HL.out (by exact HC.out.below HB2.out) (by exact HB2.out.size) (by omega)).mono ?_
  rintro e w5 ⟨fa, fn, fc, fs, rfl, hfl, hfn, hfr, hb⟩
  have HB5 := Lib.hid (bTrans HB2.out hb)
  have RD5 := Lib.hid (RD2.out.below hb)
  have KM5 := Lib.hid (KM2.out.below' hb)
  clear hb
  go_wp2_with fail
  refine (pic_call fa fn fc fs 9 _ hfl (by exact hfr) (by omega) (by omega) (by omega)).mono ?_
  rintro e w6 ⟨V, U, ap, m, cq, ps, rfl, p1, p2, pq, pm1, pm2, pl, prd, pp, pw, hb⟩
  have PP := Lib.hid pp
  have PW := Lib.hid pw
  have PL := Lib.hid pl
  have PQ := Lib.hid pq
  have PS := Lib.hid (picOk_bd pl pp).1
  go_upto_region 5 with fail
  obtain ⟨w7, bp, hw7, hbp, HB7, RD7, KM7, RP7, KP7⟩ : ∃ (v : World) (bp : Nat), v = w6.alloc (.cells #[.int .i64 V, .int .i64 U, .slice ap m cq] 30) ∧ bp = w6.heap.size ∧ Hid (Below w.heap.size w v) ∧ Hid (Rd v a xs) ∧ Hid (Blk v w1.heap.size 25 #[.int .i64 W, .int .i64 H, .slice a n cp]) ∧ Hid (Rd v ap ps) ∧ Hid (Blk v bp 30 #[.int .i64 V, .int .i64 U, .slice ap m cq]) :=
    ⟨_, _, rfl, rfl, Lib.hid (bAlloc (bTrans HB5.out hb) _), Lib.hid ((RD5.out.below hb).alloc _), Lib.hid ((KM5.out.below' hb).alloc _), Lib.hid (prd.alloc _), Lib.hid (Blk.new _ _ _)⟩
  rw [← hw7, ← hbp]
  clear hw7 hbp hb prd pp pw pl pq hfr hfl hfn
  obtain ⟨l2, c0, c1, c2⟩ := KP7.out.c3
  go_cut [5, 6] (fun s5 s6 wx => (∃ ys : List Int, Hid (within ys 1 = true) ∧ Hid (ys.length = m) ∧ CutBox w7 wx 30 V U (gen m (addG ps ys)) s5) ∧ s6 = .bool true)
  case first =>
    have MQ : Hid (∀ v, BelowH w7 v → v.cell? ⟨bp, 0, none⟩ = some (.int .i64 V) ∧ v.cell? ⟨bp, 1, none⟩ = some (.int .i64 U) ∧ v.cell? ⟨bp, 2, none⟩ = some (.slice ap m cq) ∧ BelowH w7 v) := Lib.hid (fun v hB => ⟨(hB.out.cell l2).trans c0, (hB.out.cell l2).trans c1, (hB.out.cell l2).trans c2, hB⟩)
    go_region_held3 (fun v => v.cell? ⟨bp, 0, none⟩ = some (.int .i64 V) ∧ v.cell? ⟨bp, 1, none⟩ = some (.int .i64 U) ∧ v.cell? ⟨bp, 2, none⟩ = some (.slice ap m cq) ∧ BelowH w7 v)
      (first | exact MQ.out _ (BelowH.start _) | exact MQ.out _ hb3 | exact MQ.out _ hb2 | exact MQ.out _ hb1 | exact MQ.out _ (BelowH.alloc hb3 _) | exact MQ.out _ (BelowH.alloc (held4 (by assumption)) _) | exact MQ.out _ (BelowH.allocD (held4 (by assumption)) _) | exact MQ.out _ (BelowH.set (BelowH.set (BelowH.set (held4 (by assumption)) (by exact kg) _) (by exact kg) _) (by exact kg) _))
      (first
        | (go_at_call 20; ((with_reducible refine (laws_fresh5 ad0 n0 cap0 bs0 w.heap.size _ HL.out (by exact HC.out.below (bTrans HB7.out (BelowH.out (held4 (by assumption))))) (by exact (bTrans HB7.out (BelowH.out (held4 (by assumption)))).size) (by omega)).mono ?_); rintro e v1 ⟨fa, fn, fc, fs, rfl, hfl, hfn, hfr, hq1⟩; have hz1 := BelowH.le_call (held4 (by assumption)) hq1; have hb1 := BelowH.call (held4 (by assumption)) hq1; (first | (have kl := lt_after hq1; have kg := kg_after (n := w7.heap.size) hq1 (by first | exact Nat.le_refl _); have kb := blk_after hq1) | (have kl := lt_afterD hq1; have kg := kg_afterD (n := w7.heap.size) hq1 (by first | exact Nat.le_refl _); have kb := blk_afterD hq1) | (have kl := blk_lt kb hq1; have kb := Blk.below' kb hq1) | skip); (first | (have kc3 := Blk.c3 kb; have kf3 := Blk.f3 kb; obtain ⟨kl0, k0, k1, k2⟩ := kc3; obtain ⟨kf0, kf1, kf2⟩ := kf3) | skip)))
        | (go_at_call 22; ((with_reducible refine (spec_MakeLike fa fn fc fs V U ap m cq m _ hfl (by first | exact hfr | exact (hfr.below (Joins.below_alloc1 _ _)).mono (by simp)) (by omega) PS.out PQ.out).mono ?_); rintro e v2 ⟨g2, ys, rfl, hg2, hos, hwi, hq2⟩; have hz2 := BelowH.le_call (held4 (by assumption)) hq2; have hb2 := BelowH.call (held4 (by assumption)) hq2; (first | (have kl := lt_after hq2; have kg := kg_after (n := w7.heap.size) hq2 (by first | exact Nat.le_refl _ | exact hb1.le); have kb := blk_after hq2) | (have kl := lt_afterD hq2; have kg := kg_afterD (n := w7.heap.size) hq2 (by first | exact Nat.le_refl _ | exact hb1.le); have kb := blk_afterD hq2) | (have kl := blk_lt kb hq2; have kb := Blk.below' kb hq2) | skip); (first | (have kc3 := Blk.c3 kb; have kf3 := Blk.f3 kb; obtain ⟨kl0, k0, k1, k2⟩ := kc3; obtain ⟨kf0, kf1, kf2⟩ := kf3) | skip)))
        | (go_at_call 21; ((with_reducible refine (sadd_call V U ap m cq ps (some ⟨g2, 0, none⟩) m ys _ PL.out (by exact RP7.out.below (BelowH.out (held4 (by assumption)))) (by omega) hos.len (by first | exact hos.rd | exact (hos.alloc _).rd) PP.out (plate_pic PS.out hos.len PQ.out hwi)).mono ?_); rintro e v3 ⟨at0, ct0, rfl, ho, hq3⟩; have hz3 := BelowH.le_call (held4 (by assumption)) hq3; have hb3 := BelowH.call (held4 (by assumption)) hq3; (first | (have kl := lt_after hq3; have kg := kg_after (n := w7.heap.size) hq3 (by first | exact Nat.le_refl _ | exact hb2.le | exact hb1.le); have kb := blk_after hq3) | (have kl := lt_afterD hq3; have kg := kg_afterD (n := w7.heap.size) hq3 (by first | exact Nat.le_refl _ | exact hb2.le | exact hb1.le); have kb := blk_afterD hq3) | (have kl := blk_lt kb hq3; have kb := Blk.below' kb hq3) | skip); (first | (have kc3 := Blk.c3 kb; have kf3 := Blk.f3 kb; obtain ⟨kl0, k0, k1, k2⟩ := kc3; obtain ⟨kf0, kf1, kf2⟩ := kf3) | skip))))
    all_goals (go_wp2_with fail; go_meet; (first | exact ⟨⟨ys, Lib.hid hwi, Lib.hid hos.len, cut_last hb3 ho hz3 (by omega)⟩, rfl⟩ | exact ⟨⟨ys, Lib.hid hwi, Lib.hid hos.len, cut_set hb3 kb kg kl ho hz3 (by omega)⟩, rfl⟩))
  case rest =>
    obtain ⟨⟨ys, HY, HYL, gq, aq, k2, cs, rfl, kb, kg, ho, hr, hk2, hb⟩, rfl⟩ := hcut
    have e2 : k2 = m := by have h := ho.len; rw [gen_len] at h; exact h.symm
    subst e2
    obtain ⟨w8, hw8⟩ : ∃ v, v = wc := ⟨_, rfl⟩
    subst hw8
    have HB8 := Lib.hid (bTrans HB7.out hb)
    have RD8 := Lib.hid (RD7.out.below hb)
    have KM8 := Lib.hid (KM7.out.below' hb)
    have RP8 := Lib.hid (RP7.out.below hb)
    have KP8 := Lib.hid (KP7.out.below' hb)
    have RQ8 := Lib.hid ho.rd
    have KQ8 := Lib.hid kb
    have AO := Lib.hid (add_ok PS.out PQ.out PL.out HYL.out PW.out HY.out)
    have COV : Hid (coversF V U (gen k2 (dotG W H xs ((gen k2 (addG ps ys)).map (levelG n)) V)) V U (gen k2 (dotG W H xs (ps.map (levelG n)) V)) = true) := Lib.hid (sum_cover PS.out PQ.out PL.out HYL.out PW.out HY.out)
    have P1 : Hid (picOk V U (gen k2 (dotG W H xs (ps.map (levelG n)) V)) 1 = true) := Lib.hid (dots_plate PS.out PQ.out)
    have P2 : Hid (picOk V U (gen k2 (dotG W H xs ((gen k2 (addG ps ys)).map (levelG n)) V)) 1 = true) := Lib.hid (dots_plate PS.out PQ.out)
    have QL : Hid ((gen k2 (addG ps ys)).length = k2) := Lib.hid (gen_len _ _)
    have QP : Hid (picOk V U (gen k2 (addG ps ys)) 255 = true) := Lib.hid AO.out.1
    obtain ⟨qs, hqs⟩ : ∃ qs, qs = gen k2 (addG ps ys) := ⟨_, rfl⟩
    rw [← hqs] at COV P2 QL QP RQ8
    obtain ⟨d1, hd1⟩ : ∃ d, d = gen k2 (dotG W H xs (ps.map (levelG n)) V) := ⟨_, rfl⟩
    obtain ⟨d2, hd2⟩ : ∃ d, d = gen k2 (dotG W H xs (qs.map (levelG n)) V) := ⟨_, rfl⟩
    rw [← hd1] at COV P1
    rw [← hd2] at COV P2
    have HD1 := Lib.hid hd1
    have HD2 := Lib.hid hd2
    clear hqs hd1 hd2 AO HY HYL kb kg ho hr hb c0 c1 c2 l2
    obtain ⟨m, hm⟩ : ∃ m, m = k2 := ⟨_, rfl⟩
    subst hm
    obtain ⟨l2, c0, c1, c2⟩ := KM8.out.c3
    obtain ⟨l3, d0, d3, d4⟩ := KP8.out.c3
    obtain ⟨l4, e0, e1, e2⟩ := KQ8.out.c3
    go_wp2_with fail
    refine (scr_call W H a n cp xs V U ap m cq ps _ HX.out (by exact RD8.out) (by omega) PL.out (by exact RP8.out) (by omega) MK.out PP.out).mono ?_
    rw [← HD1.out]
    rintro e w9 ⟨a9, c9, rfl, ho, hb⟩
    have LD1 := Lib.hid ho.len
    have HB9 := Lib.hid (bAlloc (bTrans HB8.out hb) (.cells #[.int .i64 V, .int .i64 U, .slice a9 m c9] 30))
    have RD9 := Lib.hid ((RD8.out.below hb).alloc (.cells #[.int .i64 V, .int .i64 U, .slice a9 m c9] 30))
    have KM9 := Lib.hid ((KM8.out.below' hb).alloc (.cells #[.int .i64 V, .int .i64 U, .slice a9 m c9] 30))
    have RP9 := Lib.hid ((RP8.out.below hb).alloc (.cells #[.int .i64 V, .int .i64 U, .slice a9 m c9] 30))
    have KP9 := Lib.hid ((KP8.out.below' hb).alloc (.cells #[.int .i64 V, .int .i64 U, .slice a9 m c9] 30))
    have RQ9 := Lib.hid ((RQ8.out.below hb).alloc (.cells #[.int .i64 V, .int .i64 U, .slice a9 m c9] 30))
    have KQ9 := Lib.hid ((KQ8.out.below' hb).alloc (.cells #[.int .i64 V, .int .i64 U, .slice a9 m c9] 30))
    have RA9 := Lib.hid (ho.rd.alloc (.cells #[.int .i64 V, .int .i64 U, .slice a9 m c9] 30))
    have KA9 := Lib.hid (Blk.new w9 30 #[.int .i64 V, .int .i64 U, .slice a9 m c9])
    clear hb ho c0 c1 c2 l2 d0 d3 d4 l3 e0 e1 e2 l4
    obtain ⟨l2, c0, c1, c2⟩ := KM9.out.c3
    obtain ⟨l4, e0, e1, e2⟩ := KQ9.out.c3
    go_wp2_with fail
    refine (scr_call W H a n cp xs V U aq m cs qs _ HX.out (by exact RD9.out) (by omega) QL.out (by exact RQ9.out) (by omega) MK.out QP.out).mono ?_
    rw [← HD2.out]
    rintro e w10 ⟨a10, c10, rfl, ho, hb⟩
    have LD2 := Lib.hid ho.len
    have HB10 := Lib.hid (bAlloc (bTrans HB9.out hb) (.cells #[.int .i64 V, .int .i64 U, .slice a10 m c10] 30))
    have RD10 := Lib.hid ((RD9.out.below hb).alloc (.cells #[.int .i64 V, .int .i64 U, .slice a10 m c10] 30))
    have KM10 := Lib.hid ((KM9.out.below' hb).alloc (.cells #[.int .i64 V, .int .i64 U, .slice a10 m c10] 30))
    have KP10 := Lib.hid ((KP9.out.below' hb).alloc (.cells #[.int .i64 V, .int .i64 U, .slice a10 m c10] 30))
    have RA10 := Lib.hid ((RA9.out.below hb).alloc (.cells #[.int .i64 V, .int .i64 U, .slice a10 m c10] 30))
    have KA10 := Lib.hid ((KA9.out.below' hb).alloc (.cells #[.int .i64 V, .int .i64 U, .slice a10 m c10] 30))
    have RB10 := Lib.hid (ho.rd.alloc (.cells #[.int .i64 V, .int .i64 U, .slice a10 m c10] 30))
    have KB10 := Lib.hid (Blk.new w10 30 #[.int .i64 V, .int .i64 U, .slice a10 m c10])
    clear hb ho c0 c1 c2 l2 e0 e1 e2 l4
    obtain ⟨l2, c0, c1, c2⟩ := KA10.out.c3
    obtain ⟨l4, e0, e1, e2⟩ := KB10.out.c3
    go_wp2_with fail
    refine (plate_call V U a9 m c9 d1 _ LD1.out (by exact RA10.out) (by omega) P1.out).mono ?_
    rintro e w11 ⟨rfl, hb⟩
    have HB11 := Lib.hid (bTrans HB10.out hb)
    have RD11 := Lib.hid (RD10.out.below hb)
    have KM11 := Lib.hid (KM10.out.below' hb)
    have KP11 := Lib.hid (KP10.out.below' hb)
    have RA11 := Lib.hid (RA10.out.below hb)
    have KA11 := Lib.hid (KA10.out.below' hb)
    have RB11 := Lib.hid (RB10.out.below hb)
    have KB11 := Lib.hid (KB10.out.below' hb)
    clear hb c0 c1 c2 l2 e0 e1 e2 l4
    obtain ⟨l2, c0, c1, c2⟩ := KA11.out.c3
    obtain ⟨l4, e0, e1, e2⟩ := KB11.out.c3
    go_wp2_with fail
    refine (plate_call V U a10 m c10 d2 _ LD2.out (by exact RB11.out) (by omega) P2.out).mono ?_
    rintro e w12 ⟨rfl, hb⟩
    have HB12 := Lib.hid (bTrans HB11.out hb)
    have RD12 := Lib.hid (RD11.out.below hb)
    have KM12 := Lib.hid (KM11.out.below' hb)
    have KP12 := Lib.hid (KP11.out.below' hb)
    have RA12 := Lib.hid (RA11.out.below hb)
    have KA12 := Lib.hid (KA11.out.below' hb)
    have RB12 := Lib.hid (RB11.out.below hb)
    have KB12 := Lib.hid (KB11.out.below' hb)
    clear hb c0 c1 c2 l2 e0 e1 e2 l4
    obtain ⟨l2, c0, c1, c2⟩ := KA12.out.c3
    obtain ⟨l4, e0, e1, e2⟩ := KB12.out.c3
    go_wp2_with fail
    refine (cover_call V U a10 m c10 d2 a9 m c9 d1 _ LD2.out (by exact RB12.out) (by omega) LD1.out (by exact RA12.out) (by omega) COV.out).mono ?_
    rintro e w13 ⟨rfl, hb⟩
    have HB13 := Lib.hid (bTrans HB12.out hb)
    have RD13 := Lib.hid (RD12.out.below hb)
    have KM13 := Lib.hid (KM12.out.below' hb)
    have KP13 := Lib.hid (KP12.out.below' hb)
    clear hb c0 c1 c2 l2 e0 e1 e2 l4 HD1 HD2 COV P1 P2
    go_wp2_with fail
    refine (laws_at w.heap.size ad0 n0 cap0 bs0 1 _ HL.out (by exact HC.out.below HB13.out) hs0 (by omega)).mono ?_
    rintro e w14 ⟨v, rfl, hv, rfl⟩
    obtain ⟨l2, c0, c1, c2⟩ := KP13.out.c3
    go_wp2_with fail
    refine (flat_call V U v m _ PS.out PQ.out (by omega) (by omega)).mono ?_
    rintro e w14 ⟨a14, c14, rfl, ho, hb⟩
    have LF := Lib.hid ho.len
    have PF : Hid (picOk V U (List.replicate m (v : Int)) 255 = true) := Lib.hid (picOk_mk PS.out (by simp) PQ.out (by unfold within; rw [List.all_eq_true]; intro x hx; rw [List.mem_replicate] at hx; obtain ⟨_, rfl⟩ := hx; simp; omega))
    obtain ⟨fv, hfv⟩ : ∃ fv, fv = List.replicate m (v : Int) := ⟨_, rfl⟩
    rw [← hfv] at LF PF ho
    obtain ⟨L, hL⟩ : ∃ L, levelG n (v : Int) = L := ⟨_, rfl⟩
    have hLb := levelG_bd (n := n) (v := (v : Int)) (by omega) (by omega) hn2
    rw [hL] at hLb
    obtain ⟨L0, L1⟩ := hLb
    have HSM : Hid (gen m (dotG W H xs (fv.map (levelG n)) V) = gen m (dotG W H xs (List.replicate m L) V)) := Lib.hid (by rw [hfv, List.map_replicate, hL])
    have HLv := Lib.hid hL
    clear hfv hL c0 c1 c2 l2
    obtain ⟨w15, bf, hw15, hbf, HB15, RD15, KM15, KP15, RF15, KF15⟩ : ∃ (x : World) (bf : Nat), x = w14.alloc (.cells #[.int .i64 V, .int .i64 U, .slice a14 m c14] 30) ∧ bf = w14.heap.size ∧ Hid (Below w.heap.size w x) ∧ Hid (Rd x a xs) ∧ Hid (Blk x w1.heap.size 25 #[.int .i64 W, .int .i64 H, .slice a n cp]) ∧ Hid (Blk x bp 30 #[.int .i64 V, .int .i64 U, .slice ap m cq]) ∧ Hid (Rd x a14 fv) ∧ Hid (Blk x bf 30 #[.int .i64 V, .int .i64 U, .slice a14 m c14]) :=
      ⟨_, _, rfl, rfl, Lib.hid (bAlloc (bTrans HB13.out hb) _), Lib.hid ((RD13.out.below hb).alloc _), Lib.hid ((KM13.out.below' hb).alloc _), Lib.hid ((KP13.out.below' hb).alloc _), Lib.hid (ho.rd.alloc _), Lib.hid (Blk.new _ _ _)⟩
    go_upto_region 12 with fail
    rw [← hw15, ← hbf]
    clear hw15 hbf hb ho
    obtain ⟨l2, c0, c1, c2⟩ := KM15.out.c3
    obtain ⟨l3, d0, d3, d4⟩ := KP15.out.c3
    go_cut [12, 13] (fun s12 s13 wx => CutBox w15 wx 30 V U (gen m (dotG W H xs (List.replicate m L) V)) s12 ∧ s13 = .bool true)
    case first =>
      have MQ : Hid (∀ v, BelowH w15 v → v.cell? ⟨w1.heap.size, 0, none⟩ = some (.int .i64 W) ∧ v.cell? ⟨w1.heap.size, 1, none⟩ = some (.int .i64 H) ∧ v.cell? ⟨w1.heap.size, 2, none⟩ = some (.slice a n cp) ∧ v.cell? ⟨bp, 0, none⟩ = some (.int .i64 V) ∧ v.cell? ⟨bp, 1, none⟩ = some (.int .i64 U) ∧ BelowH w15 v) := Lib.hid (fun v hB => ⟨(hB.out.cell l2).trans c0, (hB.out.cell l2).trans c1, (hB.out.cell l2).trans c2, (hB.out.cell l3).trans d0, (hB.out.cell l3).trans d3, hB⟩)
      go_region_held3 (fun v => v.cell? ⟨w1.heap.size, 0, none⟩ = some (.int .i64 W) ∧ v.cell? ⟨w1.heap.size, 1, none⟩ = some (.int .i64 H) ∧ v.cell? ⟨w1.heap.size, 2, none⟩ = some (.slice a n cp) ∧ v.cell? ⟨bp, 0, none⟩ = some (.int .i64 V) ∧ v.cell? ⟨bp, 1, none⟩ = some (.int .i64 U) ∧ BelowH w15 v)
        (first | exact MQ.out _ (BelowH.start _) | exact MQ.out _ hb2 | exact MQ.out _ hb1 | exact MQ.out _ (BelowH.alloc hb2 _) | exact MQ.out _ (BelowH.alloc (held6 (by assumption)) _) | exact MQ.out _ (BelowH.allocD (held6 (by assumption)) _) | exact MQ.out _ (BelowH.set (BelowH.set (BelowH.set (held6 (by assumption)) (by exact kg) _) (by exact kg) _) (by exact kg) _))
        (first
          | (go_at_call 27; ((with_reducible refine (lev_call W H a n cp xs v L _ HX.out (by exact RD15.out.below (BelowH.out (held6 (by assumption)))) MK.out (by omega) (by omega) (by omega) HLv.out).mono ?_); rintro e v1 ⟨rfl, hq1⟩; have hz1 := BelowH.le_call (held6 (by assumption)) hq1; have hb1 := BelowH.call (held6 (by assumption)) hq1; (first | (have kl := lt_after hq1; have kg := kg_after (n := w15.heap.size) hq1 (by first | exact Nat.le_refl _); have kb := blk_after hq1) | (have kl := lt_afterD hq1; have kg := kg_afterD (n := w15.heap.size) hq1 (by first | exact Nat.le_refl _); have kb := blk_afterD hq1) | (have kl := blk_lt kb hq1; have kb := Blk.below' kb hq1) | skip); (first | (have kc3 := Blk.c3 kb; have kf3 := Blk.f3 kb; obtain ⟨kl0, k0, k1, k2⟩ := kc3; obtain ⟨kf0, kf1, kf2⟩ := kf3) | skip)))
          | (go_at_call 14; ((with_reducible refine (scl_call W H a n cp xs L V U m _ HX.out (by exact RD15.out.below (BelowH.out (held6 (by assumption)))) (by omega) MK.out L0 L1 PS.out PQ.out).mono ?_); rintro e v2 ⟨at0, ct0, rfl, ho, hq2⟩; have hz2 := BelowH.le_call (held6 (by assumption)) hq2; have hb2 := BelowH.call (held6 (by assumption)) hq2; (first | (have kl := lt_after hq2; have kg := kg_after (n := w15.heap.size) hq2 (by first | exact Nat.le_refl _ | exact hb1.le); have kb := blk_after hq2) | (have kl := lt_afterD hq2; have kg := kg_afterD (n := w15.heap.size) hq2 (by first | exact Nat.le_refl _ | exact hb1.le); have kb := blk_afterD hq2) | (have kl := blk_lt kb hq2; have kb := Blk.below' kb hq2) | skip); (first | (have kc3 := Blk.c3 kb; have kf3 := Blk.f3 kb; obtain ⟨kl0, k0, k1, k2⟩ := kc3; obtain ⟨kf0, kf1, kf2⟩ := kf3) | skip))))
      all_goals (go_wp2_with fail; go_meet; (first | exact ⟨cut_last hb2 ho hz2 (by omega), rfl⟩ | exact ⟨cut_set hb2 kb kg kl ho hz2 (by omega), rfl⟩))
    case rest =>
      obtain ⟨⟨gl, al, kl, cl, rfl, kb, kg, ho, hr, hk2, hb⟩, rfl⟩ := hcut
      have e2 : kl = m := by have h := ho.len; rw [gen_len] at h; exact h.symm
      subst e2
      obtain ⟨w16, hw16⟩ : ∃ v, v = wc := ⟨_, rfl⟩
      subst hw16
      have HB16 := Lib.hid (bTrans HB15.out hb)
      have RD16 := Lib.hid (RD15.out.below hb)
      have KM16 := Lib.hid (KM15.out.below' hb)
      have RF16 := Lib.hid (RF15.out.below hb)
      have KF16 := Lib.hid (KF15.out.below' hb)
      have RL16 := Lib.hid ho.rd
      have LL16 := Lib.hid ho.len
      have KL16 := Lib.hid kb
      clear kb kg ho hr hb c0 c1 c2 l2 d0 d3 d4 l3
      obtain ⟨m, hm⟩ : ∃ m, m = kl := ⟨_, rfl⟩
      subst hm
      obtain ⟨l2, c0, c1, c2⟩ := KM16.out.c3
      obtain ⟨l3, d0, d3, d4⟩ := KF16.out.c3
      obtain ⟨l4, e0, e1, e2⟩ := KL16.out.c3
      go_upto_region 13 with fail
      have MQ : Hid (∀ v, BelowH w16 v → v.cell? ⟨w1.heap.size, 0, none⟩ = some (.int .i64 W) ∧ v.cell? ⟨w1.heap.size, 1, none⟩ = some (.int .i64 H) ∧ v.cell? ⟨w1.heap.size, 2, none⟩ = some (.slice a n cp) ∧ v.cell? ⟨bf, 0, none⟩ = some (.int .i64 V) ∧ v.cell? ⟨bf, 1, none⟩ = some (.int .i64 U) ∧ v.cell? ⟨bf, 2, none⟩ = some (.slice a14 m c14) ∧ v.cell? ⟨gl, 0, none⟩ = some (.int .i64 V) ∧ v.cell? ⟨gl, 1, none⟩ = some (.int .i64 U) ∧ v.cell? ⟨gl, 2, none⟩ = some (.slice al m cl) ∧ BelowH w16 v) := Lib.hid (fun v hB => ⟨(hB.out.cell l2).trans c0, (hB.out.cell l2).trans c1, (hB.out.cell l2).trans c2, (hB.out.cell l3).trans d0, (hB.out.cell l3).trans d3, (hB.out.cell l3).trans d4, (hB.out.cell l4).trans e0, (hB.out.cell l4).trans e1, (hB.out.cell l4).trans e2, hB⟩)
      go_region_held3 (fun v => v.cell? ⟨w1.heap.size, 0, none⟩ = some (.int .i64 W) ∧ v.cell? ⟨w1.heap.size, 1, none⟩ = some (.int .i64 H) ∧ v.cell? ⟨w1.heap.size, 2, none⟩ = some (.slice a n cp) ∧ v.cell? ⟨bf, 0, none⟩ = some (.int .i64 V) ∧ v.cell? ⟨bf, 1, none⟩ = some (.int .i64 U) ∧ v.cell? ⟨bf, 2, none⟩ = some (.slice a14 m c14) ∧ v.cell? ⟨gl, 0, none⟩ = some (.int .i64 V) ∧ v.cell? ⟨gl, 1, none⟩ = some (.int .i64 U) ∧ v.cell? ⟨gl, 2, none⟩ = some (.slice al m cl) ∧ BelowH w16 v)
        (first | exact MQ.out _ (BelowH.start _) | exact MQ.out _ hb2 | exact MQ.out _ hb1)
        (first
          | (go_at_call 23; ((with_reducible refine (scr_call W H a n cp xs V U a14 m c14 fv _ HX.out (by exact RD16.out.below (BelowH.out (held10 (by assumption)))) (by omega) LF.out (by exact RF16.out.below (BelowH.out (held10 (by assumption)))) (by omega) MK.out PF.out).mono ?_); rintro e v1 ⟨at0, ct0, rfl, ho, hq1⟩; have hz1 := BelowH.le_call (held10 (by assumption)) hq1; have hb1 := BelowH.call (held10 (by assumption)) hq1))
          | (go_at_call 28; ((with_reducible refine (same_call V U at0 m ct0 _ al m cl _ _ ho.len (by exact ho.rd) (by omega) LL16.out (by exact RL16.out.below (BelowH.out (held10 (by assumption)))) (by omega) HSM.out).mono ?_); rintro e v2 ⟨rfl, hq2⟩; have hz2 := BelowH.le_call (held10 (by assumption)) hq2; have hb2 := BelowH.call (held10 (by assumption)) hq2)))
      go_wp2_with fail
      go_ret
      exact ⟨rfl, bTrans HB16.out hb2.out⟩

set_option maxHeartbeats 400000 in
theorem big (ad0 : Option Addr) (n0 cap0 : Nat) (w : World) (h : 1048576 < n0) (hl : n0 ≤ 9223372036854775807) :
    Calls Try.prog 4 #[.slice ad0 n0 cap0] w fun e w' => e = .returned (.bool true) ∧ Below w.heap.size w w' := by
  have h2 : (1048576 : Int) < (n0 : Int) := by omega
  go_enter Try.func4, Try.ntmps4
  go_wp2_with fail
  go_ret
  exact ⟨rfl, Below.refl _ _⟩

set_option maxRecDepth 100000 in
theorem lifted (os : Os) (started : os.Started) (H : Type) (enc : TypeId × Value → H) :
    ReturnsInHanded {} Try.checked os 4 .any (Rows.fnStackedSpec.pre6 enc Try.prog Try.f4 Rows.fnStackedRow.domain false) (Rows.fnStackedSpec.post enc Try.prog Try.f4 false true false false) := by
  refine returnsInHanded_of_change (C := Try.checked) own started (by kernel_rfl) Try.func4
    (ChangeSpec.witness6 (enc := enc) (C := Try.checked) false ⟨#[], #[.slice none 0 0], []⟩ 8 (by kernel_rfl) (by kernel_rfl) (by kernel_rfl) (by kernel_rfl)) ?_
  intro W base args ds gs before hval0 hW hcnd _
  have hval : ∀ (j : Nat) t v, Try.f4.params[j]? = some t → args[j]? = some v → Value.okWide Try.prog W .any base t v := hval0
  have hW' := hW
  have hlt := hW.lt
  obtain ⟨p, q, hA0, hV, rfl, hfz, hnd⟩ := hW
  have hA : DataW.TrodAll enc Try.prog W 0 (fun _ => true) true Try.f4.params.toList args.toList ds p := hA0
  rw [Try.params4] at hA hval
  obtain ⟨v0, vs0, d0, ds0, p0, q0, hargs, rfl, rfl, h0, r0⟩ := trodAll_cons hA
  obtain ⟨rfl, rfl, rfl⟩ := trodAll_nil r0
  obtain rfl : args = #[v0] := by cases args; simp_all
  obtain ⟨rfl, rfl⟩ := trodVars_none hV
  clear hA0 hval0
  obtain ⟨ad0, n0, cap0, bs0, rfl, hn0, hr0, hl0⟩ := open_code (hval 0 22 v0 rfl rfl) h0 (fun x hx => hlt x (by simp [hx]))
  have fin : ∀ (e : Ending) W', (e = .returned (.bool true) ∧ Below W.heap.size W W') → ∃ v, e = .returned v ∧ Rows.fnStackedSpec.post enc Try.prog Try.f4 false true false false W #[.slice ad0 n0 cap0] v W' := by
    rintro e W' ⟨rfl, hb⟩
    exact ⟨_, rfl, law_post rfl rfl hW' (by kernel_rfl) rfl hb⟩
  by_cases hs0 : n0 ≤ 1048576
  case neg => exact (big ad0 n0 cap0 W (by omega) hl0).mono fin
  case pos => exact (ok ad0 n0 cap0 bs0 W hn0 hr0 hs0).mono fin

theorem proved : Rows.FnStackedSaid :=
  OpenClaim.holds_of_wide 4 Try.f4 rfl rfl rfl rfl rfl rfl rfl ⟨rfl, rfl, rfl, rfl, rfl⟩ rfl rfl rfl rfl rfl (by kernel_rfl) Try.func4 (by kernel_rfl)
    (of_decide_eq_true (by kernel_rfl)) (by unfold Func.isWrapper; first | (rw [if_pos (by decide +kernel)]; kernel_rfl) | (rw [if_neg (by decide +kernel)]; exact ⟨rfl, rfl⟩))
    (fun os started H enc _ => lifted os started H enc)

end Go.Proofs.Ytgepjfdnlnemjaa.lStacked
