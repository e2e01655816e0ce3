/-
  FnTiles: every tile of a screened level, at whole tiles from any place of the matrix on, has as many dots as the level says: the law returns true for every code. No conditions.
-/
import Derived.Test.YtgepjfdnlnemjaaR16
import Derived.Test.YtgepjfdnlnemjaaFrameB
namespace Go.Proofs.Ytgepjfdnlnemjaa.lTiles
open Go.ChangeShapes Go.WideShapes Go.ChangeAt Go.RowKit
set_option linter.unusedVariables false
set_option linter.unusedSimpArgs false
attribute [local go_sem ↓] Go.wp_at_zero Go.wp_at_succ

set_option maxRecDepth 100000 in
set_option maxHeartbeats 16000000 in
theorem ok (ad0 : Option Addr) (n0 cap0 : Nat) (bs0 : List Int) (w : World) (hn0 : bs0.length = n0) (hr0 : RdU w.heap.size w ad0 bs0) (hs0 : n0 ≤ 1048576) :
    Calls Try.prog 3 #[.slice ad0 n0 cap0] w fun e w' => e = .returned (.bool true) ∧ Below w.heap.size w w' := by
  have HL := Lib.hid hn0
  have HC := Lib.hid hr0
  clear hn0 hr0
  go_enter Try.func3, Try.ntmps3
  go_wp2_with fail
  refine (spec_MakeMatrix ad0 n0 cap0 bs0 _ HL.out (by exact HC.out) (by omega)).mono ?_
  rintro e w1 ⟨W, H, a, n, cp, xs, rfl, mk, mw, mh, ho, hb⟩
  obtain ⟨m1, m2, m3, m4⟩ := matOk_bd ho.len mk
  obtain ⟨b1, b2, b3, b4, b5, b6⟩ := matSize_bd m1
  have hn1 : 1 ≤ n := by omega
  have hn2 : n ≤ 256 := by omega
  have MK := Lib.hid mk
  have HX := Lib.hid ho.len
  have HB1 := Lib.hid hb
  have RD2 := Lib.hid (ho.rd.alloc (.cells #[.int .i64 W, .int .i64 H, .slice a n cp] 25))
  have KM2 := Lib.hid (Blk.new w1 25 #[.int .i64 W, .int .i64 H, .slice a n cp])
  have HB2 := Lib.hid (bAlloc HB1.out (.cells #[.int .i64 W, .int .i64 H, .slice a n cp] 25))
  clear mk ho hb m1 m2 m3 m4 b5 b6
  go_wp2_with fail
  obtain ⟨w2, hw2⟩ : ∃ v, v = w1.alloc (.cells #[.int .i64 W, .int .i64 H, .slice a n cp] 25) := ⟨_, rfl⟩
  rw [← hw2] at RD2 KM2 HB2 ⊢
  clear hw2
  obtain ⟨W, rfl⟩ : ∃ k : Nat, W = (k : Int) := ⟨W.toNat, by omega⟩
  obtain ⟨H, rfl⟩ : ∃ k : Nat, H = (k : Int) := ⟨H.toNat, by omega⟩
  obtain ⟨l2, c0, c1, c2⟩ := KM2.out.c3
  have hn0' : ((n : Int) + 1 == 0) = false := by simp; omega
  have hn1' : ¬ (n : Int) + 1 = 0 := by omega
  have hw1 : IntKind.i64.wrap ((n : Int) + 1) = (n : Int) + 1 := IntWalk.i64_in _ (by omega)
  go_region_held3 (fun v => v.cell? ⟨w1.heap.size, 2, none⟩ = some (.slice a n cp))
    (first | exact c2)
    (first
      | (go_at_call 12; ((with_reducible refine (at_call w.heap.size ad0 n0 cap0 bs0 1 _ HL.out (by exact (HC.out.below HB2.out.drew)) hs0 (by omega) (by omega)).mono ?_); rintro e v4 ⟨vl, rfl, hvl, rfl⟩)))
  clear hw1 hn0' hn1' c0 c1 c2 l2
  obtain ⟨L, hLn, hT⟩ := lev_mod vl n
  go_step
  try rw [hT]
  clear hT
  obtain ⟨w3, hw3, HB3, RD3, KM3⟩ : ∃ v, v = w2.drew ∧ Hid (Below w.heap.size w v) ∧ Hid (Rd v a xs) ∧ Hid (Blk v w1.heap.size 25 #[.int .i64 W, .int .i64 H, .slice a n cp]) := ⟨_, rfl, Lib.hid HB2.out.drew, Lib.hid RD2.out.drew, Lib.hid KM2.out.drew⟩
  rw [← hw3]
  clear hw3
  go_wp2_with fail
  refine (laws_at w.heap.size ad0 n0 cap0 bs0 2 _ HL.out (by exact HC.out.below HB3.out) hs0 (by omega)).mono ?_
  rintro e w9 ⟨va, rfl, hva, rfl⟩
  obtain ⟨A, hA⟩ : ∃ A : Nat, (1 : Int) + (va : Int) % 2 = (A : Int) := ⟨1 + va % 2, by simp⟩
  have hA1 : 1 ≤ A := by omega
  have hA2 : A ≤ 2 := by omega
  go_upto_region 6 with fail
  try rw [hA]
  clear hA
  go_wp2_with fail
  refine (laws_at w.heap.size ad0 n0 cap0 bs0 3 _ HL.out (by exact HC.out.below HB3.out) hs0 (by omega)).mono ?_
  rintro e w9 ⟨vb, rfl, hvb, rfl⟩
  obtain ⟨B, hB⟩ : ∃ B : Nat, (1 : Int) + (vb : Int) % 2 = (B : Int) := ⟨1 + vb % 2, by simp⟩
  have hB1 : 1 ≤ B := by omega
  have hB2 : B ≤ 2 := by omega
  go_upto_region 7 with fail
  try rw [hB]
  clear hB
  obtain ⟨l2, c0, c1, c2⟩ := KM3.out.c3
  go_cut [7] (fun s7 wx => ∃ dx dy : Int, CutBox w3 wx 25 W H (gen n (shiftG W H xs dx dy)) s7)
  case first =>
    have MQ : Hid (∀ v, BelowH w3 v → v.cell? ⟨w1.heap.size, 0, none⟩ = some (.int .i64 W) ∧ v.cell? ⟨w1.heap.size, 1, none⟩ = some (.int .i64 H) ∧ v.cell? ⟨w1.heap.size, 2, none⟩ = some (.slice a n cp) ∧ BelowH w3 v) := Lib.hid (fun v hB => ⟨(hB.out.cell l2).trans c0, (hB.out.cell l2).trans c1, (hB.out.cell l2).trans c2, hB⟩)
    go_region_held3 (fun v => v.cell? ⟨w1.heap.size, 0, none⟩ = some (.int .i64 W) ∧ v.cell? ⟨w1.heap.size, 1, none⟩ = some (.int .i64 H) ∧ v.cell? ⟨w1.heap.size, 2, none⟩ = some (.slice a n cp) ∧ BelowH w3 v)
      (first | exact MQ.out _ (BelowH.start _) | exact MQ.out _ hb3 | exact MQ.out _ hb2 | exact MQ.out _ hb1 | exact MQ.out _ (BelowH.alloc hb3 _) | exact MQ.out _ (BelowH.alloc (held4 (by assumption)) _) | exact MQ.out _ (BelowH.allocD (held4 (by assumption)) _) | exact MQ.out _ (BelowH.set (BelowH.set (BelowH.set (held4 (by assumption)) (by exact kg) _) (by exact kg) _) (by exact kg) _))
      (first
        | (go_at_call 12; ((with_reducible refine (atb_call w.heap.size ad0 n0 cap0 bs0 4 _ HL.out (by exact HC.out.below (bTrans HB3.out (BelowH.out (held4 (by assumption))))) hs0 (by omega) (by omega)).mono ?_); rintro e v1 ⟨vx, rfl, hvx, hq1⟩; have hz1 := BelowH.le_call (held4 (by assumption)) hq1; have hb1 := BelowH.call (held4 (by assumption)) hq1; (first | (have kl := lt_after hq1; have kg := kg_after (n := w3.heap.size) hq1 (by first | exact Nat.le_refl _); have kb := blk_after hq1) | (have kl := lt_afterD hq1; have kg := kg_afterD (n := w3.heap.size) hq1 (by first | exact Nat.le_refl _); have kb := blk_afterD hq1) | (have kl := blk_lt kb hq1; have kb := Blk.below' kb hq1) | skip); (first | (have kc3 := Blk.c3 kb; have kf3 := Blk.f3 kb; obtain ⟨kl0, k0, k1, k2⟩ := kc3; obtain ⟨kf0, kf1, kf2⟩ := kf3) | skip)))
        | (go_at_call 12; ((with_reducible refine (atb_call w.heap.size ad0 n0 cap0 bs0 5 _ HL.out (by exact HC.out.below (bTrans HB3.out (BelowH.out (held4 (by assumption))))) hs0 (by omega) (by omega)).mono ?_); rintro e v2 ⟨vy, rfl, hvy, hq2⟩; have hz2 := BelowH.le_call (held4 (by assumption)) hq2; have hb2 := BelowH.call (held4 (by assumption)) hq2; (first | (have kl := lt_after hq2; have kg := kg_after (n := w3.heap.size) hq2 (by first | exact Nat.le_refl _ | exact hb1.le); have kb := blk_after hq2) | (have kl := lt_afterD hq2; have kg := kg_afterD (n := w3.heap.size) hq2 (by first | exact Nat.le_refl _ | exact hb1.le); have kb := blk_afterD hq2) | (have kl := blk_lt kb hq2; have kb := Blk.below' kb hq2) | skip); (first | (have kc3 := Blk.c3 kb; have kf3 := Blk.f3 kb; obtain ⟨kl0, k0, k1, k2⟩ := kc3; obtain ⟨kf0, kf1, kf2⟩ := kf3) | skip)))
        | (go_at_call 13; ((with_reducible refine (sshift_call W H a n cp xs vx vy _ HX.out (by exact RD3.out.below (BelowH.out (held4 (by assumption)))) MK.out (by omega) (by omega) (by omega) (by omega) (by omega)).mono ?_); rintro e v3 ⟨at0, ct0, rfl, ho, hq3⟩; have hz3 := BelowH.le_call (held4 (by assumption)) hq3; have hb3 := BelowH.call (held4 (by assumption)) hq3; (first | (have kl := lt_after hq3; have kg := kg_after (n := w3.heap.size) hq3 (by first | exact Nat.le_refl _ | exact hb2.le | exact hb1.le); have kb := blk_after hq3) | (have kl := lt_afterD hq3; have kg := kg_afterD (n := w3.heap.size) hq3 (by first | exact Nat.le_refl _ | exact hb2.le | exact hb1.le); have kb := blk_afterD hq3) | (have kl := blk_lt kb hq3; have kb := Blk.below' kb hq3) | skip); (first | (have kc3 := Blk.c3 kb; have kf3 := Blk.f3 kb; obtain ⟨kl0, k0, k1, k2⟩ := kc3; obtain ⟨kf0, kf1, kf2⟩ := kf3) | skip))))
    all_goals (go_wp2_with fail; go_meet; (first | exact ⟨(vx : Int), (vy : Int), cut_last hb3 ho hz3 (by omega)⟩ | exact ⟨(vx : Int), (vy : Int), cut_set hb3 kb kg kl ho hz3 (by omega)⟩))
  case rest =>
    obtain ⟨dx, dy, gs, sa, ks, cs, rfl, kb, kg, ho, hr, hk2, hb⟩ := hcut
    have e2 : ks = n := by have h := ho.len; rw [gen_len] at h; exact h.symm
    subst e2
    obtain ⟨n, hnn⟩ : ∃ n, n = ks := ⟨_, rfl⟩
    subst hnn
    obtain ⟨w4, hw4⟩ : ∃ v, v = wc := ⟨_, rfl⟩
    subst hw4
    have MS : Hid (matOk W H (gen n (shiftG W H xs dx dy)) = true) := Lib.hid (shift_ok HX.out MK.out dx dy)
    have LS : Hid ((gen n (shiftG W H xs dx dy)).length = n) := Lib.hid (gen_len _ _)
    have RS := Lib.hid ho.rd
    obtain ⟨rs, hrs⟩ : ∃ rs, rs = gen n (shiftG W H xs dx dy) := ⟨_, rfl⟩
    rw [← hrs] at MS LS RS
    have HB4 := Lib.hid (bTrans HB3.out hb)
    have KM4 := Lib.hid (KM3.out.below' hb)
    have RD4 := Lib.hid (RD3.out.below hb)
    have KS4 := Lib.hid kb
    clear hrs kb kg ho hr hb c0 c1 c2 l2
    obtain ⟨m1, m2, m3, m4⟩ := matOk_bd LS.out MS.out
    obtain ⟨N, hN⟩ : ∃ N, N = A * W * (B * H) := ⟨_, rfl⟩
    have hV1 : 1 ≤ A * W := Nat.mul_le_mul hA1 (show 1 ≤ W by omega)
    have hV2 : A * W ≤ 32 := Nat.mul_le_mul hA2 (show W ≤ 16 by omega)
    have hU1 : 1 ≤ B * H := Nat.mul_le_mul hB1 (show 1 ≤ H by omega)
    have hU2 : B * H ≤ 32 := Nat.mul_le_mul hB2 (show H ≤ 16 by omega)
    have hN1 : N ≤ 1024 := by rw [hN]; exact Nat.mul_le_mul hV2 hU2
    have hN0 : 1 ≤ N := by rw [hN]; exact Nat.mul_le_mul hV1 hU1
    have eV : (A : Int) * (W : Int) = ((A * W : Nat) : Int) := by simp
    have eU : (B : Int) * (H : Int) = ((B * H : Nat) : Int) := by simp
    have eN : (N : Int) = ((A * W : Nat) : Int) * ((B * H : Nat) : Int) := by rw [hN]; simp
    have hnWH : n = W * H := by have e : ((W : Int) * (H : Int)) = ((W * H : Nat) : Int) := by simp
                                omega
    have PS : Hid (sizeOk ((A * W : Nat) : Int) ((B * H : Nat) : Int) = true) := Lib.hid (by
      unfold sizeOk
      rw [decide_eq_true_iff, ← eN]
      omega)
    have PD : Hid (picOk ((A * W : Nat) : Int) ((B * H : Nat) : Int) (gen N (dotG W H rs (List.replicate N (L : Int)) ((A * W : Nat) : Int))) 1 = true) := Lib.hid (by
      rw [picOk_in (gen_len _ _) PS.out eN]
      unfold within gen
      rw [List.all_eq_true]
      intro v hv
      obtain ⟨i, hi, rfl⟩ := List.mem_map.1 hv
      have : 0 ≤ dotG W H rs (List.replicate N (L : Int)) ((A * W : Nat) : Int) i ∧ dotG W H rs (List.replicate N (L : Int)) ((A * W : Nat) : Int) i ≤ 1 := by unfold dotG; split <;> omega
      simpa using this)
    have TS : Hid (tileSumsF ((A * W : Nat) : Int) ((B * H : Nat) : Int) (gen N (dotG W H rs (List.replicate N (L : Int)) ((A * W : Nat) : Int))) W H = List.replicate (A * B) (L : Int)) := Lib.hid (tiles_all (by omega) (by omega) hA1 hB1 LS.out hnWH m3 m4 hLn hN (picOk_le PD.out))
    have BS : Hid (blurF ((A * W : Nat) : Int) ((B * H : Nat) : Int) (gen N (dotG W H rs (List.replicate N (L : Int)) ((A * W : Nat) : Int))) W H = (⟨((A * W : Nat) : Int), ((B * H : Nat) : Int), List.replicate N (255 * (L : Int) / (n : Int))⟩, true)) := Lib.hid (blur_all (by omega) (by omega) (by omega) (by omega) hA1 hB1 LS.out hnWH m3 m4 hLn hN PD.out)
    obtain ⟨ds, hds⟩ : ∃ ds, ds = gen N (dotG W H rs (List.replicate N (L : Int)) ((A * W : Nat) : Int)) := ⟨_, rfl⟩
    rw [← hds] at TS BS PD
    obtain ⟨V, hV⟩ : ∃ V, V = A * W := ⟨_, rfl⟩
    obtain ⟨U, hU⟩ : ∃ U, U = B * H := ⟨_, rfl⟩
    rw [← hV] at TS BS PD PS hds eV eN
    rw [← hU] at TS BS PD PS eU eN
    have HDS := Lib.hid hds
    have EV := Lib.hid eV
    have EU := Lib.hid eU
    have EN := Lib.hid eN
    have HNN := Lib.hid hN
    have HWH := Lib.hid hnWH
    obtain ⟨i0, i1⟩ : 0 ≤ (A : Int) * (W : Int) ∧ (A : Int) * (W : Int) ≤ 32 := by rw [eV, hV]; omega
    obtain ⟨i2, i3⟩ : 0 ≤ (B : Int) * (H : Int) ∧ (B : Int) * (H : Int) ≤ 32 := by rw [eU, hU]; omega
    clear hds hN eV eU eN hnWH m1 m2 m3 m4 hV hU
    obtain ⟨l2, c0, c1, c2⟩ := KM4.out.c3
    obtain ⟨l3, d0, d1, d2⟩ := KS4.out.c3
    go_wp2_with fail
    rw [EV.out, EU.out]
    refine (scl2_call W H sa n cs rs L _ _ N _ LS.out (by exact RS.out) (by omega) MS.out (by omega) (by omega) PS.out EN.out).mono ?_
    rw [← HDS.out]
    rintro e w5 ⟨a5, c5, rfl, ho, hb⟩
    have LD := Lib.hid ho.len
    have CD := own_cap2 ho
    obtain ⟨w6, bp, hw6, hbp, HB6, KM6, KP6, RP6⟩ : ∃ (x : World) (bp : Nat), x = w5.alloc (.cells #[.int .i64 (V : Int), .int .i64 (U : Int), .slice a5 N c5] 30) ∧ bp = w5.heap.size ∧ Hid (Below w.heap.size w x) ∧ Hid (Blk x w1.heap.size 25 #[.int .i64 W, .int .i64 H, .slice a n cp]) ∧ Hid (Blk x bp 30 #[.int .i64 (V : Int), .int .i64 (U : Int), .slice a5 N c5]) ∧ Hid (Rd x a5 ds) :=
      ⟨_, _, rfl, rfl, Lib.hid (bAlloc (bTrans HB4.out hb) _), Lib.hid ((KM4.out.below' hb).alloc _), Lib.hid (Blk.new _ _ _), Lib.hid (ho.rd.alloc _)⟩
    go_upto_region 9 with fail
    rw [← hw6, ← hbp]
    clear hw6 hbp hb ho c0 c1 c2 l2 d0 d1 d2 l3 i0 i1 i2 i3
    obtain ⟨l2, c0, c1, c2⟩ := KM6.out.c3
    obtain ⟨l3, d0, d1, d2⟩ := KP6.out.c3
    obtain ⟨Q, hQ⟩ : ∃ Q, Q = A * B := ⟨_, rfl⟩
    have eQ : (A : Int) * (B : Int) = (Q : Int) := by rw [hQ]; simp
    have hQ1 : Q ≤ 4 := by rw [hQ]; exact Nat.mul_le_mul hA2 hB2
    rw [← hQ] at TS
    have EQ' := Lib.hid eQ
    have QQ := Lib.hid hQ
    have q0 : 0 ≤ (A : Int) * (B : Int) := by rw [eQ]; omega
    have q1 : (A : Int) * (B : Int) ≤ 4 := by rw [eQ]; omega
    clear hQ
    go_wp2_with fail
    refine (ts_call _ _ W H a5 N c5 ds (List.replicate Q (L : Int)) Q _ LD.out (by exact RP6.out) CD.1 CD.2 (by omega) (by omega) TS.out (by simp)).mono ?_
    rintro e w7 ⟨a7, c7, rfl, ho, hb⟩
    have HB7 := Lib.hid (bTrans HB6.out hb)
    have KM7 := Lib.hid (KM6.out.below' hb)
    have KP7 := Lib.hid (KP6.out.below' hb)
    have RP7 := Lib.hid (RP6.out.below hb)
    have RT7 := Lib.hid ho.rd
    clear hb ho c0 c1 c2 l2 d0 d1 d2 l3
    go_upto_region 12 with fail
    clear eQ
    go_wp2_with fail
    go_loop [73] (fun i => ∃ k : Nat, k ≤ Q ∧ i = .int .i64 k) (fun i => Q - (intOf i).toNat)
    case atStart => exact ⟨0, Nat.zero_le _, rfl⟩
    case round =>
      obtain ⟨k, hk, rfl⟩ := hrel
      by_cases hlt : k < Q
      · obtain ⟨ba, oa, hae, hal, hac⟩ := RT7.out.at (by simp; omega)
        have h1 := hac k (by simpa using hlt)
        have e1 : (List.replicate Q (L : Int)).getD k 0 = (L : Int) := by simp [List.getD, hlt]
        rw [e1] at h1
        subst hae
        clear hac e1
        go_wp2_with fail
        go_round
        case rel => exact ⟨k + 1, by omega, by go_num⟩
        case measure => simp [intOf]; omega
      · obtain ⟨l2, c0, c1, c2⟩ := KM7.out.c3
        obtain ⟨l3, d0, d1, d2⟩ := KP7.out.c3
        obtain ⟨G, hG⟩ : ∃ G, G = 255 * (L : Int) / (n : Int) := ⟨_, rfl⟩
        rw [← hG] at BS
        have HG := Lib.hid hG
        have hG0 : 0 ≤ G := by rw [hG]; exact Int.ediv_nonneg (by omega) (by omega)
        have hG1 : G ≤ 65280 := by rw [hG]; exact Int.le_trans (Int.ediv_le_self _ (by omega)) (by omega)
        clear hG
        go_wp2_with fail
        refine (bl_call _ _ W H a5 N c5 ds (List.replicate N G) _ LD.out (by exact RP7.out) CD.1 CD.2 BS.out (by simp)).mono ?_
        rintro e w8 ⟨a8, c8, rfl, ho, hb⟩
        obtain ⟨w9, bq, hw9, hbq, HB9, KM9, KQ9, RQ9⟩ : ∃ (x : World) (bq : Nat), x = w8.alloc (.cells #[.int .i64 (V : Int), .int .i64 (U : Int), .slice a8 N c8] 30) ∧ bq = w8.heap.size ∧ Hid (Below w.heap.size w x) ∧ Hid (Blk x w1.heap.size 25 #[.int .i64 W, .int .i64 H, .slice a n cp]) ∧ Hid (Blk x bq 30 #[.int .i64 (V : Int), .int .i64 (U : Int), .slice a8 N c8]) ∧ Hid (Rd x a8 (List.replicate N G)) :=
          ⟨_, _, rfl, rfl, Lib.hid (bAlloc (bTrans HB7.out hb) _), Lib.hid ((KM7.out.below' hb).alloc _), Lib.hid (Blk.new _ _ _), Lib.hid (ho.rd.alloc _)⟩
        go_upto_region 19 with fail
        rw [← hw9, ← hbq]
        clear hw9 hbq hb ho c0 c1 c2 l2 d0 d1 d2 l3 q0 q1
        obtain ⟨l2, c0, c1, c2⟩ := KM9.out.c3
        obtain ⟨l3, d0, d1, d2⟩ := KQ9.out.c3
        have wQ : IntKind.i64.wrap ((A : Int) * (B : Int)) = (Q : Int) := by rw [EQ'.out]; exact IntWalk.i64_in _ (by omega)
        have eQN : (Q : Int) * (n : Int) = (N : Int) := by
          rw [← Int.natCast_mul, HNN.out, QQ.out, HWH.out, Nat.mul_mul_mul_comm]
        have wN : IntKind.i64.wrap ((Q : Int) * (n : Int)) = (N : Int) := by rw [eQN]; exact IntWalk.i64_in _ (by omega)
        have wL : IntKind.i64.wrap (255 * (L : Int)) = 255 * (L : Int) := IntWalk.i64_in _ (by omega)
        have tG : (255 * (L : Int)).tdiv (n : Int) = G := by rw [Int.tdiv_eq_ediv_of_nonneg (by omega), HG.out]
        have wG : IntKind.i64.wrap G = G := IntWalk.i64_in _ (by omega)
        have z1 : ((n : Int) == 0) = false := by simp; omega
        have z2 : ¬ (n : Int) = 0 := by omega
        have z3 : ¬ n = 0 := by omega
        have z4 : (n == 0) = false := by simp; omega
        have WQ := Lib.hid wQ
        have WN := Lib.hid wN
        have WL := Lib.hid wL
        have TG := Lib.hid tG
        have WG := Lib.hid wG
        clear eQN wQ wN wL tG wG
        have MQ : Hid (∀ v, BelowH w9 v → v.cell? ⟨bq, 2, none⟩ = some (.slice a8 N c8) ∧ v.cell? ⟨w1.heap.size, 2, none⟩ = some (.slice a n cp) ∧ BelowH w9 v) := Lib.hid (fun v hB => ⟨(hB.out.cell l3).trans d2, (hB.out.cell l2).trans c2, hB⟩)
        have wQ := WQ.out
        have wN := WN.out
        have wL := WL.out
        have tG := TG.out
        have wG := WG.out
        go_region_held3 (fun v => v.cell? ⟨bq, 2, none⟩ = some (.slice a8 N c8) ∧ v.cell? ⟨w1.heap.size, 2, none⟩ = some (.slice a n cp) ∧ BelowH w9 v)
          (first | exact MQ.out _ (BelowH.start _) | exact MQ.out _ hb2 | exact MQ.out _ hb1)
          (first
            | (go_at_call 18; ((with_reducible refine (equals_call N G _ (by omega)).mono ?_); rintro e v1 ⟨ae, ce, rfl, hoe, hq1⟩; have hz1 := BelowH.le_call (held3 (by assumption)) hq1; have hb1 := BelowH.call (held3 (by assumption)) hq1))
            | (go_at_call 17; ((with_reducible refine (laws_ints a8 ae N N c8 ce (List.replicate N G) (List.replicate N G) _ (by simp) (by simp) (by exact RQ9.out.below (BelowH.out (held3 (by assumption)))) (by exact hoe.rd) (by omega) (by omega)).mono ?_); rintro e v2 ⟨rfl, hq2⟩; have hz2 := BelowH.le_call (held3 (by assumption)) hq2; have hb2 := BelowH.call (held3 (by assumption)) hq2)))
        clear wQ wN wL tG wG
        go_wp2_with fail
        go_ret
        exact ⟨ret_bool (by simp), bTrans HB9.out hb2.out⟩

set_option maxHeartbeats 400000 in
theorem big (ad0 : Option Addr) (n0 cap0 : Nat) (w : World) (h : 1048576 < n0) (hl : n0 ≤ 9223372036854775807) :
    Calls Try.prog 3 #[.slice ad0 n0 cap0] w fun e w' => e = .returned (.bool true) ∧ Below w.heap.size w w' := by
  have h2 : (1048576 : Int) < (n0 : Int) := by omega
  go_enter Try.func3, Try.ntmps3
  go_wp2_with fail
  go_ret
  exact ⟨rfl, Below.refl _ _⟩

set_option maxRecDepth 100000 in
theorem lifted (os : Os) (started : os.Started) (H : Type) (enc : TypeId × Value → H) :
    ReturnsInHanded {} Try.checked os 3 .any (Rows.fnTilesSpec.pre6 enc Try.prog Try.f3 Rows.fnTilesRow.domain false) (Rows.fnTilesSpec.post enc Try.prog Try.f3 false true false false) := by
  refine returnsInHanded_of_change (C := Try.checked) own started (by kernel_rfl) Try.func3
    (ChangeSpec.witness6 (enc := enc) (C := Try.checked) false ⟨#[], #[.slice none 0 0], []⟩ 8 (by kernel_rfl) (by kernel_rfl) (by kernel_rfl) (by kernel_rfl)) ?_
  intro W base args ds gs before hval0 hW hcnd _
  have hval : ∀ (j : Nat) t v, Try.f3.params[j]? = some t → args[j]? = some v → Value.okWide Try.prog W .any base t v := hval0
  have hW' := hW
  have hlt := hW.lt
  obtain ⟨p, q, hA0, hV, rfl, hfz, hnd⟩ := hW
  have hA : DataW.TrodAll enc Try.prog W 0 (fun _ => true) true Try.f3.params.toList args.toList ds p := hA0
  rw [Try.params3] at hA hval
  obtain ⟨v0, vs0, d0, ds0, p0, q0, hargs, rfl, rfl, h0, r0⟩ := trodAll_cons hA
  obtain ⟨rfl, rfl, rfl⟩ := trodAll_nil r0
  obtain rfl : args = #[v0] := by cases args; simp_all
  obtain ⟨rfl, rfl⟩ := trodVars_none hV
  clear hA0 hval0
  obtain ⟨ad0, n0, cap0, bs0, rfl, hn0, hr0, hl0⟩ := open_code (hval 0 22 v0 rfl rfl) h0 (fun x hx => hlt x (by simp [hx]))
  have fin : ∀ (e : Ending) W', (e = .returned (.bool true) ∧ Below W.heap.size W W') → ∃ v, e = .returned v ∧ Rows.fnTilesSpec.post enc Try.prog Try.f3 false true false false W #[.slice ad0 n0 cap0] v W' := by
    rintro e W' ⟨rfl, hb⟩
    exact ⟨_, rfl, law_post rfl rfl hW' (by kernel_rfl) rfl hb⟩
  by_cases hs0 : n0 ≤ 1048576
  case neg => exact (big ad0 n0 cap0 W (by omega) hl0).mono fin
  case pos => exact (ok ad0 n0 cap0 bs0 W hn0 hr0 hs0).mono fin

theorem proved : Rows.FnTilesSaid :=
  OpenClaim.holds_of_wide 3 Try.f3 rfl rfl rfl rfl rfl rfl rfl ⟨rfl, rfl, rfl, rfl, rfl⟩ rfl rfl rfl rfl rfl (by kernel_rfl) Try.func3 (by kernel_rfl)
    (of_decide_eq_true (by kernel_rfl)) (by unfold Func.isWrapper; first | (rw [if_pos (by decide +kernel)]; kernel_rfl) | (rw [if_neg (by decide +kernel)]; exact ⟨rfl, rfl⟩))
    (fun os started H enc _ => lifted os started H enc)

end Go.Proofs.Ytgepjfdnlnemjaa.lTiles
