/-
  FnNearest: no plate has a smaller error than the one with dots where the amount is at least 128: the law returns true for every code. No conditions.
-/
import Derived.Test.YtgepjfdnlnemjaaR14
import Derived.Test.YtgepjfdnlnemjaaM13
import Derived.Test.YtgepjfdnlnemjaaC13
import Derived.Test.YtgepjfdnlnemjaaFrameB
namespace Go.Proofs.Ytgepjfdnlnemjaa.lNearest
open Go.ChangeShapes Go.WideShapes Go.ChangeAt Go.RowKit
set_option linter.unusedVariables false
set_option linter.unusedSimpArgs false
attribute [local go_sem ↓] Go.wp_at_zero Go.wp_at_succ

theorem err_call (W H : Int) (a : Option Addr) (n cp : Nat) (xs : List Int) (a' : Option Addr) (n' cp' : Nat) (ys : List Int) (s : Int) (w : World) (hl : xs.length = n) (ha : Rd w a xs) (hn : n ≤ 9223372036854775807) (hl' : ys.length = n') (ha' : Rd w a' ys) (hn' : n' ≤ 9223372036854775807) (h : errF W H xs W H ys = s) :
    Calls Try.prog 30 #[.agg #[.int .i64 W, .int .i64 H, .slice a n cp], .agg #[.int .i64 W, .int .i64 H, .slice a' n' cp']] w fun e w' => e = .returned (.int .i64 s) ∧ Below w.heap.size w w' :=
  (impl_ErrorOf W H a n cp xs W H a' n' cp' ys w hl ha hn hl' ha' hn').mono fun e w' ⟨he, hb⟩ => ⟨by rw [he, h], hb⟩

set_option maxRecDepth 100000 in
set_option maxHeartbeats 8000000 in
theorem ok (ad0 : Option Addr) (n0 cap0 : Nat) (bs0 : List Int) (w : World) (hn0 : bs0.length = n0) (hr0 : RdU w.heap.size w ad0 bs0) (hs0 : n0 ≤ 1048576) :
    Calls Try.prog 6 #[.slice ad0 n0 cap0] w fun e w' => e = .returned (.bool true) ∧ Below w.heap.size w w' := by
  have HL := Lib.hid hn0
  have HC := Lib.hid hr0
  clear hn0 hr0
  go_enter Try.func6, Try.ntmps6
  go_wp2_with fail
  refine (pic_call8 ad0 n0 cap0 bs0 _ HL.out (by exact HC.out) (by omega)).mono ?_
  rintro e w1 ⟨W, H, a, n, cp, xs, rfl, b1, b2, b3, b4, hq, hn1, hn2, hx, rd, hp, hw, hb⟩
  have HQ := Lib.hid hq
  have HX := Lib.hid hx
  have HP := Lib.hid hp
  have HW := Lib.hid hw
  have HS := Lib.hid (picOk_bd hx hp).1
  have HB1 := Lib.hid hb
  have RD1 := Lib.hid rd
  clear hq hx hp hw hb rd
  go_upto_region 5 with fail
  obtain ⟨wA, gb, gp, hwA, hgb, hgp, KP, KB0, HB1A, hlt⟩ : ∃ (v : World) (gb gp : Nat), v = (w1.alloc (.cells #[.int .i64 W, .int .i64 H, .slice a n cp] 30)).alloc (.cells #[.int .i64 W, .int .i64 H, .slice none 0 0] 30) ∧ gb = w1.heap.size + 1 ∧ gp = w1.heap.size ∧ Hid (Blk v gp 30 #[.int .i64 W, .int .i64 H, .slice a n cp]) ∧ Hid (Blk v gb 30 #[.int .i64 W, .int .i64 H, .slice none 0 0]) ∧ Hid (Below w1.heap.size w1 v) ∧ gp < gb :=
    ⟨_, _, _, rfl, rfl, rfl, Lib.hid ((Blk.new _ _ _).alloc _), Lib.hid (Blk.new' _ _ (by simp)), Lib.hid (Joins.below_alloc2 _ _ _), by omega⟩
  rw [← hwA, ← hgb, ← hgp]
  have HGP := Lib.hid hgp
  clear hwA hgb hgp
  obtain ⟨l0, o0, o1, o2⟩ := KP.out.c3
  go_wp2_with fail
  go_loopw [5, 22] (fun s i wr => ∃ (k : Nat) (ad' : Option Addr) (cap' : Nat), k ≤ n ∧ i = .int .i64 k ∧ s = .int .i64 (bestS xs k) ∧ OwnA wr (gb + 1) ad' k cap' (gen k (bestG xs)) ∧ Blk wr gb 30 #[.int .i64 W, .int .i64 H, .slice ad' k cap'] ∧ Below gb wA wr) (fun _ i _ => n - (intOf i).toNat)
  case atStart => exact ⟨0, none, 0, Nat.zero_le _, rfl, rfl, OwnA.none _ _, KB0.out, Below.refl _ _⟩
  case round =>
    clear o0 o1 o2 l0
    obtain ⟨k, ad', cap', hk, rfl, rfl, ho, hb', hw'⟩ := hrel
    have HO := Lib.hid ho
    have KB := Lib.hid hb'
    have HWr := Lib.hid hw'
    obtain ⟨l0, o0, o1, o2⟩ := KB.out.c3
    obtain ⟨m0, f0, f1⟩ := KB.out.f3
    have HBr := Lib.hid (HB1A.out.trans (hw'.mono (by have := HGP.out; omega)))
    have KPr := Lib.hid (KP.out.below hw' hlt)
    obtain ⟨l2, c0, c1, c2⟩ := KPr.out.c3
    clear ho hb' hw'
    by_cases hlt : k < n
    · obtain ⟨ba, oa, hae, hal, hac⟩ := (RD1.out.below HBr.out).at (by have := HX.out; omega)
      have h1 := hac k (by have := HX.out; omega)
      subst hae
      clear hac
      obtain ⟨v0, v1⟩ := within_at HW.out k (by have := HX.out; omega)
      obtain ⟨s0, s1⟩ := bestS_bd HW.out k (by have := HX.out; omega)
      have HST : Hid (bestS xs (k + 1) = bestS xs k + bestD (xs[k]?.getD 0)) := Lib.hid rfl
      have HBG : Hid (bestG xs k = if 128 ≤ xs[k]?.getD 0 then 1 else 0) := Lib.hid rfl
      obtain ⟨v, hv⟩ : ∃ v : Int, v = xs[k]?.getD 0 := ⟨_, rfl⟩
      have h1' : wr.cell? ⟨ba, oa + k, none⟩ = some (.int .i64 v) := by rw [hv]; exact h1
      rw [← hv] at HST HBG v0 v1
      clear h1 hv
      by_cases hv : 128 ≤ v
      · obtain ⟨q0, q1⟩ := sq_bd (d := 255 - v) (by omega) (by omega)
        have HE : Hid (bestS xs k + (255 - v) * (255 - v) = bestS xs (k + 1)) := Lib.hid (by rw [HST.out]; unfold bestD; rw [if_pos hv])
        have HG1 : Hid (bestG xs k = 1) := Lib.hid (by rw [HBG.out, if_pos hv])
        go_wp2_with (at_builtin; refine wp_append _ rfl (.tmp 29) (.tmp 30) rfl (gb + 1) k cap' ad' _ rfl (HO.out.alloc _) wr.heap.size (1 : Int) rfl (by go_simp) (by omega) (by have := KB.out.lt; simp; omega) ?_; intro ad2 cap2 w5 ho5 hg5; have KB5 := Lib.hid (app_blk HO.out hg5 KB.out (by omega)); obtain ⟨l5, p0, p1, p2⟩ := KB5.out.c3; obtain ⟨g0, g1, g2⟩ := KB5.out.f3)
        have HW5 := Lib.hid (app_below HO.out hg5 HWr.out (by omega) (by have := KB.out.lt; omega))
        have HO5 : Hid (OwnA w5 (gb + 1) ad2 (k + 1) cap2 (gen (k + 1) (bestG xs))) := Lib.hid (by rw [← gen_snoc, HG1.out]; exact ho5)
        clear ho5 hg5
        go_roundw
        case rel => exact ⟨k + 1, ad2, cap2, by omega, by go_num, by rw [← HE.out], HO5.out.other (by simp) _, by first | exact KB5.out.set 2 _ | (have h := KB5.out.set 2 (.slice ad2 (k + 1) cap2); simpa using h), HW5.out.setCell (by simp) _⟩
        case measure => simp [intOf]; omega
      · obtain ⟨q0, q1⟩ := sq_bd (d := v) (by omega) (by omega)
        have HE : Hid (bestS xs k + v * v = bestS xs (k + 1)) := Lib.hid (by rw [HST.out]; unfold bestD; rw [if_neg hv])
        have HG1 : Hid (bestG xs k = 0) := Lib.hid (by rw [HBG.out, if_neg hv])
        go_wp2_with (at_builtin; refine wp_append _ rfl (.tmp 41) (.tmp 42) rfl (gb + 1) k cap' ad' _ rfl (HO.out.alloc _) wr.heap.size (0 : Int) rfl (by go_simp) (by omega) (by have := KB.out.lt; simp; omega) ?_; intro ad2 cap2 w5 ho5 hg5; have KB5 := Lib.hid (app_blk HO.out hg5 KB.out (by omega)); obtain ⟨l5, p0, p1, p2⟩ := KB5.out.c3; obtain ⟨g0, g1, g2⟩ := KB5.out.f3)
        have HW5 := Lib.hid (app_below HO.out hg5 HWr.out (by omega) (by have := KB.out.lt; omega))
        have HO5 : Hid (OwnA w5 (gb + 1) ad2 (k + 1) cap2 (gen (k + 1) (bestG xs))) := Lib.hid (by rw [← gen_snoc, HG1.out]; exact ho5)
        clear ho5 hg5
        go_roundw
        case rel => exact ⟨k + 1, ad2, cap2, by omega, by go_num, by rw [← HE.out], HO5.out.other (by simp) _, by first | exact KB5.out.set 2 _ | (have h := KB5.out.set 2 (.slice ad2 (k + 1) cap2); simpa using h), HW5.out.setCell (by simp) _⟩
        case measure => simp [intOf]; omega
    · obtain rfl : n = k := by omega
      obtain ⟨w2, hw2⟩ : ∃ v, v = wr := ⟨_, rfl⟩
      subst hw2
      have KP2 := Lib.hid KPr.out
      have RD2 := Lib.hid (RD1.out.below HBr.out)
      have HB2 := Lib.hid (bTrans HB1.out HBr.out)
      have RB2 := Lib.hid HO.out.rd
      obtain ⟨SS, hSS⟩ : ∃ S, S = bestS xs n := ⟨_, rfl⟩
      rw [← hSS]
      have HSS := Lib.hid hSS
      clear hSS o0 o1 o2 l0 c0 c1 c2 l2 m0 f0 f1
      go_upto_region 15 with fail
      obtain ⟨l2, c0, c1, c2⟩ := KP2.out.c3
      go_cut [8] (fun s4 wx => ∃ ys : List Int, Hid (within ys 1 = true) ∧ Hid (ys.length = n) ∧ CutBox w2 wx 30 W H ys s4)
      case first =>
        have MK : Hid (∀ v, BelowH w2 v → v.cell? ⟨gp, 0, none⟩ = some (.int .i64 W) ∧ v.cell? ⟨gp, 1, none⟩ = some (.int .i64 H) ∧ v.cell? ⟨gp, 2, none⟩ = some (.slice a n cp) ∧ BelowH w2 v) := Lib.hid (fun v hB => ⟨(hB.out.cell l2).trans c0, (hB.out.cell l2).trans c1, (hB.out.cell l2).trans c2, hB⟩)
        go_region_held3 (fun v => v.cell? ⟨gp, 0, none⟩ = some (.int .i64 W) ∧ v.cell? ⟨gp, 1, none⟩ = some (.int .i64 H) ∧ v.cell? ⟨gp, 2, none⟩ = some (.slice a n cp) ∧ BelowH w2 v)
          (first | exact MK.out _ (BelowH.start _) | exact MK.out _ hb2 | exact MK.out _ hb1 | exact MK.out _ (BelowH.alloc hb2 _) | exact MK.out _ (BelowH.alloc (held4 (by assumption)) _) | exact MK.out _ (BelowH.allocD (held4 (by assumption)) _) | exact MK.out _ (BelowH.set (BelowH.set (BelowH.set (held4 (by assumption)) (by exact kg) _) (by exact kg) _) (by exact kg) _))
          (first
            | (go_at_call 20; ((with_reducible refine (laws_fresh ad0 n0 cap0 bs0 w.heap.size _ HL.out (by exact HC.out.below (bTrans HB2.out (BelowH.out (held4 (by assumption))))) (by exact (bTrans HB2.out (BelowH.out (held4 (by assumption)))).size) (by omega)).mono ?_); rintro e v1 ⟨fa, fn, fc, fs, rfl, hfl, hfn, hfr, hq1⟩; have hz1 := BelowH.le_call (held4 (by assumption)) hq1; have hb1 := BelowH.call (held4 (by assumption)) hq1; (first | (have kl := lt_after hq1; have kg := kg_after (n := w2.heap.size) hq1 (by exact Nat.le_refl _); have kb := blk_after hq1) | (have kl := lt_afterD hq1; have kg := kg_afterD (n := w2.heap.size) hq1 (by exact Nat.le_refl _); have kb := blk_afterD hq1) | skip); (first | (have kc3 := Blk.c3 kb; have kf3 := Blk.f3 kb; obtain ⟨kl0, k0, k1, k2⟩ := kc3; obtain ⟨kf0, kf1, kf2⟩ := kf3) | skip)))
            | (go_at_call 22; ((with_reducible refine (spec_MakeLike fa fn fc fs W H a n cp n _ hfl (by first | exact hfr | exact (hfr.below (Joins.below_alloc1 _ _)).mono (by simp)) (by omega) HS.out HQ.out).mono ?_); rintro e v2 ⟨g2, ys, rfl, hg2, ho, hwi, hq2⟩; have hz2 := BelowH.le_call (held4 (by assumption)) hq2; have hb2 := BelowH.call (held4 (by assumption)) hq2; (first | (have kl := lt_after hq2; have kg := kg_after (n := w2.heap.size) hq2 (by exact hb1.le); have kb := blk_after hq2) | (have kl := blk_lt kb hq2; have kb := Blk.below' kb hq2) | skip); (first | (have kc3 := Blk.c3 kb; have kf3 := Blk.f3 kb; obtain ⟨kl0, k0, k1, k2⟩ := kc3; obtain ⟨kf0, kf1, kf2⟩ := kf3) | skip))))
        all_goals (go_wp2_with fail; go_meet; (first | exact ⟨ys, Lib.hid hwi, Lib.hid ho.len, cut_last hb2 (OwnA.mk ho hg2) hz2 (by omega)⟩ | exact ⟨ys, Lib.hid hwi, Lib.hid ho.len, cut_set hb2 kb kg kl (OwnA.mk ho hg2) hz2 (by omega)⟩))
      case rest =>
        obtain ⟨ys, HY, HYL, gc, a2, k2, c2', rfl, kb, kg, ho, hr, hk2, hb⟩ := hcut
        have e2 : n = k2 := by rw [← ho.len]; exact HYL.out.symm
        subst e2
        obtain ⟨w3, hw3⟩ : ∃ v, v = wc := ⟨_, rfl⟩
        subst hw3
        have HB3 := Lib.hid (bTrans HB2.out hb)
        have KP3 := Lib.hid (KP2.out.below' hb)
        have KB3 := Lib.hid (KB.out.below' hb)
        have KQ3 := Lib.hid kb
        have RP3 := Lib.hid (RD2.out.below hb)
        have RB3 := Lib.hid (RB2.out.below hb)
        have RQ3 := Lib.hid ho.rd
        clear c0 c1 c2 l2 kb kg ho hr hb
        obtain ⟨l3, c0, c1, c2⟩ := KP3.out.c3
        obtain ⟨m3, d0, d1, d2⟩ := KB3.out.c3
        obtain ⟨n3, e0, e1, e2⟩ := KQ3.out.c3
        have hE : SS ≤ errS xs ys n := by rw [HSS.out]; exact best_le HW.out HY.out n (by have := HX.out; omega) (by have := HYL.out; omega)
        obtain ⟨E, hEE⟩ : ∃ E, E = errS xs ys n := ⟨_, rfl⟩
        rw [← hEE] at hE
        have HEE := Lib.hid hEE
        clear hEE
        have pb := picOk_le (best_plate (xs := xs) HS.out HQ.out)
        have PB : Hid (errF W H xs W H (gen n (bestG xs)) = SS) := Lib.hid (by rw [HSS.out]; exact best_errF HS.out HQ.out HP.out pb (pair_mk HP.out pb))
        have PY : Hid (errF W H xs W H ys = E) := Lib.hid (by rw [HEE.out]; exact errF_yes HYL.out (pair_mk HP.out (plate_pic HS.out HYL.out HQ.out HY.out)) (picOk_mk HS.out HYL.out HQ.out HY.out))
        clear pb
        go_wp2_with fail
        refine (err_call W H a n cp xs ad' n cap' (gen n (bestG xs)) SS _ HX.out (by exact RP3.out) (by omega) (gen_len _ _) (by exact RB3.out) (by omega) PB.out).mono ?_
        rintro e w4 ⟨rfl, hb⟩
        have HB4 := Lib.hid (bTrans HB3.out hb)
        have KP4 := Lib.hid (KP3.out.below' hb)
        have KQ4 := Lib.hid (KQ3.out.below' hb)
        have RP4 := Lib.hid (RP3.out.below hb)
        have RQ4 := Lib.hid (RQ3.out.below hb)
        clear hb c0 c1 c2 d0 d1 d2 e0 e1 e2 l3 m3 n3
        obtain ⟨l3, c0, c1, c2⟩ := KP4.out.c3
        obtain ⟨n3, e0, e1, e2⟩ := KQ4.out.c3
        go_wp2_with fail
        refine (err_call W H a n cp xs a2 n c2' ys E _ HX.out (by exact RP4.out) (by omega) HYL.out (by exact RQ4.out) (by omega) PY.out).mono ?_
        rintro e w5 ⟨rfl, hb⟩
        have HB5 := Lib.hid (bTrans HB4.out hb)
        clear hb
        go_wp2_with fail
        go_ret
        exact ⟨ret_bool (by simp [hE]), HB5.out⟩

set_option maxHeartbeats 400000 in
theorem big (ad0 : Option Addr) (n0 cap0 : Nat) (w : World) (h : 1048576 < n0) (hl : n0 ≤ 9223372036854775807) :
    Calls Try.prog 6 #[.slice ad0 n0 cap0] w fun e w' => e = .returned (.bool true) ∧ Below w.heap.size w w' := by
  have h2 : (1048576 : Int) < (n0 : Int) := by omega
  go_enter Try.func6, Try.ntmps6
  go_wp2_with fail
  go_ret
  exact ⟨rfl, Below.refl _ _⟩

set_option maxRecDepth 100000 in
theorem lifted (os : Os) (started : os.Started) (H : Type) (enc : TypeId × Value → H) :
    ReturnsInHanded {} Try.checked os 6 .any (Rows.fnNearestSpec.pre6 enc Try.prog Try.f6 Rows.fnNearestRow.domain false) (Rows.fnNearestSpec.post enc Try.prog Try.f6 false true false false) := by
  refine returnsInHanded_of_change (C := Try.checked) own started (by kernel_rfl) Try.func6
    (ChangeSpec.witness6 (enc := enc) (C := Try.checked) false ⟨#[], #[.slice none 0 0], []⟩ 8 (by kernel_rfl) (by kernel_rfl) (by kernel_rfl) (by kernel_rfl)) ?_
  intro W base args ds gs before hval0 hW hcnd _
  have hval : ∀ (j : Nat) t v, Try.f6.params[j]? = some t → args[j]? = some v → Value.okWide Try.prog W .any base t v := hval0
  have hW' := hW
  have hlt := hW.lt
  obtain ⟨p, q, hA0, hV, rfl, hfz, hnd⟩ := hW
  have hA : DataW.TrodAll enc Try.prog W 0 (fun _ => true) true Try.f6.params.toList args.toList ds p := hA0
  rw [Try.params6] at hA hval
  obtain ⟨v0, vs0, d0, ds0, p0, q0, hargs, rfl, rfl, h0, r0⟩ := trodAll_cons hA
  obtain ⟨rfl, rfl, rfl⟩ := trodAll_nil r0
  obtain rfl : args = #[v0] := by cases args; simp_all
  obtain ⟨rfl, rfl⟩ := trodVars_none hV
  clear hA0 hval0
  obtain ⟨ad0, n0, cap0, bs0, rfl, hn0, hr0, hl0⟩ := open_code (hval 0 22 v0 rfl rfl) h0 (fun x hx => hlt x (by simp [hx]))
  have fin : ∀ (e : Ending) W', (e = .returned (.bool true) ∧ Below W.heap.size W W') → ∃ v, e = .returned v ∧ Rows.fnNearestSpec.post enc Try.prog Try.f6 false true false false W #[.slice ad0 n0 cap0] v W' := by
    rintro e W' ⟨rfl, hb⟩
    exact ⟨_, rfl, law_post rfl rfl hW' (by kernel_rfl) rfl hb⟩
  by_cases hs0 : n0 ≤ 1048576
  case neg => exact (big ad0 n0 cap0 W (by omega) hl0).mono fin
  case pos => exact (ok ad0 n0 cap0 bs0 W hn0 hr0 hs0).mono fin

theorem proved : Rows.FnNearestSaid :=
  OpenClaim.holds_of_wide 6 Try.f6 rfl rfl rfl rfl rfl rfl rfl ⟨rfl, rfl, rfl, rfl, rfl⟩ rfl rfl rfl rfl rfl (by kernel_rfl) Try.func6 (by kernel_rfl)
    (of_decide_eq_true (by kernel_rfl)) (by unfold Func.isWrapper; first | (rw [if_pos (by decide +kernel)]; kernel_rfl) | (rw [if_neg (by decide +kernel)]; exact ⟨rfl, rfl⟩))
    (fun os started H enc _ => lifted os started H enc)

end Go.Proofs.Ytgepjfdnlnemjaa.lNearest
