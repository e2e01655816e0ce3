/-
  FnConserved: what a picture holds is kept in the dots and in what is lost: the law returns true for every code. No conditions.
-/
import Derived.Test.YtepaklcobkdfdaaR20
import Derived.Test.YtepaklcobkdfdaaFrameB
namespace Go.Proofs.Ytepaklcobkdfdaa.lConserved
open Go.ChangeShapes Go.WideShapes Go.ChangeAt Go.RowKit
set_option linter.unusedVariables false
set_option linter.unusedSimpArgs false

set_option maxRecDepth 100000 in
set_option maxHeartbeats 16000000 in
theorem ok (ad0 : Option Addr) (n0 cap0 : Nat) (bs0 : List Int) (w : World) (hn0 : bs0.length = n0) (hr0 : RdU w.heap.size w ad0 bs0) (hs0 : n0 ≤ 1048576) :
    Calls Try.prog 4 #[.slice ad0 n0 cap0] w fun e w' => e = .returned (.bool true) ∧ Below w.heap.size w w' := by
  have HL := Lib.hid hn0
  have HC := Lib.hid hr0
  clear hn0 hr0
  go_enter Try.func4, Try.ntmps4
  go_wp2_with fail
  refine (spec_MakeKernel ad0 n0 cap0 bs0 _ HL.out (by exact HC.out) (by omega)).mono ?_
  rintro e w1 ⟨ka, kn, kc, ks, rfl, hl, hk, ho, hb⟩
  have HK := Lib.hid hk
  have HKL := Lib.hid hl
  have k2 := (kernOk_bd hl hk).2.1
  have hcap := rowA_cap ho
  have HB1 := Lib.hid hb
  have RK1 := Lib.hid ho.rd
  clear hl hk ho hb
  go_wp2_with fail
  refine (laws_fresh ad0 n0 cap0 bs0 w.heap.size _ HL.out (by exact HC.out.below HB1.out) (by exact HB1.out.size) (by omega)).mono ?_
  rintro e w1b ⟨fa, fn, fc, fs, rfl, hfl, hfn, hfr, hb⟩
  have HB1b := Lib.hid (bTrans HB1.out hb)
  have RK1b := Lib.hid (RK1.out.below hb)
  clear hb
  go_wp2_with fail
  refine (pic_callB fa fn fc fs 9 _ hfl (by exact hfr) (by omega) (by omega) (by omega)).mono ?_
  rintro e w2 ⟨W, H, pa, n, pc, xs, rfl, b1, b2, b3, b4, hs, hq, hn1, hn2, hc1, hc2, hx, hr, hp, hw, hb⟩
  have HS := Lib.hid hs
  have HQ := Lib.hid hq
  have HX := Lib.hid hx
  have HP := Lib.hid hp
  have HW := Lib.hid hw
  have HB2 := Lib.hid (bAlloc (bTrans HB1b.out hb) (.cells #[.int .i64 W, .int .i64 H, .slice pa n pc] 34))
  have RK2 := Lib.hid ((RK1b.out.below hb).alloc (.cells #[.int .i64 W, .int .i64 H, .slice pa n pc] 34))
  have RP2 := Lib.hid (hr.alloc (.cells #[.int .i64 W, .int .i64 H, .slice pa n pc] 34))
  have KP2 := Lib.hid (Blk.new w2 34 #[.int .i64 W, .int .i64 H, .slice pa n pc])
  clear hs hq hx hr hp hw hb hfl hfr hfn
  go_wp2_with fail
  refine (at_callB w.heap.size ad0 n0 cap0 bs0 1 _ HL.out (by exact HC.out.below HB2.out) (by omega) (by omega) (by omega)).mono ?_
  rintro e w3 ⟨v1, rfl, hv1, rfl⟩
  obtain ⟨l0, o0, o1, o2⟩ := KP2.out.c3
  obtain ⟨alt, halt⟩ : ∃ alt, ((v1 : Int) % 2 == 1) = alt := ⟨_, rfl⟩
  go_wp2_with fail
  (try rw [halt])
  clear halt hv1
  have RO := Lib.hid (RunOk.of (alt := alt) HX.out HK.out HP.out)
  obtain ⟨ds, hds⟩ : ∃ ds, (runG alt ks W H xs n).dots = ds := ⟨_, rfl⟩
  obtain ⟨L, hLo⟩ : ∃ L, (runG alt ks W H xs n).lost = L := ⟨_, rfl⟩
  obtain ⟨es, hes⟩ : ∃ es, (runG alt ks W H xs n).errs = es := ⟨_, rfl⟩
  have HE := Lib.hid hes
  have r1 := run_kept RO.out
  have r2 := (run_inv RO.out n (Nat.le_refl _)).2.2.2.2.2
  have r3 := run_first RO.out hn1
  have r4 := (run_len (alt := alt) (ks := ks) (W := W) (H := H) (ink := xs) n).1
  have r5 := (run_len (alt := alt) (ks := ks) (W := W) (H := H) (ink := xs) n).2.2
  rw [hds, hLo] at r1
  rw [hds] at r2 r4
  rw [hes, hds] at r3
  rw [hes] at r5
  rw [isum_bits r2] at r1
  have DL : Hid (ds.length = n) := Lib.hid (by rw [r4]; exact HX.out)
  have EL : Hid (es.length = n) := Lib.hid (by rw [r5]; exact HX.out)
  have DP : Hid (picOk W H ds 1 = true) := Lib.hid (picOk_mkB HS.out DL.out HQ.out r2)
  have DP2 : Hid (picOk W H ds 255 = true) := Lib.hid (picOk_mkB HS.out DL.out HQ.out (within_le r2))
  obtain ⟨C, hC⟩ : ∃ C : Nat, icount 1 ds = C := ⟨_, rfl⟩
  have hC2 : C ≤ n := by rw [← hC]; have := DL.out; rw [← this]; unfold icount; exact List.length_filter_le _ _
  rw [hC] at r1
  obtain ⟨S, hS⟩ : ∃ S : Int, isum xs = S := ⟨_, rfl⟩
  have hSb : 0 ≤ S ∧ S ≤ 20655 := by
    have h := isum_take_bd HW.out n
    rw [List.take_of_length_le (by have := HX.out; omega), hS] at h
    omega
  rw [hS] at r1
  have HS2 := Lib.hid hS
  have HC2 : Hid ((icount 1 ds : Int) = (C : Int)) := Lib.hid (by rw [hC])
  have R1 : 255 * (C : Int) + L = S := by omega
  have HR3 := Lib.hid r3
  have DW := Lib.hid r2
  refine (diff_call ka kn kc ks W H pa n pc xs alt ds L _ HKL.out (by exact RK2.out) (by omega) hcap HX.out (by exact RP2.out) (by omega) HK.out HP.out hds hLo).mono ?_
  rintro e w4 ⟨qa, qc, rfl, ho, hb⟩
  have HB4 := Lib.hid (bAlloc (bTrans HB2.out hb) (.cells #[.int .i64 W, .int .i64 H, .slice qa n qc] 34))
  have RK4 := Lib.hid ((RK2.out.below hb).alloc (.cells #[.int .i64 W, .int .i64 H, .slice qa n qc] 34))
  have RP4 := Lib.hid ((RP2.out.below hb).alloc (.cells #[.int .i64 W, .int .i64 H, .slice qa n qc] 34))
  have KP4 := Lib.hid ((KP2.out.below' hb).alloc (.cells #[.int .i64 W, .int .i64 H, .slice qa n qc] 34))
  have RQ4 := Lib.hid (ho.rd.alloc (.cells #[.int .i64 W, .int .i64 H, .slice qa n qc] 34))
  have KQ4 := Lib.hid (Blk.new w4 34 #[.int .i64 W, .int .i64 H, .slice qa n qc])
  clear hb ho o0 o1 o2 l0 hds hLo hes r1 r2 r3 r4 r5 hC hS
  go_upto_region 7 with fail
  obtain ⟨w8, bq, hw8, hbq⟩ : ∃ (x : World) (bf : Nat), x = w4.alloc (.cells #[.int .i64 W, .int .i64 H, .slice qa n qc] 34) ∧ bf = w4.heap.size := ⟨_, _, rfl, rfl⟩
  rw [← hw8] at HB4 RK4 RP4 KP4 RQ4 KQ4 ⊢
  rw [← hbq] at KQ4 ⊢
  clear hw8 hbq
  obtain ⟨l0, o0, o1, o2⟩ := KP4.out.c3
  obtain ⟨l2, c0, c1, c2⟩ := KQ4.out.c3
  go_cut [56] (fun s56 wx => s56 = .bool false ∧ BelowH w8 wx)
  case first =>
    have MQ : Hid (∀ v, BelowH w8 v → v.cell? ⟨w2.heap.size, 2, none⟩ = some (.slice pa n pc) ∧ v.cell? ⟨bq, 0, none⟩ = some (.int .i64 W) ∧ v.cell? ⟨bq, 1, none⟩ = some (.int .i64 H) ∧ v.cell? ⟨bq, 2, none⟩ = some (.slice qa n qc) ∧ BelowH w8 v) := Lib.hid (fun v hB => ⟨(hB.out.cell l0).trans o2, (hB.out.cell l2).trans c0, (hB.out.cell l2).trans c1, (hB.out.cell l2).trans c2, hB⟩)
    go_region_held3 (fun v => v.cell? ⟨w2.heap.size, 2, none⟩ = some (.slice pa n pc) ∧ v.cell? ⟨bq, 0, none⟩ = some (.int .i64 W) ∧ v.cell? ⟨bq, 1, none⟩ = some (.int .i64 H) ∧ v.cell? ⟨bq, 2, none⟩ = some (.slice qa n qc) ∧ BelowH w8 v)
      (first | exact MQ.out _ (BelowH.start _) | exact MQ.out _ hb3 | exact MQ.out _ hb2 | exact MQ.out _ hb1)
      (first
        | (go_at_call 19; ((with_reducible refine (plate_callB W H qa n qc ds _ DL.out (by exact RQ4.out.below (BelowH.out (held5 (by assumption)))) (by omega) DP.out).mono ?_); rintro e v1 ⟨rfl, hq1⟩; have hz1 := BelowH.le_call (held5 (by assumption)) hq1; have hb1 := BelowH.call (held5 (by assumption)) hq1))
        | (go_at_call 20; ((with_reducible refine (cnt_callB W H qa n qc ds 1 (C : Int) _ DL.out (by exact RQ4.out.below (BelowH.out (held5 (by assumption)))) DP2.out (by omega) HC2.out).mono ?_); rintro e v2 ⟨rfl, hq2⟩; have hz2 := BelowH.le_call (held5 (by assumption)) hq2; have hb2 := BelowH.call (held5 (by assumption)) hq2))
        | (go_at_call 15; ((with_reducible refine (tot_callB pa n pc xs S _ HX.out (by exact RP4.out.below (BelowH.out (held5 (by assumption)))) HW.out (by omega) HS2.out).mono ?_); rintro e v3 ⟨rfl, hq3⟩; have hz3 := BelowH.le_call (held5 (by assumption)) hq3; have hb3 := BelowH.call (held5 (by assumption)) hq3)))
    all_goals (go_wp2_with fail; go_meet; exact ⟨by first | rfl | (simp; done) | (simp; rw [IntWalk.i64_in (255 * (C : Int)) (by omega), IntWalk.i64_in (255 * (C : Int) + L) (by omega)]; exact R1), hb3⟩)
  case rest =>
    obtain ⟨rfl, hb⟩ := hcut
    have HB5 := Lib.hid (bTrans HB4.out hb.out)
    have RK5 := Lib.hid (RK4.out.below hb.out)
    have RP5 := Lib.hid (RP4.out.below hb.out)
    have KP5 := Lib.hid (KP4.out.below' hb.out)
    have RQ5 := Lib.hid (RQ4.out.below hb.out)
    have KQ5 := Lib.hid (KQ4.out.below' hb.out)
    clear hb o0 o1 o2 l0 c0 c1 c2 l2 R1
    obtain ⟨l0, o0, o1, o2⟩ := KP5.out.c3
    go_wp2_with fail
    refine (err_callB ka kn kc ks W H pa n pc xs alt es _ HKL.out (by exact RK5.out) (by omega) hcap HX.out (by exact RP5.out) (by omega) HK.out HP.out HE.out).mono ?_
    rintro e w6 ⟨ea, ec, rfl, ho, hb⟩
    have HB6 := Lib.hid (bTrans HB5.out hb)
    have RP6 := Lib.hid (RP5.out.below hb)
    have KP6 := Lib.hid (KP5.out.below' hb)
    have RQ6 := Lib.hid (RQ5.out.below hb)
    have KQ6 := Lib.hid (KQ5.out.below' hb)
    have RE6 := Lib.hid ho.rd
    clear hb ho o0 o1 o2 l0
    obtain ⟨l0, o0, o1, o2⟩ := KP6.out.c3
    obtain ⟨l2, c0, c1, c2⟩ := KQ6.out.c3
    obtain ⟨b5, o5, rfl, h5, g5⟩ := RE6.out.at (by have := EL.out; omega)
    obtain ⟨b6, o6, rfl, h6, g6⟩ := RP6.out.at (by have := HX.out; omega)
    obtain ⟨b7, o7, rfl, h7, g7⟩ := RQ6.out.at (by have := DL.out; omega)
    have q5 := g5 0 (by have := EL.out; omega)
    have q6 := g6 0 (by have := HX.out; omega)
    have q7 := g7 0 (by have := DL.out; omega)
    have i6 := within_at HW.out 0 (by have := HX.out; omega)
    have i7 := within_at DW.out 0 (by have := DL.out; omega)
    have e3 := HR3.out
    have j6 : xs[0]?.getD 0 = xs.getD 0 0 := rfl
    have j7 : ds[0]?.getD 0 = ds.getD 0 0 := rfl
    rw [j6] at i6
    rw [j7] at i7
    obtain ⟨E0, hE0⟩ : ∃ E, es.getD 0 0 = E := ⟨_, rfl⟩
    obtain ⟨X0, hX0⟩ : ∃ E, xs.getD 0 0 = E := ⟨_, rfl⟩
    obtain ⟨D0, hD0⟩ : ∃ E, ds.getD 0 0 = E := ⟨_, rfl⟩
    rw [hE0] at q5 e3
    rw [hX0] at q6 e3 i6
    rw [hD0] at q7 e3 i7
    simp only [Nat.add_zero] at q5 q6 q7
    clear g5 g6 g7 j6 j7 hE0 hX0 hD0
    have e4 : X0 - 255 * D0 = E0 := e3.symm
    clear e3
    go_wp2_with fail
    go_region
    go_wp2_with fail
    go_ret
    exact ⟨by first | rfl | simp, by first | exact HB6.out | exact HB6.out.drew⟩

set_option maxHeartbeats 400000 in
theorem big (ad0 : Option Addr) (n0 cap0 : Nat) (w : World) (h : 1048576 < n0) (hl : n0 ≤ 9223372036854775807) :
    Calls Try.prog 4 #[.slice ad0 n0 cap0] w fun e w' => e = .returned (.bool true) ∧ Below w.heap.size w w' := by
  have h2 : (1048576 : Int) < (n0 : Int) := by omega
  go_enter Try.func4, Try.ntmps4
  go_wp2_with fail
  go_ret
  exact ⟨rfl, Below.refl _ _⟩

set_option maxRecDepth 100000 in
theorem lifted (os : Os) (started : os.Started) (H : Type) (enc : TypeId × Value → H) :
    ReturnsInHanded {} Try.checked os 4 .any (Rows.fnConservedSpec.pre6 enc Try.prog Try.f4 Rows.fnConservedRow.domain false) (Rows.fnConservedSpec.post enc Try.prog Try.f4 false true false false) := by
  refine returnsInHanded_of_change (C := Try.checked) own started (by kernel_rfl) Try.func4
    (ChangeSpec.witness6 (enc := enc) (C := Try.checked) false ⟨#[], #[.slice none 0 0], []⟩ 8 (by kernel_rfl) (by kernel_rfl) (by kernel_rfl) (by kernel_rfl)) ?_
  intro W base args ds gs before hval0 hW hcnd _
  have hval : ∀ (j : Nat) t v, Try.f4.params[j]? = some t → args[j]? = some v → Value.okWide Try.prog W .any base t v := hval0
  have hW' := hW
  have hlt := hW.lt
  obtain ⟨p, q, hA0, hV, rfl, hfz, hnd⟩ := hW
  have hA : DataW.TrodAll enc Try.prog W 0 (fun _ => true) true Try.f4.params.toList args.toList ds p := hA0
  rw [Try.params4] at hA hval
  obtain ⟨v0, vs0, d0, ds0, p0, q0, hargs, rfl, rfl, h0, r0⟩ := trodAll_cons hA
  obtain ⟨rfl, rfl, rfl⟩ := trodAll_nil r0
  obtain rfl : args = #[v0] := by cases args; simp_all
  obtain ⟨rfl, rfl⟩ := trodVars_none hV
  clear hA0 hval0
  obtain ⟨ad0, n0, cap0, bs0, rfl, hn0, hr0, hl0⟩ := open_code (hval 0 22 v0 rfl rfl) h0 (fun x hx => hlt x (by simp [hx]))
  have fin : ∀ (e : Ending) W', (e = .returned (.bool true) ∧ Below W.heap.size W W') → ∃ v, e = .returned v ∧ Rows.fnConservedSpec.post enc Try.prog Try.f4 false true false false W #[.slice ad0 n0 cap0] v W' := by
    rintro e W' ⟨rfl, hb⟩
    exact ⟨_, rfl, law_post rfl rfl hW' (by kernel_rfl) rfl hb⟩
  by_cases hs0 : n0 ≤ 1048576
  case neg => exact (big ad0 n0 cap0 W (by omega) hl0).mono fin
  case pos => exact (ok ad0 n0 cap0 bs0 W hn0 hr0 hs0).mono fin

theorem proved : Rows.FnConservedSaid :=
  OpenClaim.holds_of_wide 4 Try.f4 rfl rfl rfl rfl rfl rfl rfl ⟨rfl, rfl, rfl, rfl, rfl⟩ rfl rfl rfl rfl rfl (by kernel_rfl) Try.func4 (by kernel_rfl)
    (of_decide_eq_true (by kernel_rfl)) (by unfold Func.isWrapper; first | (rw [if_pos (by decide +kernel)]; kernel_rfl) | (rw [if_neg (by decide +kernel)]; exact ⟨rfl, rfl⟩))
    (fun os started H enc _ => lifted os started H enc)

end Go.Proofs.Ytepaklcobkdfdaa.lConserved
