/-
  FnMirrored: a kernel whose parts lie below, and the picture, can be mirrored, and the plate is mirrored then: the law returns true for every code. No conditions.
-/
import Derived.Test.YtepaklcobkdfdaaR22
import Derived.Test.YtepaklcobkdfdaaU1
import Derived.Test.YtepaklcobkdfdaaFrameB
namespace Go.Proofs.Ytepaklcobkdfdaa.lMirrored
open Go.ChangeShapes Go.WideShapes Go.ChangeAt Go.RowKit
set_option linter.unusedVariables false
set_option linter.unusedSimpArgs false

set_option maxRecDepth 100000 in
set_option maxHeartbeats 16000000 in
theorem ok (ad0 : Option Addr) (n0 cap0 : Nat) (bs0 : List Int) (w : World) (hn0 : bs0.length = n0) (hr0 : RdU w.heap.size w ad0 bs0) (hs0 : n0 ≤ 1048576) :
    Calls Try.prog 7 #[.slice ad0 n0 cap0] w fun e w' => e = .returned (.bool true) ∧ Below w.heap.size w w' := by
  have HL := Lib.hid hn0
  have HC := Lib.hid hr0
  clear hn0 hr0
  go_enter Try.func7, Try.ntmps7
  go_wp2_with fail
  refine (spec_MakeDown ad0 n0 cap0 bs0 _ HL.out (by exact HC.out) (by omega)).mono ?_
  rintro e w1 ⟨ka, kn, kc, ks, rfl, hl, hk, hd, ho, hb⟩
  have HK := Lib.hid hk
  have HD := Lib.hid hd
  have HM := Lib.hid (mir_kern hk hd)
  have HKL := Lib.hid hl
  have k2 := (kernOk_bd hl hk).2.1
  have hcap := rowA_cap ho
  have HB1 := Lib.hid hb
  have RK1 := Lib.hid ho.rd
  obtain ⟨ms, hms⟩ : ∃ ms, mirrorK ks = ms := ⟨_, rfl⟩
  have HMS := Lib.hid hms
  have HML : Hid (ms.length = kn) := Lib.hid (by rw [← hms, mirrorK_len]; exact hl)
  have HMK : Hid (kernOk ms = true) := Lib.hid (by rw [← hms]; exact HM.out)
  obtain ⟨T, hT⟩ : ∃ T, weightF ks = T := ⟨_, rfl⟩
  have HT := Lib.hid hT
  have HT2 : Hid (weightF ms = T) := Lib.hid (by rw [← hT, weightF_yes HML.out HMK.out, weightF_yes hl hk, ← hms, mir_wt ks kn (by omega)])
  clear hl hk hd ho hb hms hT
  go_wp2_with fail
  refine (mirK_call ka kn kc ks ms _ HKL.out (by exact RK1.out) (by omega) hcap HK.out HM.out HMS.out).mono ?_
  rintro e w2 ⟨ma, mc, rfl, ho, hb⟩
  have hcapm := rowA_cap ho
  have HB2 := Lib.hid (bTrans HB1.out hb)
  have RK2 := Lib.hid (RK1.out.below hb)
  have RM2 := Lib.hid ho.rd
  clear ho hb
  go_wp2_with fail
  refine (impl_IsKernel ma kn mc ms _ HML.out (by exact RM2.out) (by omega) hcapm).mono ?_
  rintro e w3 ⟨rfl, hb⟩
  rw [HMK.out]
  have HB3 := Lib.hid (bTrans HB2.out hb)
  have RK3 := Lib.hid (RK2.out.below hb)
  have RM3 := Lib.hid (RM2.out.below hb)
  clear hb
  go_wp2_with fail
  refine (impl_WeightOf ma kn mc ms _ HML.out (by exact RM3.out) (by omega) hcapm).mono ?_
  rintro e w4 ⟨rfl, hb⟩
  rw [HT2.out]
  have HB4 := Lib.hid (bTrans HB3.out hb)
  have RK4 := Lib.hid (RK3.out.below hb)
  have RM4 := Lib.hid (RM3.out.below hb)
  clear hb
  go_wp2_with fail
  refine (impl_WeightOf ka kn kc ks _ HKL.out (by exact RK4.out) (by omega) hcap).mono ?_
  rintro e w5 ⟨rfl, hb⟩
  rw [HT.out]
  have HB5 := Lib.hid (bTrans HB4.out hb)
  have RK5 := Lib.hid (RK4.out.below hb)
  have RM5 := Lib.hid (RM4.out.below hb)
  clear hb
  go_wp2_with fail
  refine (laws_fresh ad0 n0 cap0 bs0 w.heap.size _ HL.out (by exact HC.out.below HB5.out) (by exact HB5.out.size) (by omega)).mono ?_
  rintro e w6 ⟨fa, fn, fc, fs, rfl, hfl, hfn, hfr, hb⟩
  have HB6 := Lib.hid (bTrans HB5.out hb)
  have RK6 := Lib.hid (RK5.out.below hb)
  have RM6 := Lib.hid (RM5.out.below hb)
  clear hb
  go_wp2_with fail
  refine (pic_callB fa fn fc fs 8 _ hfl (by exact hfr) (by omega) (by omega) (by omega)).mono ?_
  rintro e w7 ⟨W, H, pa, n, pc, xs, rfl, b1, b2, b3, b4, hs, hq, hn1, hn2, hc1, hc2, hx, hr, hp, hw, hb⟩
  obtain ⟨k, rfl⟩ : ∃ k : Nat, W = (k : Int) := ⟨W.toNat, by omega⟩
  have HS := Lib.hid hs
  have HQ := Lib.hid hq
  have HX := Lib.hid hx
  have HP := Lib.hid hp
  have HB7 := Lib.hid (bAlloc (bTrans HB6.out hb) (.cells #[.int .i64 (k : Int), .int .i64 H, .slice pa n pc] 34))
  have RK7 := Lib.hid ((RK6.out.below hb).alloc (.cells #[.int .i64 (k : Int), .int .i64 H, .slice pa n pc] 34))
  have RM7 := Lib.hid ((RM6.out.below hb).alloc (.cells #[.int .i64 (k : Int), .int .i64 H, .slice pa n pc] 34))
  have RP7 := Lib.hid (hr.alloc (.cells #[.int .i64 (k : Int), .int .i64 H, .slice pa n pc] 34))
  have KP7 := Lib.hid (Blk.new w7 34 #[.int .i64 (k : Int), .int .i64 H, .slice pa n pc])
  have MP := Lib.hid (mir_okB hx hp).2
  obtain ⟨ys, hys⟩ : ∃ ys, mirB (k : Int) n xs = ys := ⟨_, rfl⟩
  have HY := Lib.hid hys
  have YP : Hid (picOk k H ys 255 = true) := Lib.hid (by rw [← hys]; exact MP.out)
  have YL : Hid (ys.length = n) := Lib.hid (by rw [← hys]; exact mirB_len _ _ _)
  have RO := Lib.hid (RunOk.of (alt := false) hx HK.out hp)
  have RS := Lib.hid (RunOk.of (alt := false) YL.out HMK.out YP.out)
  have EQ := mir_run RO.out (by rw [HMS.out, hys]; exact RS.out) HD.out
  rw [HMS.out, hys] at EQ
  obtain ⟨ds, hds⟩ : ∃ ds, (runG false ks k H xs n).dots = ds := ⟨_, rfl⟩
  obtain ⟨L, hLo⟩ : ∃ L, (runG false ks k H xs n).lost = L := ⟨_, rfl⟩
  rw [hds, hLo] at EQ
  obtain ⟨dm, hdm⟩ : ∃ dm, mirB (k : Int) n ds = dm := ⟨_, rfl⟩
  have HDM := Lib.hid hdm
  rw [hdm] at EQ
  have HDS := Lib.hid hds
  have HLS := Lib.hid hLo
  have HDT := Lib.hid EQ.1
  have HLT := Lib.hid EQ.2
  have DL : Hid (ds.length = n) := Lib.hid (by rw [← hds, (run_len _).1]; exact hx)
  have DML : Hid (dm.length = n) := Lib.hid (by rw [← hdm]; exact mirB_len _ _ _)
  have DW : Hid (within ds 1 = true) := Lib.hid (by rw [← hds]; exact (run_inv RO.out n (Nat.le_refl _)).2.2.2.2.2)
  have DP : Hid (picOk k H ds 255 = true) := Lib.hid (picOk_mkB HS.out DL.out HQ.out (within_leB DW.out))
  clear hs hq hx hr hp hw hb hfl hfr hfn hys EQ hds hLo hdm
  obtain ⟨l0, o0, o1, o2⟩ := KP7.out.c3
  go_wp2_with fail
  refine (diff_call ka kn kc ks k H pa n pc xs false ds L _ HKL.out (by exact RK7.out) (by omega) hcap HX.out (by exact RP7.out) (by omega) HK.out HP.out HDS.out HLS.out).mono ?_
  rintro e w8 ⟨qa, qc, rfl, ho, hb⟩
  have HB8 := Lib.hid (bAlloc (bTrans HB7.out hb) (.cells #[.int .i64 (k : Int), .int .i64 H, .slice qa n qc] 34))
  have RM8 := Lib.hid ((RM7.out.below hb).alloc (.cells #[.int .i64 (k : Int), .int .i64 H, .slice qa n qc] 34))
  have RP8 := Lib.hid ((RP7.out.below hb).alloc (.cells #[.int .i64 (k : Int), .int .i64 H, .slice qa n qc] 34))
  have KP8 := Lib.hid ((KP7.out.below' hb).alloc (.cells #[.int .i64 (k : Int), .int .i64 H, .slice qa n qc] 34))
  have RQ8 := Lib.hid (ho.rd.alloc (.cells #[.int .i64 (k : Int), .int .i64 H, .slice qa n qc] 34))
  have KQ8 := Lib.hid (Blk.new w8 34 #[.int .i64 (k : Int), .int .i64 H, .slice qa n qc])
  clear hb ho o0 o1 o2 l0
  obtain ⟨l0, o0, o1, o2⟩ := KP8.out.c3
  go_wp2_with fail
  refine (mirS_call k H pa n pc xs ys _ HX.out (by exact RP8.out) (by omega) HP.out HY.out).mono ?_
  rintro e w9 ⟨ya, yc, rfl, ho, hb⟩
  have HB9 := Lib.hid (bTrans HB8.out hb)
  have RM9 := Lib.hid (RM8.out.below hb)
  have RQ9 := Lib.hid (RQ8.out.below hb)
  have KQ9 := Lib.hid (KQ8.out.below' hb)
  have RY9 := Lib.hid ho.rd
  clear hb ho o0 o1 o2 l0
  go_wp2_with fail
  refine (diff_call ma kn mc ms k H ya n yc ys false dm L _ HML.out (by exact RM9.out) (by omega) hcapm YL.out (by exact RY9.out) (by omega) HMK.out YP.out HDT.out HLT.out).mono ?_
  rintro e w10 ⟨ra, rc, rfl, ho, hb⟩
  have HB10 := Lib.hid (bAlloc (bTrans HB9.out hb) (.cells #[.int .i64 (k : Int), .int .i64 H, .slice ra n rc] 34))
  have RQ10 := Lib.hid ((RQ9.out.below hb).alloc (.cells #[.int .i64 (k : Int), .int .i64 H, .slice ra n rc] 34))
  have KQ10 := Lib.hid ((KQ9.out.below' hb).alloc (.cells #[.int .i64 (k : Int), .int .i64 H, .slice ra n rc] 34))
  have RR10 := Lib.hid (ho.rd.alloc (.cells #[.int .i64 (k : Int), .int .i64 H, .slice ra n rc] 34))
  have KR10 := Lib.hid (Blk.new w10 34 #[.int .i64 (k : Int), .int .i64 H, .slice ra n rc])
  clear hb ho
  go_upto_region 10 with fail
  obtain ⟨w11, bq, hw11, hbq⟩ : ∃ (x : World) (bf : Nat), x = w10.alloc (.cells #[.int .i64 (k : Int), .int .i64 H, .slice ra n rc] 34) ∧ bf = w10.heap.size := ⟨_, _, rfl, rfl⟩
  rw [← hw11] at HB10 RQ10 KQ10 RR10 KR10 ⊢
  rw [← hbq] at KR10 ⊢
  clear hw11 hbq
  obtain ⟨l0, o0, o1, o2⟩ := KQ10.out.c3
  obtain ⟨l2, c0, c1, c2⟩ := KR10.out.c3
  go_cut [81] (fun s81 wx => s81 = .bool false ∧ BelowH w11 wx)
  case first =>
    have MQ : Hid (∀ v, BelowH w11 v → v.cell? ⟨w8.heap.size, 0, none⟩ = some (.int .i64 (k : Int)) ∧ v.cell? ⟨w8.heap.size, 1, none⟩ = some (.int .i64 H) ∧ v.cell? ⟨w8.heap.size, 2, none⟩ = some (.slice qa n qc) ∧ v.cell? ⟨bq, 0, none⟩ = some (.int .i64 (k : Int)) ∧ v.cell? ⟨bq, 1, none⟩ = some (.int .i64 H) ∧ v.cell? ⟨bq, 2, none⟩ = some (.slice ra n rc) ∧ BelowH w11 v) := Lib.hid (fun v hB => ⟨(hB.out.cell l0).trans o0, (hB.out.cell l0).trans o1, (hB.out.cell l0).trans o2, (hB.out.cell l2).trans c0, (hB.out.cell l2).trans c1, (hB.out.cell l2).trans c2, hB⟩)
    go_region_held3 (fun v => v.cell? ⟨w8.heap.size, 0, none⟩ = some (.int .i64 (k : Int)) ∧ v.cell? ⟨w8.heap.size, 1, none⟩ = some (.int .i64 H) ∧ v.cell? ⟨w8.heap.size, 2, none⟩ = some (.slice qa n qc) ∧ v.cell? ⟨bq, 0, none⟩ = some (.int .i64 (k : Int)) ∧ v.cell? ⟨bq, 1, none⟩ = some (.int .i64 H) ∧ v.cell? ⟨bq, 2, none⟩ = some (.slice ra n rc) ∧ BelowH w11 v)
      (first | exact MQ.out _ (BelowH.start _) | exact MQ.out _ hb2 | exact MQ.out _ hb1)
      (first
        | (go_at_call 30; ((with_reducible refine (mirI_call k H qa n qc ds dm _ DL.out (by exact RQ10.out.below (BelowH.out (held7 (by assumption)))) (by omega) DP.out HDM.out).mono ?_); rintro e v1 ⟨ia, ic, rfl, hio, hq1⟩; have hz1 := BelowH.le_call (held7 (by assumption)) hq1; have hb1 := BelowH.call (held7 (by assumption)) hq1))
        | (go_at_call 25; ((with_reducible refine (same_callB k H _ n _ dm ra n rc dm _ DML.out (by first | exact hio.rd | exact hio.rd.drew) (by omega) DML.out (by exact RR10.out.below (BelowH.out (held7 (by assumption)))) (by omega) rfl).mono ?_); rintro e v2 ⟨rfl, hq2⟩; have hz2 := BelowH.le_call (held7 (by assumption)) hq2; have hb2 := BelowH.call (held7 (by assumption)) hq2)))
    all_goals (go_wp2_with fail; go_meet; exact ⟨by first | rfl | (simp; done), hb2⟩)
  case rest =>
    obtain ⟨rfl, hb⟩ := hcut
    have HB11 := Lib.hid (bTrans HB10.out hb.out)
    clear hb o0 o1 o2 l0 c0 c1 c2 l2
    go_wp2_with fail
    refine (impl_SteinKernelA _).mono ?_
    rintro e w12 ⟨sa, sn, sc, rfl, ho, hsn, hb⟩
    have HB12 := Lib.hid (bTrans HB11.out hb)
    have RS12 := Lib.hid ho.rd
    have hcs := rowA_cap ho
    have SL := parts_len ho
    clear hb ho
    go_wp2_with fail
    refine (mirN_call sa sn sc _ SL (by exact RS12.out) (by have : steinK.length = 4 := rfl; omega) hcs).mono ?_
    rintro e w13 ⟨ta, tn, tc, rfl, hb⟩
    have HB13 := Lib.hid (bTrans HB12.out hb)
    clear hb
    go_wp2_with fail
    go_ret
    exact ⟨by first | rfl | simp, by first | exact HB13.out | exact HB13.out.drew⟩

set_option maxHeartbeats 400000 in
theorem big (ad0 : Option Addr) (n0 cap0 : Nat) (w : World) (h : 1048576 < n0) (hl : n0 ≤ 9223372036854775807) :
    Calls Try.prog 7 #[.slice ad0 n0 cap0] w fun e w' => e = .returned (.bool true) ∧ Below w.heap.size w w' := by
  have h2 : (1048576 : Int) < (n0 : Int) := by omega
  go_enter Try.func7, Try.ntmps7
  go_wp2_with fail
  go_ret
  exact ⟨rfl, Below.refl _ _⟩

set_option maxRecDepth 100000 in
theorem lifted (os : Os) (started : os.Started) (H : Type) (enc : TypeId × Value → H) :
    ReturnsInHanded {} Try.checked os 7 .any (Rows.fnMirroredSpec.pre6 enc Try.prog Try.f7 Rows.fnMirroredRow.domain false) (Rows.fnMirroredSpec.post enc Try.prog Try.f7 false true false false) := by
  refine returnsInHanded_of_change (C := Try.checked) own started (by kernel_rfl) Try.func7
    (ChangeSpec.witness6 (enc := enc) (C := Try.checked) false ⟨#[], #[.slice none 0 0], []⟩ 8 (by kernel_rfl) (by kernel_rfl) (by kernel_rfl) (by kernel_rfl)) ?_
  intro W base args ds gs before hval0 hW hcnd _
  have hval : ∀ (j : Nat) t v, Try.f7.params[j]? = some t → args[j]? = some v → Value.okWide Try.prog W .any base t v := hval0
  have hW' := hW
  have hlt := hW.lt
  obtain ⟨p, q, hA0, hV, rfl, hfz, hnd⟩ := hW
  have hA : DataW.TrodAll enc Try.prog W 0 (fun _ => true) true Try.f7.params.toList args.toList ds p := hA0
  rw [Try.params7] at hA hval
  obtain ⟨v0, vs0, d0, ds0, p0, q0, hargs, rfl, rfl, h0, r0⟩ := trodAll_cons hA
  obtain ⟨rfl, rfl, rfl⟩ := trodAll_nil r0
  obtain rfl : args = #[v0] := by cases args; simp_all
  obtain ⟨rfl, rfl⟩ := trodVars_none hV
  clear hA0 hval0
  obtain ⟨ad0, n0, cap0, bs0, rfl, hn0, hr0, hl0⟩ := open_code (hval 0 22 v0 rfl rfl) h0 (fun x hx => hlt x (by simp [hx]))
  have fin : ∀ (e : Ending) W', (e = .returned (.bool true) ∧ Below W.heap.size W W') → ∃ v, e = .returned v ∧ Rows.fnMirroredSpec.post enc Try.prog Try.f7 false true false false W #[.slice ad0 n0 cap0] v W' := by
    rintro e W' ⟨rfl, hb⟩
    exact ⟨_, rfl, law_post rfl rfl hW' (by kernel_rfl) rfl hb⟩
  by_cases hs0 : n0 ≤ 1048576
  case neg => exact (big ad0 n0 cap0 W (by omega) hl0).mono fin
  case pos => exact (ok ad0 n0 cap0 bs0 W hn0 hr0 hs0).mono fin

theorem proved : Rows.FnMirroredSaid :=
  OpenClaim.holds_of_wide 7 Try.f7 rfl rfl rfl rfl rfl rfl rfl ⟨rfl, rfl, rfl, rfl, rfl⟩ rfl rfl rfl rfl rfl (by kernel_rfl) Try.func7 (by kernel_rfl)
    (of_decide_eq_true (by kernel_rfl)) (by unfold Func.isWrapper; first | (rw [if_pos (by decide +kernel)]; kernel_rfl) | (rw [if_neg (by decide +kernel)]; exact ⟨rfl, rfl⟩))
    (fun os started H enc _ => lifted os started H enc)

end Go.Proofs.Ytepaklcobkdfdaa.lMirrored
