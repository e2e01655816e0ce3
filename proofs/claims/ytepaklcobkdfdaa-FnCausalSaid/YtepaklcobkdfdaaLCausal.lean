/-
  FnCausal: the dots of the first rows do not hang on what lies below, and one row goes one way: the law returns true for every code. No conditions.
-/
import Derived.Test.YtepaklcobkdfdaaR21
import Derived.Test.YtepaklcobkdfdaaFrameB
namespace Go.Proofs.Ytepaklcobkdfdaa.lCausal
open Go.ChangeShapes Go.WideShapes Go.ChangeAt Go.RowKit
set_option linter.unusedVariables false
set_option linter.unusedSimpArgs false

set_option maxRecDepth 100000 in
set_option maxHeartbeats 16000000 in
theorem ok (ad0 : Option Addr) (n0 cap0 : Nat) (bs0 : List Int) (w : World) (hn0 : bs0.length = n0) (hr0 : RdU w.heap.size w ad0 bs0) (hs0 : n0 ≤ 1048576) :
    Calls Try.prog 6 #[.slice ad0 n0 cap0] w fun e w' => e = .returned (.bool true) ∧ Below w.heap.size w w' := by
  have HL := Lib.hid hn0
  have HC := Lib.hid hr0
  clear hn0 hr0
  go_enter Try.func6, Try.ntmps6
  go_wp2_with fail
  refine (spec_MakeKernel ad0 n0 cap0 bs0 _ HL.out (by exact HC.out) (by omega)).mono ?_
  rintro e w1 ⟨ka, kn, kc, ks, rfl, hl, hk, ho, hb⟩
  have HK := Lib.hid hk
  have HKL := Lib.hid hl
  have k2 := (kernOk_bd hl hk).2.1
  have hcap := rowA_cap ho
  have HB1 := Lib.hid hb
  have RK1 := Lib.hid ho.rd
  clear hl hk ho hb
  go_wp2_with fail
  refine (laws_fresh ad0 n0 cap0 bs0 w.heap.size _ HL.out (by exact HC.out.below HB1.out) (by exact HB1.out.size) (by omega)).mono ?_
  rintro e w1b ⟨fa, fn, fc, fs, rfl, hfl, hfn, hfr, hb⟩
  have HB1b := Lib.hid (bTrans HB1.out hb)
  have RK1b := Lib.hid (RK1.out.below hb)
  clear hb
  go_wp2_with fail
  refine (pic_callB fa fn fc fs 9 _ hfl (by exact hfr) (by omega) (by omega) (by omega)).mono ?_
  rintro e w2 ⟨W, H, pa, n, pc, xs, rfl, b1, b2, b3, b4, hs, hq, hn1, hn2, hc1, hc2, hx, hr, hp, hw, hb⟩
  have HS := Lib.hid hs
  have HQ := Lib.hid hq
  have HX := Lib.hid hx
  have HP := Lib.hid hp
  have HW := Lib.hid hw
  have HB2 := Lib.hid (bAlloc (bTrans HB1b.out hb) (.cells #[.int .i64 W, .int .i64 H, .slice pa n pc] 34))
  have RK2 := Lib.hid ((RK1b.out.below hb).alloc (.cells #[.int .i64 W, .int .i64 H, .slice pa n pc] 34))
  have RP2 := Lib.hid (hr.alloc (.cells #[.int .i64 W, .int .i64 H, .slice pa n pc] 34))
  have KP2 := Lib.hid (Blk.new w2 34 #[.int .i64 W, .int .i64 H, .slice pa n pc])
  clear hs hq hx hr hp hw hb hfl hfr hfn
  go_wp2_with fail
  refine (at_callB w.heap.size ad0 n0 cap0 bs0 1 _ HL.out (by exact HC.out.below HB2.out) (by omega) (by omega) (by omega)).mono ?_
  rintro e w3 ⟨v1, rfl, hv1, rfl⟩
  obtain ⟨l0, o0, o1, o2⟩ := KP2.out.c3
  obtain ⟨alt, halt⟩ : ∃ alt, ((v1 : Int) % 2 == 1) = alt := ⟨_, rfl⟩
  have zH : ¬ H = 0 := by omega
  have zH2 : (H == 0) = false := by simp; omega
  go_upto_region 6 with fail
  (try rw [halt])
  clear halt hv1
  obtain ⟨w3, bp, hw3, hbp⟩ : ∃ (x : World) (bf : Nat), x = w2.alloc (.cells #[.int .i64 W, .int .i64 H, .slice pa n pc] 34) ∧ bf = w2.heap.size := ⟨_, _, rfl, rfl⟩
  rw [← hw3] at HB2 RK2 RP2 KP2 l0 o0 o1 o2 ⊢
  rw [← hbp] at KP2 l0 o0 o1 o2 ⊢
  clear hw3 hbp
  go_cut [6] (fun s6 wx => ∃ hh : Int, s6 = .int .i64 hh ∧ 1 ≤ hh ∧ hh ≤ H ∧ BelowH w3 wx)
  case first =>
    have MQ : Hid (∀ v, BelowH w3 v → v.cell? ⟨bp, 0, none⟩ = some (.int .i64 W) ∧ v.cell? ⟨bp, 1, none⟩ = some (.int .i64 H) ∧ BelowH w3 v) := Lib.hid (fun v hB => ⟨(hB.out.cell l0).trans o0, (hB.out.cell l0).trans o1, hB⟩)
    go_region_held3 (fun v => v.cell? ⟨bp, 0, none⟩ = some (.int .i64 W) ∧ v.cell? ⟨bp, 1, none⟩ = some (.int .i64 H) ∧ BelowH w3 v)
      (first | exact MQ.out _ (BelowH.start _) | exact MQ.out _ hb1)
      (first
        | (go_at_call 12; ((with_reducible refine (at_callH H b3 w.heap.size ad0 n0 cap0 bs0 2 _ HL.out (by exact HC.out.below (bTrans HB2.out (BelowH.out (held3 (by assumption))))) (by omega) (by omega) (by omega)).mono ?_); rintro e v1 ⟨vv, rfl, hvv, hv2, hv3, hq1⟩; have hz1 := BelowH.le_call (held3 (by assumption)) hq1; have hb1 := BelowH.call (held3 (by assumption)) hq1)))
    all_goals (go_wp2_with fail; go_meet; exact ⟨1 + (vv : Int) % H, by first | rfl | (simp; done) | (simp; rw [Int.tmod_eq_emod_of_nonneg (by omega), IntWalk.i64_in (1 + (vv : Int) % H) (by omega)]), by omega, by omega, hb1⟩)
  case rest =>
    obtain ⟨h, rfl, h1, h2, hb⟩ := hcut
    clear zH zH2
    have HB3 := Lib.hid (bTrans HB2.out hb.out)
    have RK3 := Lib.hid (RK2.out.below hb.out)
    have RP3 := Lib.hid (RP2.out.below hb.out)
    have KP3 := Lib.hid (KP2.out.below' hb.out)
    clear hb o0 o1 o2 l0
    obtain ⟨m, hm⟩ : ∃ m : Nat, (m : Int) = W * h := ⟨(W * h).toNat, by have : 0 ≤ W * h := Int.mul_nonneg (by omega) (by omega); omega⟩
    have hmn : m ≤ n := by
      have e : W * h ≤ W * H := Int.mul_le_mul_of_nonneg_left h2 (by omega)
      have := HQ.out; omega
    have hm1 : 1 ≤ m := by
      have e : 1 * 1 ≤ W * h := Int.mul_le_mul b1 h1 (by omega) (by omega)
      omega
    obtain ⟨k, rfl⟩ : ∃ k : Nat, W = (k : Int) := ⟨W.toNat, by omega⟩
    have HM := Lib.hid hm
    have HM1 : Hid ((k : Int) = (k : Int) * 1) := Lib.hid (by omega)
    have TP := Lib.hid (topL_ok HX.out HP.out h1 h2 hm)
    have TL := Lib.hid (topL_len m xs)
    have UP := Lib.hid (topL_ok HX.out HP.out (Int.le_refl 1) b3 HM1.out)
    have UL := Lib.hid (topL_len k xs)
    have RO := Lib.hid (RunOk.of (alt := alt) HX.out HK.out HP.out)
    have RT := Lib.hid (RunOk.of (alt := alt) TL.out HK.out TP.out)
    have EQ := Lib.hid (top_dots RO.out RT.out h2 hmn)
    obtain ⟨ds, hds⟩ : ∃ ds, (runG alt ks k H xs n).dots = ds := ⟨_, rfl⟩
    obtain ⟨L, hLo⟩ : ∃ L, (runG alt ks k H xs n).lost = L := ⟨_, rfl⟩
    obtain ⟨dt, hdt⟩ : ∃ ds, (runG alt ks k h (topL m xs) m).dots = ds := ⟨_, rfl⟩
    obtain ⟨Lt, hLt⟩ : ∃ L, (runG alt ks k h (topL m xs) m).lost = L := ⟨_, rfl⟩
    obtain ⟨du, hdu⟩ : ∃ ds, (runG true ks k 1 (topL k xs) k).dots = ds := ⟨_, rfl⟩
    obtain ⟨Lu, hLu⟩ : ∃ L, (runG true ks k 1 (topL k xs) k).lost = L := ⟨_, rfl⟩
    have RW := Lib.hid (row_ways (ks := ks) (W := (k : Int)) (ink := topL k xs) (n := k) rfl k (Nat.le_refl _) true)
    have HDU := Lib.hid hdu
    have HLU := Lib.hid hLu
    have HDV : Hid ((runG false ks k 1 (topL k xs) k).dots = du) := Lib.hid (by rw [← RW.out]; exact hdu)
    have HLV : Hid ((runG false ks k 1 (topL k xs) k).lost = Lu) := Lib.hid (by rw [← RW.out]; exact hLu)
    have HDT := Lib.hid hdt
    have HLT := Lib.hid hLt
    have HDS := Lib.hid hds
    have HLS := Lib.hid hLo
    rw [hds, hdt] at EQ
    have DL : Hid (ds.length = n) := Lib.hid (by rw [← hds, (run_len _).1]; exact HX.out)
    have DTL : Hid (dt.length = m) := Lib.hid (by rw [← hdt, (run_len _).1]; exact TL.out)
    have DUL : Hid (du.length = k) := Lib.hid (by rw [← hdu, (run_len _).1]; exact UL.out)
    have DW : Hid (within ds 1 = true) := Lib.hid (by rw [← hds]; exact (run_inv RO.out n (Nat.le_refl _)).2.2.2.2.2)
    have DP : Hid (picOk k H ds 255 = true) := Lib.hid (picOk_mkB HS.out DL.out HQ.out (within_leB DW.out))
    clear hds hLo hdt hLt hdu hLu hm
    obtain ⟨l0, o0, o1, o2⟩ := KP3.out.c3
    go_wp2_with fail
    refine (diff_call ka kn kc ks k H pa n pc xs alt ds L _ HKL.out (by exact RK3.out) (by omega) hcap HX.out (by exact RP3.out) (by omega) HK.out HP.out HDS.out HLS.out).mono ?_
    rintro e w4 ⟨qa, qc, rfl, ho, hb⟩
    obtain ⟨cc1, cc2⟩ := own_capB ho
    have HB4 := Lib.hid (bAlloc (bTrans HB3.out hb) (.cells #[.int .i64 (k : Int), .int .i64 H, .slice qa n qc] 34))
    have RK4 := Lib.hid ((RK3.out.below hb).alloc (.cells #[.int .i64 (k : Int), .int .i64 H, .slice qa n qc] 34))
    have RP4 := Lib.hid ((RP3.out.below hb).alloc (.cells #[.int .i64 (k : Int), .int .i64 H, .slice qa n qc] 34))
    have KP4 := Lib.hid ((KP3.out.below' hb).alloc (.cells #[.int .i64 (k : Int), .int .i64 H, .slice qa n qc] 34))
    have RQ4 := Lib.hid (ho.rd.alloc (.cells #[.int .i64 (k : Int), .int .i64 H, .slice qa n qc] 34))
    have KQ4 := Lib.hid (Blk.new w4 34 #[.int .i64 (k : Int), .int .i64 H, .slice qa n qc])
    clear hb ho o0 o1 o2 l0
    obtain ⟨l0, o0, o1, o2⟩ := KP4.out.c3
    obtain ⟨l1, c0, c1, c2⟩ := KQ4.out.c3
    go_wp2_with fail
    refine (cropI_call k H h qa n qc m ds _ DL.out (by exact RQ4.out) (by omega) cc1 cc2 DP.out h1 h2 HM.out).mono ?_
    rintro e w5 ⟨ra, rc, rfl, ho, hb⟩
    have HB5 := Lib.hid (bAlloc (bTrans HB4.out hb) (.cells #[.int .i64 (k : Int), .int .i64 h, .slice ra m rc] 34))
    have RK5 := Lib.hid ((RK4.out.below hb).alloc (.cells #[.int .i64 (k : Int), .int .i64 h, .slice ra m rc] 34))
    have RP5 := Lib.hid ((RP4.out.below hb).alloc (.cells #[.int .i64 (k : Int), .int .i64 h, .slice ra m rc] 34))
    have KP5 := Lib.hid ((KP4.out.below' hb).alloc (.cells #[.int .i64 (k : Int), .int .i64 h, .slice ra m rc] 34))
    have RR5 := Lib.hid (ho.rd.alloc (.cells #[.int .i64 (k : Int), .int .i64 h, .slice ra m rc] 34))
    have KR5 := Lib.hid (Blk.new w5 34 #[.int .i64 (k : Int), .int .i64 h, .slice ra m rc])
    clear hb ho o0 o1 o2 l0 l1 c0 c1 c2
    obtain ⟨l0, o0, o1, o2⟩ := KP5.out.c3
    go_wp2_with fail
    refine (cropS_call k H h pa n pc m xs _ HX.out (by exact RP5.out) (by omega) HP.out h1 h2 HM.out).mono ?_
    rintro e w6 ⟨ta, tc, rfl, ho, hb⟩
    have HB6 := Lib.hid (bAlloc (bTrans HB5.out hb) (.cells #[.int .i64 (k : Int), .int .i64 h, .slice ta m tc] 34))
    have RK6 := Lib.hid ((RK5.out.below hb).alloc (.cells #[.int .i64 (k : Int), .int .i64 h, .slice ta m tc] 34))
    have RP6 := Lib.hid ((RP5.out.below hb).alloc (.cells #[.int .i64 (k : Int), .int .i64 h, .slice ta m tc] 34))
    have KP6 := Lib.hid ((KP5.out.below' hb).alloc (.cells #[.int .i64 (k : Int), .int .i64 h, .slice ta m tc] 34))
    have RR6 := Lib.hid ((RR5.out.below hb).alloc (.cells #[.int .i64 (k : Int), .int .i64 h, .slice ta m tc] 34))
    have KR6 := Lib.hid ((KR5.out.below' hb).alloc (.cells #[.int .i64 (k : Int), .int .i64 h, .slice ta m tc] 34))
    have RT6 := Lib.hid (ho.rd.alloc (.cells #[.int .i64 (k : Int), .int .i64 h, .slice ta m tc] 34))
    have KT6 := Lib.hid (Blk.new w6 34 #[.int .i64 (k : Int), .int .i64 h, .slice ta m tc])
    clear hb ho o0 o1 o2 l0
    obtain ⟨l0, o0, o1, o2⟩ := KT6.out.c3
    go_wp2_with fail
    refine (diff_call ka kn kc ks k h ta m tc (topL m xs) alt dt Lt _ HKL.out (by exact RK6.out) (by omega) hcap TL.out (by exact RT6.out) (by omega) HK.out TP.out HDT.out HLT.out).mono ?_
    rintro e w7 ⟨ua, uc, rfl, ho, hb⟩
    have HB7 := Lib.hid (bAlloc (bTrans HB6.out hb) (.cells #[.int .i64 (k : Int), .int .i64 h, .slice ua m uc] 34))
    have RK7 := Lib.hid ((RK6.out.below hb).alloc (.cells #[.int .i64 (k : Int), .int .i64 h, .slice ua m uc] 34))
    have RP7 := Lib.hid ((RP6.out.below hb).alloc (.cells #[.int .i64 (k : Int), .int .i64 h, .slice ua m uc] 34))
    have KP7 := Lib.hid ((KP6.out.below' hb).alloc (.cells #[.int .i64 (k : Int), .int .i64 h, .slice ua m uc] 34))
    have RR7 := Lib.hid ((RR6.out.below hb).alloc (.cells #[.int .i64 (k : Int), .int .i64 h, .slice ua m uc] 34))
    have KR7 := Lib.hid ((KR6.out.below' hb).alloc (.cells #[.int .i64 (k : Int), .int .i64 h, .slice ua m uc] 34))
    have RU7 := Lib.hid (ho.rd.alloc (.cells #[.int .i64 (k : Int), .int .i64 h, .slice ua m uc] 34))
    have KU7 := Lib.hid (Blk.new w7 34 #[.int .i64 (k : Int), .int .i64 h, .slice ua m uc])
    clear hb ho o0 o1 o2 l0
    obtain ⟨l0, o0, o1, o2⟩ := KR7.out.c3
    obtain ⟨l1, c0, c1, c2⟩ := KU7.out.c3
    go_wp2_with fail
    refine (same_callB k h ra m rc (topL m ds) ua m uc dt _ (topL_len _ _) (by exact RR7.out) (by omega) DTL.out (by exact RU7.out) (by omega) EQ.out).mono ?_
    rintro e w8 ⟨rfl, hb⟩
    have HB8 := Lib.hid (bTrans HB7.out hb)
    have RK8 := Lib.hid (RK7.out.below hb)
    have RP8 := Lib.hid (RP7.out.below hb)
    have KP8 := Lib.hid (KP7.out.below' hb)
    clear hb o0 o1 o2 l0 l1 c0 c1 c2
    obtain ⟨l0, o0, o1, o2⟩ := KP8.out.c3
    go_wp2_with fail
    refine (cropS_call k H 1 pa n pc k xs _ HX.out (by exact RP8.out) (by omega) HP.out (Int.le_refl 1) b3 HM1.out).mono ?_
    rintro e w9 ⟨va, vc, rfl, ho, hb⟩
    have HB9 := Lib.hid (bAlloc (bTrans HB8.out hb) (.cells #[.int .i64 (k : Int), .int .i64 1, .slice va k vc] 34))
    have RK9 := Lib.hid ((RK8.out.below hb).alloc (.cells #[.int .i64 (k : Int), .int .i64 1, .slice va k vc] 34))
    have RV9 := Lib.hid (ho.rd.alloc (.cells #[.int .i64 (k : Int), .int .i64 1, .slice va k vc] 34))
    have KV9 := Lib.hid (Blk.new w9 34 #[.int .i64 (k : Int), .int .i64 1, .slice va k vc])
    clear hb ho o0 o1 o2 l0
    obtain ⟨l0, o0, o1, o2⟩ := KV9.out.c3
    go_wp2_with fail
    refine (diff_call ka kn kc ks k 1 va k vc (topL k xs) true du Lu _ HKL.out (by exact RK9.out) (by omega) hcap UL.out (by exact RV9.out) (by omega) HK.out UP.out HDU.out HLU.out).mono ?_
    rintro e w10 ⟨xa, xc, rfl, ho, hb⟩
    have HB10 := Lib.hid (bAlloc (bTrans HB9.out hb) (.cells #[.int .i64 (k : Int), .int .i64 1, .slice xa k xc] 34))
    have RK10 := Lib.hid ((RK9.out.below hb).alloc (.cells #[.int .i64 (k : Int), .int .i64 1, .slice xa k xc] 34))
    have RV10 := Lib.hid ((RV9.out.below hb).alloc (.cells #[.int .i64 (k : Int), .int .i64 1, .slice xa k xc] 34))
    have KV10 := Lib.hid ((KV9.out.below' hb).alloc (.cells #[.int .i64 (k : Int), .int .i64 1, .slice xa k xc] 34))
    have RX10 := Lib.hid (ho.rd.alloc (.cells #[.int .i64 (k : Int), .int .i64 1, .slice xa k xc] 34))
    have KX10 := Lib.hid (Blk.new w10 34 #[.int .i64 (k : Int), .int .i64 1, .slice xa k xc])
    clear hb ho o0 o1 o2 l0
    obtain ⟨l0, o0, o1, o2⟩ := KV10.out.c3
    go_wp2_with fail
    refine (diff_call ka kn kc ks k 1 va k vc (topL k xs) false du Lu _ HKL.out (by exact RK10.out) (by omega) hcap UL.out (by exact RV10.out) (by omega) HK.out UP.out HDV.out HLV.out).mono ?_
    rintro e w11 ⟨ya, yc, rfl, ho, hb⟩
    have HB11 := Lib.hid (bAlloc (bTrans HB10.out hb) (.cells #[.int .i64 (k : Int), .int .i64 1, .slice ya k yc] 34))
    have RX11 := Lib.hid ((RX10.out.below hb).alloc (.cells #[.int .i64 (k : Int), .int .i64 1, .slice ya k yc] 34))
    have KX11 := Lib.hid ((KX10.out.below' hb).alloc (.cells #[.int .i64 (k : Int), .int .i64 1, .slice ya k yc] 34))
    have RY11 := Lib.hid (ho.rd.alloc (.cells #[.int .i64 (k : Int), .int .i64 1, .slice ya k yc] 34))
    have KY11 := Lib.hid (Blk.new w11 34 #[.int .i64 (k : Int), .int .i64 1, .slice ya k yc])
    clear hb ho o0 o1 o2 l0
    obtain ⟨l0, o0, o1, o2⟩ := KX11.out.c3
    obtain ⟨l1, c0, c1, c2⟩ := KY11.out.c3
    go_wp2_with fail
    refine (same_callB k 1 xa k xc du ya k yc du _ DUL.out (by exact RX11.out) (by omega) DUL.out (by exact RY11.out) (by omega) rfl).mono ?_
    rintro e w12 ⟨rfl, hb⟩
    have HB12 := Lib.hid (bTrans HB11.out hb)
    clear hb o0 o1 o2 l0 l1 c0 c1 c2
    go_wp2_with fail
    go_ret
    exact ⟨by first | rfl | simp, by first | exact HB12.out | exact HB12.out.drew⟩

set_option maxHeartbeats 400000 in
theorem big (ad0 : Option Addr) (n0 cap0 : Nat) (w : World) (h : 1048576 < n0) (hl : n0 ≤ 9223372036854775807) :
    Calls Try.prog 6 #[.slice ad0 n0 cap0] w fun e w' => e = .returned (.bool true) ∧ Below w.heap.size w w' := by
  have h2 : (1048576 : Int) < (n0 : Int) := by omega
  go_enter Try.func6, Try.ntmps6
  go_wp2_with fail
  go_ret
  exact ⟨rfl, Below.refl _ _⟩

set_option maxRecDepth 100000 in
theorem lifted (os : Os) (started : os.Started) (H : Type) (enc : TypeId × Value → H) :
    ReturnsInHanded {} Try.checked os 6 .any (Rows.fnCausalSpec.pre6 enc Try.prog Try.f6 Rows.fnCausalRow.domain false) (Rows.fnCausalSpec.post enc Try.prog Try.f6 false true false false) := by
  refine returnsInHanded_of_change (C := Try.checked) own started (by kernel_rfl) Try.func6
    (ChangeSpec.witness6 (enc := enc) (C := Try.checked) false ⟨#[], #[.slice none 0 0], []⟩ 8 (by kernel_rfl) (by kernel_rfl) (by kernel_rfl) (by kernel_rfl)) ?_
  intro W base args ds gs before hval0 hW hcnd _
  have hval : ∀ (j : Nat) t v, Try.f6.params[j]? = some t → args[j]? = some v → Value.okWide Try.prog W .any base t v := hval0
  have hW' := hW
  have hlt := hW.lt
  obtain ⟨p, q, hA0, hV, rfl, hfz, hnd⟩ := hW
  have hA : DataW.TrodAll enc Try.prog W 0 (fun _ => true) true Try.f6.params.toList args.toList ds p := hA0
  rw [Try.params6] at hA hval
  obtain ⟨v0, vs0, d0, ds0, p0, q0, hargs, rfl, rfl, h0, r0⟩ := trodAll_cons hA
  obtain ⟨rfl, rfl, rfl⟩ := trodAll_nil r0
  obtain rfl : args = #[v0] := by cases args; simp_all
  obtain ⟨rfl, rfl⟩ := trodVars_none hV
  clear hA0 hval0
  obtain ⟨ad0, n0, cap0, bs0, rfl, hn0, hr0, hl0⟩ := open_code (hval 0 22 v0 rfl rfl) h0 (fun x hx => hlt x (by simp [hx]))
  have fin : ∀ (e : Ending) W', (e = .returned (.bool true) ∧ Below W.heap.size W W') → ∃ v, e = .returned v ∧ Rows.fnCausalSpec.post enc Try.prog Try.f6 false true false false W #[.slice ad0 n0 cap0] v W' := by
    rintro e W' ⟨rfl, hb⟩
    exact ⟨_, rfl, law_post rfl rfl hW' (by kernel_rfl) rfl hb⟩
  by_cases hs0 : n0 ≤ 1048576
  case neg => exact (big ad0 n0 cap0 W (by omega) hl0).mono fin
  case pos => exact (ok ad0 n0 cap0 bs0 W hn0 hr0 hs0).mono fin

theorem proved : Rows.FnCausalSaid :=
  OpenClaim.holds_of_wide 6 Try.f6 rfl rfl rfl rfl rfl rfl rfl ⟨rfl, rfl, rfl, rfl, rfl⟩ rfl rfl rfl rfl rfl (by kernel_rfl) Try.func6 (by kernel_rfl)
    (of_decide_eq_true (by kernel_rfl)) (by unfold Func.isWrapper; first | (rw [if_pos (by decide +kernel)]; kernel_rfl) | (rw [if_neg (by decide +kernel)]; exact ⟨rfl, rfl⟩))
    (fun os started H enc _ => lifted os started H enc)

end Go.Proofs.Ytepaklcobkdfdaa.lCausal
