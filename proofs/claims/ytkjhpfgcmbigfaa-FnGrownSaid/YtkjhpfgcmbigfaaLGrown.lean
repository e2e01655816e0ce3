/-
  FnGrown: a plate is between its shrunk and its grown one, shrinking it grows its negative, and its gain is the dots that growing adds: the law returns true for every code. No conditions.
-/
import Derived.Test.YtkjhpfgcmbigfaaW23
import Derived.Test.YtkjhpfgcmbigfaaFrameC
import Derived.Deep.RegionHeld3
namespace Go.Proofs.Ytkjhpfgcmbigfaa.lGrown
open Go.ChangeShapes Go.WideShapes Go.ChangeAt Go.RowKit
set_option linter.unusedVariables false
set_option linter.unusedSimpArgs false

theorem limb10 {a b c d e f g h i j : Prop} (x : a ∧ b ∧ c ∧ d ∧ e ∧ f ∧ g ∧ h ∧ i ∧ j) : j := x.2.2.2.2.2.2.2.2.2

theorem limb13 {a b c d e f g h i j k l m : Prop} (x : a ∧ b ∧ c ∧ d ∧ e ∧ f ∧ g ∧ h ∧ i ∧ j ∧ k ∧ l ∧ m) : m := x.2.2.2.2.2.2.2.2.2.2.2.2

set_option maxRecDepth 100000 in
set_option maxHeartbeats 3200000 in
theorem ok (ad0 : Option Addr) (n0 cap0 : Nat) (bs0 : List Int) (w : World) (hn0 : bs0.length = n0) (hr0 : RdU w.heap.size w ad0 bs0) (hs0 : n0 ≤ 1048576) :
    Calls Try.prog 6 #[.slice ad0 n0 cap0] w fun e w' => e = .returned (.bool true) ∧ Below w.heap.size w w' := by
  have HL := Lib.hid hn0
  have HC := Lib.hid hr0
  clear hn0 hr0
  go_enter Try.func6, Try.ntmps6
  go_wp2_with fail
  refine (mkpl_call ad0 n0 cap0 bs0 8 _ HL.out (by exact HC.out) (by omega) (by omega) (by omega)).mono ?_
  rintro e w1 ⟨W, H, g, n, xs, rfl, b1, b2, b3, b4, hq, n1, n64, hg, ho, hp, hb⟩
  have HN := Lib.hid ho.len
  have HP := Lib.hid hp
  obtain ⟨gs, hgs⟩ : ∃ l, leastG W.toNat H.toNat xs n 1 = l := ⟨_, rfl⟩
  obtain ⟨ss, hss⟩ : ∃ l, leastG W.toNat H.toNat xs n 5 = l := ⟨_, rfl⟩
  obtain ⟨ts, hts⟩ : ∃ l, leastG W.toNat H.toNat gs n 5 = l := ⟨_, rfl⟩
  obtain ⟨ns, hns⟩ : ∃ l, xs.map (fun v => 1 - v) = l := ⟨_, rfl⟩
  obtain ⟨ms, hms⟩ : ∃ l, ss.map (fun v => 1 - v) = l := ⟨_, rfl⟩
  obtain ⟨a, ha⟩ : ∃ s, isum xs = s := ⟨_, rfl⟩
  obtain ⟨b, hbb⟩ : ∃ s, isum gs = s := ⟨_, rfl⟩
  have hw0 : 0 < W.toNat := by omega
  have hh0 : 0 < H.toNat := by omega
  have hnn : n = W.toNat * H.toNat := by
    have e1 : ((W.toNat * H.toNat : Nat) : Int) = W * H := by rw [Int.natCast_mul, Int.toNat_of_nonneg (by omega), Int.toNat_of_nonneg (by omega)]
    omega
  have hxw := (picOk_bd HN.out hp).2.2
  have hx := dotsN_of HN.out hxw
  have hgd : DotsN n gs := by rw [← hgs]; exact least_dots _ _ _ _ _
  have PG : Hid (picOk W H gs 1 = true) := Lib.hid (by rw [← hgs]; exact least_ok HN.out hp 1)
  have PS : Hid (picOk W H ss 1 = true) := Lib.hid (by rw [← hss]; exact least_ok HN.out hp 5)
  have LG : Hid (gs.length = n) := Lib.hid (by rw [← hgs]; exact least_len _ _ _ _ _)
  have LS : Hid (ss.length = n) := Lib.hid (by rw [← hss]; exact least_len _ _ _ _ _)
  have LT : Hid (ts.length = n) := Lib.hid (by rw [← hts]; exact least_len _ _ _ _ _)
  have PT : Hid (picOk W H ts 1 = true) := Lib.hid (by rw [← hts]; exact least_ok LG.out PG.out 5)
  have LN : Hid (ns.length = n) := Lib.hid (by rw [← hns]; simpa using HN.out)
  have PN : Hid (picOk W H ns 1 = true) := Lib.hid (by
    rw [← hns]
    refine picOk_mkW (picOk_bd HN.out hp).1 (by simpa using HN.out) hq ?_
    unfold within at hxw ⊢
    rw [List.all_eq_true] at hxw ⊢
    intro v hv
    obtain ⟨u, hu, rfl⟩ := List.mem_map.1 hv
    have h := hxw u hu
    simp at h ⊢
    omega)
  have CGP : Hid (∀ i, i < n → xs.getD i 0 ≤ gs.getD i 0) := Lib.hid (fun i hi => by rw [← hgs]; exact (grow_covers hw0 hnn hx hi).1)
  have CPS : Hid (∀ i, i < n → ss.getD i 0 ≤ xs.getD i 0) := Lib.hid (fun i hi => by rw [← hss]; exact (grow_covers hw0 hnn hx hi).2)
  have CTP : Hid (∀ i, i < n → xs.getD i 0 ≤ ts.getD i 0) := Lib.hid (fun i hi => by rw [← hts, ← hgs]; exact shrink_grown hw0 hnn hx hi)
  have EN : Hid (leastG W.toNat H.toNat ns n 1 = ms) := Lib.hid (by rw [← hms, ← hns, ← hss]; exact (shrink_negative hw0 hnn HN.out hx).symm)
  obtain ⟨g1, g2⟩ := gain_bd hw0 hh0 hnn HN.out hx
  rw [hgs, ha, hbb] at g1 g2
  have a0 : 0 ≤ a ∧ a ≤ 1024 := by
    rw [← ha]
    exact gain_small (W := W) (H := H) HN.out hxw (by omega)
  have XW : Hid (within xs 255 = true) := Lib.hid (within_255 hxw)
  have HO2 := Lib.hid (ho.alloc (.cells #[.int .i64 W, .int .i64 H, .slice (some ⟨g, 0, none⟩) n n] 25))
  have KP2 := Lib.hid (Blk.new w1 25 #[.int .i64 W, .int .i64 H, .slice (some ⟨g, 0, none⟩) n n])
  have HB2 := Lib.hid (bAlloc hb (.cells #[.int .i64 W, .int .i64 H, .slice (some ⟨g, 0, none⟩) n n] 25))
  obtain ⟨lp, p0, p1, p2⟩ := KP2.out.c3
  have EGS := Lib.hid hgs
  have ESS := Lib.hid hss
  have ETS := Lib.hid hts
  have ENS := Lib.hid hns
  have EMS := Lib.hid hms
  have EA := Lib.hid ha
  have EB := Lib.hid hbb
  clear ho hp hb hg hgs hss hts hns hms ha hbb hw0 hh0 hnn hxw hx hgd
  go_wp2_with fail
  refine (grow_call W H (some ⟨g, 0, none⟩) n n xs gs _ HN.out (by exact HO2.out.rd) (by omega) (Nat.le_refl _) HP.out EGS.out).mono ?_
  rintro e w3 ⟨ag, cg, rfl, hcg, ho, hb⟩
  have HG3 := Lib.hid (ho.alloc (.cells #[.int .i64 W, .int .i64 H, .slice ag n cg] 25))
  have HO3 := Lib.hid ((HO2.out.below hb HO2.out.lt).alloc (.cells #[.int .i64 W, .int .i64 H, .slice ag n cg] 25))
  have KP3 := Lib.hid ((KP2.out.below' hb).alloc (.cells #[.int .i64 W, .int .i64 H, .slice ag n cg] 25))
  have KG3 := Lib.hid (Blk.new w3 25 #[.int .i64 W, .int .i64 H, .slice ag n cg])
  have HB3 := Lib.hid (bAlloc (bTrans HB2.out hb) (.cells #[.int .i64 W, .int .i64 H, .slice ag n cg] 25))
  clear ho hb HO2 KP2 HB2 p0 p1 p2 lp
  obtain ⟨lp, p0, p1, p2⟩ := KP3.out.c3
  obtain ⟨lq, q0, q1, q2⟩ := KG3.out.c3
  go_wp2_with fail
  refine (shrink_call W H (some ⟨g, 0, none⟩) n n xs ss _ HN.out (by exact HO3.out.rd) (by omega) (Nat.le_refl _) HP.out ESS.out).mono ?_
  rintro e w4 ⟨az, cz, rfl, hcz, ho, hb⟩
  have HS4 := Lib.hid (ho.alloc (.cells #[.int .i64 W, .int .i64 H, .slice az n cz] 25))
  have HG4 := Lib.hid ((HG3.out.below' hb).alloc (.cells #[.int .i64 W, .int .i64 H, .slice az n cz] 25))
  have HO4 := Lib.hid ((HO3.out.below hb HO3.out.lt).alloc (.cells #[.int .i64 W, .int .i64 H, .slice az n cz] 25))
  have KP4 := Lib.hid ((KP3.out.below' hb).alloc (.cells #[.int .i64 W, .int .i64 H, .slice az n cz] 25))
  have KG4 := Lib.hid ((KG3.out.below' hb).alloc (.cells #[.int .i64 W, .int .i64 H, .slice az n cz] 25))
  have KS4 := Lib.hid (Blk.new w4 25 #[.int .i64 W, .int .i64 H, .slice az n cz])
  have HB4 := Lib.hid (bAlloc (bTrans HB3.out hb) (.cells #[.int .i64 W, .int .i64 H, .slice az n cz] 25))
  clear ho hb HO3 KP3 HB3 HG3 KG3 p0 p1 p2 lp q0 q1 q2 lq
  obtain ⟨wo, hwo⟩ : ∃ wo : World, wo = w4.alloc (.cells #[.int .i64 W, .int .i64 H, .slice az n cz] 25) := ⟨_, rfl⟩
  go_upto_region 6 with fail
  rw [← hwo] at HS4 HG4 HO4 KP4 KG4 KS4 HB4 ⊢
  clear hwo
  obtain ⟨lp, p0, p1, p2⟩ := KP4.out.c3
  obtain ⟨lq, q0, q1, q2⟩ := KG4.out.c3
  obtain ⟨ls, s0, s1, s2⟩ := KS4.out.c3
  have MK : Hid (∀ v, BelowL wo v → v.cell? ⟨w1.heap.size, 0, none⟩ = some (.int .i64 W) ∧ v.cell? ⟨w1.heap.size, 1, none⟩ = some (.int .i64 H) ∧ v.cell? ⟨w1.heap.size, 2, none⟩ = some (.slice (some ⟨g, 0, none⟩) n n) ∧ v.cell? ⟨w3.heap.size, 0, none⟩ = some (.int .i64 W) ∧ v.cell? ⟨w3.heap.size, 1, none⟩ = some (.int .i64 H) ∧ v.cell? ⟨w3.heap.size, 2, none⟩ = some (.slice ag n cg) ∧ v.cell? ⟨w4.heap.size, 0, none⟩ = some (.int .i64 W) ∧ v.cell? ⟨w4.heap.size, 1, none⟩ = some (.int .i64 H) ∧ v.cell? ⟨w4.heap.size, 2, none⟩ = some (.slice az n cz) ∧ BelowL wo v) := Lib.hid (fun v h => ⟨(h.out.cell lp).trans p0, (h.out.cell lp).trans p1, (h.out.cell lp).trans p2, (h.out.cell lq).trans q0, (h.out.cell lq).trans q1, (h.out.cell lq).trans q2, (h.out.cell ls).trans s0, (h.out.cell ls).trans s1, (h.out.cell ls).trans s2, h⟩)
  have RP : Hid (∀ v, BelowL wo v → Rd v (some ⟨g, 0, none⟩) xs) := Lib.hid (fun v hv => HO4.out.rd.below hv.out)
  have RG : Hid (∀ v, BelowL wo v → Rd v ag gs) := Lib.hid (fun v hv => HG4.out.rd.below hv.out)
  have RS : Hid (∀ v, BelowL wo v → Rd v az ss) := Lib.hid (fun v hv => HS4.out.rd.below hv.out)
  have C1 : Hid (∀ v, BelowL wo v → Calls Try.prog 25 #[.agg #[.int .i64 W, .int .i64 H, .slice ag n cg], .agg #[.int .i64 W, .int .i64 H, .slice (some ⟨g, 0, none⟩) n n]] v fun e v' => e = .returned (.bool true) ∧ Below v.heap.size v v') := Lib.hid (fun v hv => covp_call W H _ n _ _ _ _ _ v LG.out (RG.out v hv) (by omega) HN.out (RP.out v hv) PG.out HP.out CGP.out)
  have C2 : Hid (∀ v, BelowL wo v → Calls Try.prog 25 #[.agg #[.int .i64 W, .int .i64 H, .slice (some ⟨g, 0, none⟩) n n], .agg #[.int .i64 W, .int .i64 H, .slice az n cz]] v fun e v' => e = .returned (.bool true) ∧ Below v.heap.size v v') := Lib.hid (fun v hv => covp_call W H _ n _ _ _ _ _ v HN.out (RP.out v hv) (by omega) LS.out (RS.out v hv) HP.out PS.out CPS.out)
  have C3 : Hid (∀ v, BelowL wo v → Calls Try.prog 24 #[.agg #[.int .i64 W, .int .i64 H, .slice ag n cg]] v (PicY v W H n ts)) := Lib.hid (fun v hv => shrink_call W H _ n _ _ _ v LG.out (RG.out v hv) (by omega) hcg PG.out ETS.out)
  go_region_held3 (fun v => v.cell? ⟨w1.heap.size, 0, none⟩ = some (.int .i64 W) ∧ v.cell? ⟨w1.heap.size, 1, none⟩ = some (.int .i64 H) ∧ v.cell? ⟨w1.heap.size, 2, none⟩ = some (.slice (some ⟨g, 0, none⟩) n n) ∧ v.cell? ⟨w3.heap.size, 0, none⟩ = some (.int .i64 W) ∧ v.cell? ⟨w3.heap.size, 1, none⟩ = some (.int .i64 H) ∧ v.cell? ⟨w3.heap.size, 2, none⟩ = some (.slice ag n cg) ∧ v.cell? ⟨w4.heap.size, 0, none⟩ = some (.int .i64 W) ∧ v.cell? ⟨w4.heap.size, 1, none⟩ = some (.int .i64 H) ∧ v.cell? ⟨w4.heap.size, 2, none⟩ = some (.slice az n cz) ∧ BelowL wo v)
    (first | exact MK.out _ hb4 | exact MK.out _ hb3 | exact MK.out _ hb2 | exact MK.out _ hb1 | exact MK.out _ (BelowL.start _))
    (first
      | (go_at_call 25; ((with_reducible refine (C1.out _ (limb10 (by assumption))).mono ?_); rintro e v1 ⟨rfl, hq1⟩; have hb1 := BelowL.call (limb10 (by assumption)) hq1))
      | (go_at_call 25; ((with_reducible refine (C2.out _ (limb10 (by assumption))).mono ?_); rintro e v2 ⟨rfl, hq2⟩; have hb2 := BelowL.call (limb10 (by assumption)) hq2))
      | (go_at_call 24; ((with_reducible refine (C3.out _ (limb10 (by assumption))).mono ?_); rintro e v3 ⟨at3, ct3, rfl, hct3, ho3, hq3⟩; have hb3 := BelowL.call (limb10 (by assumption)) hq3; have HT := Lib.hid ho3; clear ho3))
      | (go_at_call 25; ((with_reducible refine (covp_call W H at3 n ct3 ts (some ⟨g, 0, none⟩) n xs _ LT.out (by exact HT.out.rd) (by omega) HN.out (RP.out _ (limb10 (by assumption))) PT.out HP.out CTP.out).mono ?_); rintro e v4 ⟨rfl, hq4⟩; have hb4 := BelowL.call (limb10 (by assumption)) hq4)))
  have HV := Lib.hid (hb4)
  have DV := Lib.hid (MK.out _ hb4)
  clear hq1 hq2 hq3 hq4 hb1 hb2 hb3 hb4 C1 C2 C3 HT
  obtain ⟨d0, d1, d2, d3, d4, d5, d6, d7, d8, d9⟩ := DV.out
  go_wp2_with fail
  refine (snegp_call W H (some ⟨g, 0, none⟩) n n xs ns _ HN.out (by exact RP.out _ HV.out) (by omega) HP.out ENS.out).mono ?_
  rintro e w5 ⟨an, cn, rfl, hcn, ho, hb⟩
  have HNS5 := Lib.hid (ho.alloc (.cells #[.int .i64 W, .int .i64 H, .slice an n cn] 25))
  have HV5 := Lib.hid ((HV.out.call hb).alloc (.cells #[.int .i64 W, .int .i64 H, .slice an n cn] 25))
  have DV5 := Lib.hid (MK.out _ HV5.out)
  have KN5 := Lib.hid (Blk.new w5 25 #[.int .i64 W, .int .i64 H, .slice an n cn])
  clear ho hb d0 d1 d2 d3 d4 d5 d6 d7 d8 d9
  obtain ⟨d0, d1, d2, d3, d4, d5, d6, d7, d8, d9⟩ := DV5.out
  go_wp2_with fail
  refine (gainp_call W H (some ⟨g, 0, none⟩) n n xs (b - a) _ HN.out (by exact RP.out _ HV5.out) (by omega) (Nat.le_refl _) HP.out (by rw [EGS.out, EB.out, EA.out])).mono ?_
  rintro e wq ⟨rfl, hb⟩
  have HNQ := Lib.hid (HNS5.out.below' hb)
  have HVQ := Lib.hid (HV5.out.call hb)
  have KNQ := Lib.hid (KN5.out.below' hb)
  clear hb d0 d1 d2 d3 d4 d5 d6 d7 d8 d9 lp p0 p1 p2 lq q0 q1 q2 ls s0 s1 s2 HNS5 HV5 KN5
  have KPQ := Lib.hid (KP4.out.below' HVQ.out.out)
  have KGQ := Lib.hid (KG4.out.below' HVQ.out.out)
  have KSQ := Lib.hid (KS4.out.below' HVQ.out.out)
  have HBQ := Lib.hid (bTrans HB4.out HVQ.out.out)
  obtain ⟨lp, p0, p1, p2⟩ := KPQ.out.c3
  obtain ⟨lq, q0, q1, q2⟩ := KGQ.out.c3
  obtain ⟨ls, s0, s1, s2⟩ := KSQ.out.c3
  obtain ⟨ln, u0, u1, u2⟩ := KNQ.out.c3
  have MQ : Hid (∀ v, BelowL wq v → v.cell? ⟨w1.heap.size, 0, none⟩ = some (.int .i64 W) ∧ v.cell? ⟨w1.heap.size, 1, none⟩ = some (.int .i64 H) ∧ v.cell? ⟨w1.heap.size, 2, none⟩ = some (.slice (some ⟨g, 0, none⟩) n n) ∧ v.cell? ⟨w3.heap.size, 0, none⟩ = some (.int .i64 W) ∧ v.cell? ⟨w3.heap.size, 1, none⟩ = some (.int .i64 H) ∧ v.cell? ⟨w3.heap.size, 2, none⟩ = some (.slice ag n cg) ∧ v.cell? ⟨w4.heap.size, 0, none⟩ = some (.int .i64 W) ∧ v.cell? ⟨w4.heap.size, 1, none⟩ = some (.int .i64 H) ∧ v.cell? ⟨w4.heap.size, 2, none⟩ = some (.slice az n cz) ∧ v.cell? ⟨w5.heap.size, 0, none⟩ = some (.int .i64 W) ∧ v.cell? ⟨w5.heap.size, 1, none⟩ = some (.int .i64 H) ∧ v.cell? ⟨w5.heap.size, 2, none⟩ = some (.slice an n cn) ∧ BelowL wq v) := Lib.hid (fun v h => ⟨(h.out.cell lp).trans p0, (h.out.cell lp).trans p1, (h.out.cell lp).trans p2, (h.out.cell lq).trans q0, (h.out.cell lq).trans q1, (h.out.cell lq).trans q2, (h.out.cell ls).trans s0, (h.out.cell ls).trans s1, (h.out.cell ls).trans s2, (h.out.cell ln).trans u0, (h.out.cell ln).trans u1, (h.out.cell ln).trans u2, h⟩)
  have XP : Hid (∀ v, BelowL wq v → Rd v (some ⟨g, 0, none⟩) xs) := Lib.hid (fun v hv => (RP.out _ HVQ.out).below hv.out)
  have XG : Hid (∀ v, BelowL wq v → Rd v ag gs) := Lib.hid (fun v hv => (RG.out _ HVQ.out).below hv.out)
  have XS : Hid (∀ v, BelowL wq v → Rd v az ss) := Lib.hid (fun v hv => (RS.out _ HVQ.out).below hv.out)
  have XN : Hid (∀ v, BelowL wq v → Rd v an ns) := Lib.hid (fun v hv => HNQ.out.rd.below hv.out)
  clear RP RG RS MK
  have LM : Hid (ms.length = n) := Lib.hid (by rw [← EMS.out]; simpa using LS.out)
  have C1 : Hid (∀ v, BelowL wq v → Calls Try.prog 26 #[.agg #[.int .i64 W, .int .i64 H, .slice az n cz]] v (PicY v W H n ms)) := Lib.hid (fun v hv => snegp_call W H _ n _ _ _ v LS.out (XS.out v hv) (by omega) PS.out EMS.out)
  have C2 : Hid (∀ v, BelowL wq v → Calls Try.prog 23 #[.agg #[.int .i64 W, .int .i64 H, .slice an n cn]] v (PicY v W H n ms)) := Lib.hid (fun v hv => grow_call W H _ n _ _ _ v LN.out (XN.out v hv) (by omega) hcn PN.out EN.out)
  have C4 : Hid (∀ v, BelowL wq v → Calls Try.prog 29 #[.agg #[.int .i64 W, .int .i64 H, .slice ag n cg]] v fun e v' => e = .returned (.int .i64 b) ∧ Below v.heap.size v v') := Lib.hid (fun v hv => sump_call W H _ n _ _ _ v LG.out (XG.out v hv) PG.out (by omega) EB.out)
  have C5 : Hid (∀ v, BelowL wq v → Calls Try.prog 18 #[.slice (some ⟨g, 0, none⟩) n n] v fun e v' => e = .returned (.int .i64 a) ∧ Below v.heap.size v v') := Lib.hid (fun v hv => totp_call _ n _ _ _ v HN.out (XP.out v hv) XW.out (by omega) EA.out)
  have hw1 : IntKind.i64.wrap (b - a) = b - a := IntWalk.i64_in _ (by omega)
  have hw2 : IntKind.i64.wrap (4 * a) = 4 * a := IntWalk.i64_in _ (by omega)
  have hge : 0 ≤ b - a := by omega
  have hle : b - a ≤ 4 * a := by omega
  go_upto_region 10 with fail
  go_region_held3 (fun v => v.cell? ⟨w1.heap.size, 0, none⟩ = some (.int .i64 W) ∧ v.cell? ⟨w1.heap.size, 1, none⟩ = some (.int .i64 H) ∧ v.cell? ⟨w1.heap.size, 2, none⟩ = some (.slice (some ⟨g, 0, none⟩) n n) ∧ v.cell? ⟨w3.heap.size, 0, none⟩ = some (.int .i64 W) ∧ v.cell? ⟨w3.heap.size, 1, none⟩ = some (.int .i64 H) ∧ v.cell? ⟨w3.heap.size, 2, none⟩ = some (.slice ag n cg) ∧ v.cell? ⟨w4.heap.size, 0, none⟩ = some (.int .i64 W) ∧ v.cell? ⟨w4.heap.size, 1, none⟩ = some (.int .i64 H) ∧ v.cell? ⟨w4.heap.size, 2, none⟩ = some (.slice az n cz) ∧ v.cell? ⟨w5.heap.size, 0, none⟩ = some (.int .i64 W) ∧ v.cell? ⟨w5.heap.size, 1, none⟩ = some (.int .i64 H) ∧ v.cell? ⟨w5.heap.size, 2, none⟩ = some (.slice an n cn) ∧ BelowL wq v)
    (first | exact MQ.out _ hb6 | exact MQ.out _ hb5 | exact MQ.out _ hb4 | exact MQ.out _ hb3 | exact MQ.out _ hb2 | exact MQ.out _ hb1 | exact MQ.out _ (BelowL.start _))
    (first
      | (go_at_call 26; ((with_reducible refine (C1.out _ (limb13 (by assumption))).mono ?_); rintro e v1 ⟨a1, c1, rfl, hc1, ho1, hq1⟩; have hb1 := BelowL.call (limb13 (by assumption)) hq1; have H1 := Lib.hid ho1; clear ho1))
      | (go_at_call 23; ((with_reducible refine (C2.out _ (limb13 (by assumption))).mono ?_); rintro e v2 ⟨a2, c2, rfl, hc2, ho2, hq2⟩; have hb2 := BelowL.call (limb13 (by assumption)) hq2; have H2 := Lib.hid ho2; have H12 := Lib.hid (H1.out.below' hq2); clear ho2))
      | (go_at_call 28; ((with_reducible refine (same_call6 W H a1 n c1 ms a2 n c2 ms _ LM.out (by exact H12.out.rd) (by omega) LM.out (by exact H2.out.rd) (by omega) rfl).mono ?_); rintro e v3 ⟨rfl, hq3⟩; have hb3 := BelowL.call (limb13 (by assumption)) hq3))
      | (go_at_call 29; ((with_reducible refine (C4.out _ (limb13 (by assumption))).mono ?_); rintro e v4 ⟨rfl, hq4⟩; have hb4 := BelowL.call (limb13 (by assumption)) hq4))
      | (go_at_call 18; ((with_reducible refine (C5.out _ (limb13 (by assumption))).mono ?_); first | (rintro e v5 ⟨rfl, hq5⟩; have hb5 := BelowL.call (limb13 (by assumption)) hq5))))
  have HBF := Lib.hid (bTrans HBQ.out hb5.out)
  go_wp2_with fail
  go_ret
  exact ⟨rfl, HBF.out⟩

set_option maxHeartbeats 400000 in
theorem big (ad0 : Option Addr) (n0 cap0 : Nat) (w : World) (h : 1048576 < n0) (hl : n0 ≤ 9223372036854775807) :
    Calls Try.prog 6 #[.slice ad0 n0 cap0] w fun e w' => e = .returned (.bool true) ∧ Below w.heap.size w w' := by
  have h2 : (1048576 : Int) < (n0 : Int) := by omega
  go_enter Try.func6, Try.ntmps6
  go_wp2_with fail
  go_ret
  exact ⟨rfl, Below.refl _ _⟩

set_option maxRecDepth 100000 in
theorem lifted (os : Os) (started : os.Started) (H : Type) (enc : TypeId × Value → H) :
    ReturnsInHanded {} Try.checked os 6 .any (Rows.fnGrownSpec.pre6 enc Try.prog Try.f6 Rows.fnGrownRow.domain false) (Rows.fnGrownSpec.post enc Try.prog Try.f6 false true false false) := by
  refine returnsInHanded_of_change (C := Try.checked) own started (by kernel_rfl) Try.func6
    (ChangeSpec.witness6 (enc := enc) (C := Try.checked) false ⟨#[], #[.slice none 0 0], []⟩ 8 (by kernel_rfl) (by kernel_rfl) (by kernel_rfl) (by kernel_rfl)) ?_
  intro W base args ds gs before hval0 hW hcnd _
  have hval : ∀ (j : Nat) t v, Try.f6.params[j]? = some t → args[j]? = some v → Value.okWide Try.prog W .any base t v := hval0
  have hW' := hW
  have hlt := hW.lt
  obtain ⟨p, q, hA0, hV, rfl, hfz, hnd⟩ := hW
  have hA : DataW.TrodAll enc Try.prog W 0 (fun _ => true) true Try.f6.params.toList args.toList ds p := hA0
  rw [Try.params6] at hA hval
  obtain ⟨v0, vs0, d0, ds0, p0, q0, hargs, rfl, rfl, h0, r0⟩ := trodAll_cons hA
  obtain ⟨rfl, rfl, rfl⟩ := trodAll_nil r0
  obtain rfl : args = #[v0] := by cases args; simp_all
  obtain ⟨rfl, rfl⟩ := trodVars_none hV
  clear hA0 hval0
  obtain ⟨ad0, n0, cap0, bs0, rfl, hn0, hr0, hl0⟩ := open_code (hval 0 22 v0 rfl rfl) h0 (fun x hx => hlt x (by simp [hx]))
  have fin : ∀ (e : Ending) W', (e = .returned (.bool true) ∧ Below W.heap.size W W') → ∃ v, e = .returned v ∧ Rows.fnGrownSpec.post enc Try.prog Try.f6 false true false false W #[.slice ad0 n0 cap0] v W' := by
    rintro e W' ⟨rfl, hb⟩
    exact ⟨_, rfl, law_post rfl rfl hW' (by kernel_rfl) rfl hb⟩
  by_cases hs0 : n0 ≤ 1048576
  case neg => exact (big ad0 n0 cap0 W (by omega) hl0).mono fin
  case pos => exact (ok ad0 n0 cap0 bs0 W hn0 hr0 hs0).mono fin

theorem proved : Rows.FnGrownSaid :=
  OpenClaim.holds_of_wide 6 Try.f6 rfl rfl rfl rfl rfl rfl rfl ⟨rfl, rfl, rfl, rfl, rfl⟩ rfl rfl rfl rfl rfl (by kernel_rfl) Try.func6 (by kernel_rfl)
    (of_decide_eq_true (by kernel_rfl)) (by unfold Func.isWrapper; first | (rw [if_pos (by decide +kernel)]; kernel_rfl) | (rw [if_neg (by decide +kernel)]; exact ⟨rfl, rfl⟩))
    (fun os started H enc _ => lifted os started H enc)

end Go.Proofs.Ytkjhpfgcmbigfaa.lGrown
