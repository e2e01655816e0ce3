/-
  FnSpots: a square of a period has each name equally often, so that the level tells the dots, and a greater level keeps them: the law returns true for every code. No conditions.
-/
import Derived.Test.YtflegojobchgdaaN24
import Derived.Test.YtflegojobchgdaaC2
import Derived.Test.YtflegojobchgdaaC10
import Derived.Test.YtflegojobchgdaaRLb
import Derived.Test.YtflegojobchgdaaFrameC
namespace Go.Proofs.Ytflegojobchgdaa.lSpots
open Go.ChangeShapes Go.WideShapes Go.ChangeAt Go.RowKit
set_option linter.unusedVariables false
set_option linter.unusedSimpArgs false

theorem mod_of (v N : Nat) (h2 : N ≤ 288) : ∃ k : Nat, (v : Int).tmod ((N : Int) + 1) = (k : Int) ∧ (v : Int) % ((N : Int) + 1) = (k : Int) ∧ IntKind.i64.wrap (k : Int) = (k : Int) ∧ k ≤ N := by
  have e := Int.tmod_eq_emod_of_nonneg (b := (N : Int) + 1) (show 0 ≤ (v : Int) by omega)
  have m1 := Int.emod_nonneg (v : Int) (show (N : Int) + 1 ≠ 0 by omega)
  have m2 := Int.emod_lt_of_pos (v : Int) (show 0 < (N : Int) + 1 by omega)
  obtain ⟨k, hk⟩ : ∃ k : Nat, (v : Int) % ((N : Int) + 1) = (k : Int) := ⟨((v : Int) % ((N : Int) + 1)).toNat, by omega⟩
  exact ⟨k, by rw [e, hk], hk, IntWalk.i64_in _ (by omega), by omega⟩

theorem quo_of (n N : Nat) (h1 : 1 ≤ N) (h2 : n ≤ 1024) : (n : Int).tdiv (N : Int) = ((n / N : Nat) : Int) ∧ IntKind.i64.wrap ((n / N : Nat) : Int) = ((n / N : Nat) : Int) ∧ n / N ≤ 1024 := by
  have h := Nat.div_le_self n N
  have e : (n : Int).tdiv (N : Int) = ((n / N : Nat) : Int) := by rw [Int.tdiv_eq_ediv_of_nonneg (by omega)]; rfl
  obtain ⟨c, hc⟩ : ∃ c, n / N = c := ⟨_, rfl⟩
  rw [hc] at h e ⊢
  exact ⟨e, IntWalk.i64_in _ (by omega), by omega⟩

theorem plate_call {A B d : Int} {N : Nat} {g a b p q : Int} (L : Lat A B (N : Int) g d a b p q) (lv : Int) (m : Nat) (nm : Nat → Nat) (hnm : Named A B d m nm) (l1 : 0 ≤ lv) (l2 : lv ≤ N) (hs : sizeOk d d = true) (hq : (m : Int) = d * d) (w : World) :
    Calls Try.prog 18 #[.agg #[.int .i64 A, .int .i64 B], .int .i64 lv, .int .i64 d, .int .i64 d] w fun e w' => ∃ a n c, e = .returned (.tuple #[.agg #[.int .i64 d, .int .i64 d, .slice a n c], .bool true]) ∧ OwnA w' w.heap.size a n c (gen m (plateG A B d N nm lv)) ∧ n ≤ 1048576 ∧ Below w.heap.size w w' :=
  impl_SpotPlate_yes L lv d d m nm hnm l1 l2 hs hq w

set_option maxRecDepth 100000 in
set_option maxHeartbeats 3200000 in
theorem ok (ad0 : Option Addr) (n0 cap0 : Nat) (bs0 : List Int) (w : World) (hn0 : bs0.length = n0) (hr0 : RdU w.heap.size w ad0 bs0) (hs0 : n0 ≤ 1048576) :
    Calls Try.prog 5 #[.slice ad0 n0 cap0] w fun e w' => e = .returned (.bool true) ∧ Below w.heap.size w w' := by
  have HL := Lib.hid hn0
  have HC := Lib.hid hr0
  clear hn0 hr0
  go_enter Try.func5, Try.ntmps5
  go_wp2_with fail
  refine (lat_call ad0 n0 cap0 bs0 _ HL.out (by exact HC.out) (by omega)).mono ?_
  rintro e w1 ⟨A, B, rfl, hm, hb⟩
  obtain ⟨a1, a2, b1, b2, hok⟩ := lat_list hm
  obtain ⟨n, g, d, a, b, p, q, hLat⟩ := lat_of hok
  have n1 := hLat.n1
  have n2 := hLat.n2
  obtain ⟨N, rfl⟩ : ∃ N : Nat, n = N := ⟨n.toNat, by omega⟩
  have hss := square_size hLat hm
  obtain ⟨s1, s2, s3, s4, s5, s6⟩ := sizeOk_bd hss
  obtain ⟨m, hq⟩ : ∃ m : Nat, (m : Int) = d * d := ⟨_, (toNat_mul hss).1⟩
  obtain ⟨nm, hnm⟩ := named_ex hLat d m
  have T := Lib.hid hLat
  have HM : Hid ((A, B) ∈ lats16) := Lib.hid hm
  have HS := Lib.hid hss
  have HQ := Lib.hid hq
  have HNM := Lib.hid hnm
  have KP1 := Lib.hid (Blk.new w1 24 #[.int .i64 A, .int .i64 B])
  have HB1 := Lib.hid (bAlloc hb (.cells #[.int .i64 A, .int .i64 B] 24))
  have m1 : m ≤ 1024 := by omega
  clear hb hLat hok hm hss hq hnm s5 s6
  go_wp2_with fail
  refine (spec_AreaOf_yes T.out _).mono ?_
  rintro e w2 ⟨rfl, hb⟩
  have HB2 := Lib.hid (bTrans HB1.out hb)
  have KP2 := Lib.hid (KP1.out.below' hb)
  clear hb
  obtain ⟨z, c0, c1⟩ := KP2.out.c2
  go_wp2_with fail
  refine (spec_PeriodOf_yes T.out _).mono ?_
  rintro e w3 ⟨rfl, hb⟩
  have HB3 := Lib.hid (bTrans HB2.out hb)
  have KP3 := Lib.hid (KP2.out.below' hb)
  clear hb z c0 c1
  go_wp2_with fail
  refine (at_callL _ ad0 n0 cap0 bs0 1 _ HL.out (by exact HC.out.below HB3.out) (by omega) (by omega)).mono ?_
  rintro e wv ⟨u1, rfl, hu1, rfl⟩
  obtain ⟨k, t1, t2, t3, k1⟩ := mod_of u1 N (by omega)
  have HT2 := Lib.hid t2
  clear t2
  go_wp2_with fail
  refine (at_callL _ ad0 n0 cap0 bs0 2 _ HL.out (by exact HC.out.below HB3.out) (by omega) (by omega)).mono ?_
  rintro e wv ⟨u2, rfl, hu2, rfl⟩
  obtain ⟨k2, t4, t5, t6, k3⟩ := mod_of u2 N (by omega)
  have HT5 := Lib.hid t5
  clear t5
  obtain ⟨z, c0, c1⟩ := KP3.out.c2
  have kk : k ≤ N := k1
  by_cases hle : k + k2 < N
  · obtain ⟨lv, hlv⟩ : ∃ lv : Nat, k + k2 = lv := ⟨_, rfl⟩
    have e9 : (k : Int) + (k2 : Int) = (lv : Int) := by omega
    have e10 : (lv : Int) < (N : Int) := by omega
    have l1 : lv ≤ N := by omega
    have l2 : k ≤ lv := by omega
    have e11 : IntKind.i64.wrap (lv : Int) = lv := IntWalk.i64_in _ (by omega)
    clear hlv hle
    go_wp2_with fail
    refine (plate_call T.out (k : Int) m nm HNM.out (by omega) (by omega) HS.out HQ.out _).mono ?_
    rintro e w4 ⟨ap, np, cp, rfl, ho, hnp, hb⟩
    have KP4 := Lib.hid ((KP3.out.below' hb).alloc (.cells #[.int .i64 d, .int .i64 d, .slice ap np cp] 35))
    have KA4 := Lib.hid (Blk.new w4 35 #[.int .i64 d, .int .i64 d, .slice ap np cp])
    have HOP4 := Lib.hid (ho.alloc (.cells #[.int .i64 d, .int .i64 d, .slice ap np cp] 35))
    have HB4 := Lib.hid (bAlloc (bTrans HB3.out hb) (.cells #[.int .i64 d, .int .i64 d, .slice ap np cp] 35))
    clear hb ho z c0 c1
    obtain ⟨z, c0, c1⟩ := KP4.out.c2
    go_wp2_with fail
    refine (plate_call T.out (lv : Int) m nm HNM.out (by omega) (by omega) HS.out HQ.out _).mono ?_
    rintro e w5 ⟨aq, nq, cq, rfl, ho, hnq, hb⟩
    have KA5 := Lib.hid ((KA4.out.below' hb).alloc (.cells #[.int .i64 d, .int .i64 d, .slice aq nq cq] 35))
    have KQ5 := Lib.hid (Blk.new w5 35 #[.int .i64 d, .int .i64 d, .slice aq nq cq])
    have HOP5 := Lib.hid ((HOP4.out.below' hb).alloc (.cells #[.int .i64 d, .int .i64 d, .slice aq nq cq] 35))
    have HOQ5 := Lib.hid (ho.alloc (.cells #[.int .i64 d, .int .i64 d, .slice aq nq cq] 35))
    have HB5 := Lib.hid (bAlloc (bTrans HB4.out hb) (.cells #[.int .i64 d, .int .i64 d, .slice aq nq cq] 35))
    clear hb ho z c0 c1
    go_wp2_with fail
    obtain ⟨wo, hwo⟩ : ∃ wo : World, wo = w5.alloc (.cells #[.int .i64 d, .int .i64 d, .slice aq nq cq] 35) := ⟨_, rfl⟩
    rw [← hwo] at KA5 KQ5 HOP5 HOQ5 HB5 ⊢
    clear hwo
    obtain ⟨f1, f2, f3⟩ := quo_of m N (by omega) m1
    have hcnt := plate_count T.out HM.out m HQ.out nm HNM.out k k1
    obtain ⟨c, hc⟩ : ∃ c, m / N = c := ⟨_, rfl⟩
    rw [hc] at f1 f2 f3 hcnt
    have kc : k * c ≤ 288 * 1024 := Nat.mul_le_mul (by omega) f3
    obtain ⟨C, hC⟩ : ∃ C, k * c = C := ⟨_, rfl⟩
    rw [hC] at hcnt kc
    have e1 : d * d = (m : Int) := HQ.out.symm
    have e2 : IntKind.i64.wrap (m : Int) = m := IntWalk.i64_in _ (by omega)
    have e5 : (k : Int) * (c : Int) = (C : Int) := by rw [← hC]; simp
    have e6 : IntKind.i64.wrap (C : Int) = C := IntWalk.i64_in _ (by omega)
    have z1 : ¬ (N : Int) = 0 := by omega
    have z2 : ((N : Int) == 0) = false := by simp; omega
    have z3 : ¬ N = 0 := by omega
    have z4 : (N == 0) = false := by simp; omega
    have CA : Hid (∀ v, BelowL wo v → Calls Try.prog 19 #[.agg #[.int .i64 d, .int .i64 d, .slice ap np cp], .int .i64 1] v fun e v' => e = .returned (.int .i64 (C : Int)) ∧ Below v.heap.size v v') := Lib.hid (fun v hv => by
      have h := impl_CountInk d d ap np cp (gen m (plateG A B d N nm k)) 1 v HOP5.out.len (HOP5.out.rd.below hv.out) (by omega)
      rw [hcnt] at h
      exact h)
    have CV : Hid (∀ v, BelowL wo v → Calls Try.prog 20 #[.agg #[.int .i64 d, .int .i64 d, .slice aq nq cq], .agg #[.int .i64 d, .int .i64 d, .slice ap np cp]] v fun e v' => e = .returned (.bool true) ∧ Below v.heap.size v v') := Lib.hid (fun v hv => by
      have h := impl_CoversPicture d d aq nq cq (gen m (plateG A B d N nm lv)) d d ap np cp (gen m (plateG A B d N nm k)) v HOQ5.out.len (HOQ5.out.rd.below hv.out) (by omega) HOP5.out.len (HOP5.out.rd.below hv.out) (by omega)
      rw [plate_covers A B d N nm (k : Int) (lv : Int) (by omega) HS.out HQ.out] at h
      exact h)
    obtain ⟨za, p0, p1, p2⟩ := KA5.out.c3
    obtain ⟨zq, q0, q1, q2⟩ := KQ5.out.c3
    have MK : Hid (∀ v, BelowL wo v → v.cell? ⟨w4.heap.size, 0, none⟩ = some (.int .i64 d) ∧ v.cell? ⟨w4.heap.size, 1, none⟩ = some (.int .i64 d) ∧ v.cell? ⟨w4.heap.size, 2, none⟩ = some (.slice ap np cp) ∧ v.cell? ⟨w5.heap.size, 0, none⟩ = some (.int .i64 d) ∧ v.cell? ⟨w5.heap.size, 1, none⟩ = some (.int .i64 d) ∧ v.cell? ⟨w5.heap.size, 2, none⟩ = some (.slice aq nq cq) ∧ BelowL wo v) := Lib.hid (fun v h => ⟨(h.out.cell za).trans p0, (h.out.cell za).trans p1, (h.out.cell za).trans p2, (h.out.cell zq).trans q0, (h.out.cell zq).trans q1, (h.out.cell zq).trans q2, h⟩)
    clear hc hC hcnt
    go_region_held3 (fun v => v.cell? ⟨w4.heap.size, 0, none⟩ = some (.int .i64 d) ∧ v.cell? ⟨w4.heap.size, 1, none⟩ = some (.int .i64 d) ∧ v.cell? ⟨w4.heap.size, 2, none⟩ = some (.slice ap np cp) ∧ v.cell? ⟨w5.heap.size, 0, none⟩ = some (.int .i64 d) ∧ v.cell? ⟨w5.heap.size, 1, none⟩ = some (.int .i64 d) ∧ v.cell? ⟨w5.heap.size, 2, none⟩ = some (.slice aq nq cq) ∧ BelowL wo v)
      (first | exact MK.out _ hb2 | exact MK.out _ hb1 | exact MK.out _ (BelowL.start _))
      (first
        | (go_at_call 19; ((with_reducible refine (CA.out _ (limb7 (by assumption))).mono ?_); rintro e v1 ⟨rfl, hq1⟩; have hb1 := BelowL.call (limb7 (by assumption)) hq1))
        | (go_at_call 20; ((with_reducible refine (CV.out _ (limb7 (by assumption))).mono ?_); rintro e v2 ⟨rfl, hq2⟩; have hb2 := BelowL.call (limb7 (by assumption)) hq2)))
    have HB6 := Lib.hid (bTrans HB5.out hb2.out)
    go_wp2_with fail
    go_ret
    exact ⟨rfl, HB6.out⟩
  · have l1 : N ≤ N := Nat.le_refl _
    have l2 : k ≤ N := k1
    have e10 : (N : Int) ≤ (k : Int) + (k2 : Int) := by omega
    have e11 : IntKind.i64.wrap ((k : Int) + (k2 : Int)) = (k : Int) + (k2 : Int) := IntWalk.i64_in _ (by omega)
    clear hle
    go_wp2_with fail
    refine (plate_call T.out (k : Int) m nm HNM.out (by omega) (by omega) HS.out HQ.out _).mono ?_
    rintro e w4 ⟨ap, np, cp, rfl, ho, hnp, hb⟩
    have KP4 := Lib.hid ((KP3.out.below' hb).alloc (.cells #[.int .i64 d, .int .i64 d, .slice ap np cp] 35))
    have KA4 := Lib.hid (Blk.new w4 35 #[.int .i64 d, .int .i64 d, .slice ap np cp])
    have HOP4 := Lib.hid (ho.alloc (.cells #[.int .i64 d, .int .i64 d, .slice ap np cp] 35))
    have HB4 := Lib.hid (bAlloc (bTrans HB3.out hb) (.cells #[.int .i64 d, .int .i64 d, .slice ap np cp] 35))
    clear hb ho z c0 c1
    obtain ⟨z, c0, c1⟩ := KP4.out.c2
    go_wp2_with fail
    refine (plate_call T.out (N : Int) m nm HNM.out (by omega) (by omega) HS.out HQ.out _).mono ?_
    rintro e w5 ⟨aq, nq, cq, rfl, ho, hnq, hb⟩
    have KA5 := Lib.hid ((KA4.out.below' hb).alloc (.cells #[.int .i64 d, .int .i64 d, .slice aq nq cq] 35))
    have KQ5 := Lib.hid (Blk.new w5 35 #[.int .i64 d, .int .i64 d, .slice aq nq cq])
    have HOP5 := Lib.hid ((HOP4.out.below' hb).alloc (.cells #[.int .i64 d, .int .i64 d, .slice aq nq cq] 35))
    have HOQ5 := Lib.hid (ho.alloc (.cells #[.int .i64 d, .int .i64 d, .slice aq nq cq] 35))
    have HB5 := Lib.hid (bAlloc (bTrans HB4.out hb) (.cells #[.int .i64 d, .int .i64 d, .slice aq nq cq] 35))
    clear hb ho z c0 c1
    go_wp2_with fail
    obtain ⟨wo, hwo⟩ : ∃ wo : World, wo = w5.alloc (.cells #[.int .i64 d, .int .i64 d, .slice aq nq cq] 35) := ⟨_, rfl⟩
    rw [← hwo] at KA5 KQ5 HOP5 HOQ5 HB5 ⊢
    clear hwo
    obtain ⟨f1, f2, f3⟩ := quo_of m N (by omega) m1
    have hcnt := plate_count T.out HM.out m HQ.out nm HNM.out k k1
    obtain ⟨c, hc⟩ : ∃ c, m / N = c := ⟨_, rfl⟩
    rw [hc] at f1 f2 f3 hcnt
    have kc : k * c ≤ 288 * 1024 := Nat.mul_le_mul (by omega) f3
    obtain ⟨C, hC⟩ : ∃ C, k * c = C := ⟨_, rfl⟩
    rw [hC] at hcnt kc
    have e1 : d * d = (m : Int) := HQ.out.symm
    have e2 : IntKind.i64.wrap (m : Int) = m := IntWalk.i64_in _ (by omega)
    have e5 : (k : Int) * (c : Int) = (C : Int) := by rw [← hC]; simp
    have e6 : IntKind.i64.wrap (C : Int) = C := IntWalk.i64_in _ (by omega)
    have z1 : ¬ (N : Int) = 0 := by omega
    have z2 : ((N : Int) == 0) = false := by simp; omega
    have z3 : ¬ N = 0 := by omega
    have z4 : (N == 0) = false := by simp; omega
    have CA : Hid (∀ v, BelowL wo v → Calls Try.prog 19 #[.agg #[.int .i64 d, .int .i64 d, .slice ap np cp], .int .i64 1] v fun e v' => e = .returned (.int .i64 (C : Int)) ∧ Below v.heap.size v v') := Lib.hid (fun v hv => by
      have h := impl_CountInk d d ap np cp (gen m (plateG A B d N nm k)) 1 v HOP5.out.len (HOP5.out.rd.below hv.out) (by omega)
      rw [hcnt] at h
      exact h)
    have CV : Hid (∀ v, BelowL wo v → Calls Try.prog 20 #[.agg #[.int .i64 d, .int .i64 d, .slice aq nq cq], .agg #[.int .i64 d, .int .i64 d, .slice ap np cp]] v fun e v' => e = .returned (.bool true) ∧ Below v.heap.size v v') := Lib.hid (fun v hv => by
      have h := impl_CoversPicture d d aq nq cq (gen m (plateG A B d N nm N)) d d ap np cp (gen m (plateG A B d N nm k)) v HOQ5.out.len (HOQ5.out.rd.below hv.out) (by omega) HOP5.out.len (HOP5.out.rd.below hv.out) (by omega)
      rw [plate_covers A B d N nm (k : Int) (N : Int) (by omega) HS.out HQ.out] at h
      exact h)
    obtain ⟨za, p0, p1, p2⟩ := KA5.out.c3
    obtain ⟨zq, q0, q1, q2⟩ := KQ5.out.c3
    have MK : Hid (∀ v, BelowL wo v → v.cell? ⟨w4.heap.size, 0, none⟩ = some (.int .i64 d) ∧ v.cell? ⟨w4.heap.size, 1, none⟩ = some (.int .i64 d) ∧ v.cell? ⟨w4.heap.size, 2, none⟩ = some (.slice ap np cp) ∧ v.cell? ⟨w5.heap.size, 0, none⟩ = some (.int .i64 d) ∧ v.cell? ⟨w5.heap.size, 1, none⟩ = some (.int .i64 d) ∧ v.cell? ⟨w5.heap.size, 2, none⟩ = some (.slice aq nq cq) ∧ BelowL wo v) := Lib.hid (fun v h => ⟨(h.out.cell za).trans p0, (h.out.cell za).trans p1, (h.out.cell za).trans p2, (h.out.cell zq).trans q0, (h.out.cell zq).trans q1, (h.out.cell zq).trans q2, h⟩)
    clear hc hC hcnt
    go_region_held3 (fun v => v.cell? ⟨w4.heap.size, 0, none⟩ = some (.int .i64 d) ∧ v.cell? ⟨w4.heap.size, 1, none⟩ = some (.int .i64 d) ∧ v.cell? ⟨w4.heap.size, 2, none⟩ = some (.slice ap np cp) ∧ v.cell? ⟨w5.heap.size, 0, none⟩ = some (.int .i64 d) ∧ v.cell? ⟨w5.heap.size, 1, none⟩ = some (.int .i64 d) ∧ v.cell? ⟨w5.heap.size, 2, none⟩ = some (.slice aq nq cq) ∧ BelowL wo v)
      (first | exact MK.out _ hb2 | exact MK.out _ hb1 | exact MK.out _ (BelowL.start _))
      (first
        | (go_at_call 19; ((with_reducible refine (CA.out _ (limb7 (by assumption))).mono ?_); rintro e v1 ⟨rfl, hq1⟩; have hb1 := BelowL.call (limb7 (by assumption)) hq1))
        | (go_at_call 20; ((with_reducible refine (CV.out _ (limb7 (by assumption))).mono ?_); rintro e v2 ⟨rfl, hq2⟩; have hb2 := BelowL.call (limb7 (by assumption)) hq2)))
    have HB6 := Lib.hid (bTrans HB5.out hb2.out)
    go_wp2_with fail
    go_ret
    exact ⟨rfl, HB6.out⟩

set_option maxHeartbeats 400000 in
theorem big (ad0 : Option Addr) (n0 cap0 : Nat) (w : World) (h : 1048576 < n0) (hl : n0 ≤ 9223372036854775807) :
    Calls Try.prog 5 #[.slice ad0 n0 cap0] w fun e w' => e = .returned (.bool true) ∧ Below w.heap.size w w' := by
  have h2 : (1048576 : Int) < (n0 : Int) := by omega
  go_enter Try.func5, Try.ntmps5
  go_wp2_with fail
  go_ret
  exact ⟨rfl, Below.refl _ _⟩

set_option maxRecDepth 100000 in
theorem lifted (os : Os) (started : os.Started) (H : Type) (enc : TypeId × Value → H) :
    ReturnsInHanded {} Try.checked os 5 .any (Rows.fnSpotsSpec.pre6 enc Try.prog Try.f5 Rows.fnSpotsRow.domain false) (Rows.fnSpotsSpec.post enc Try.prog Try.f5 false true false false) := by
  refine returnsInHanded_of_change (C := Try.checked) own started (by kernel_rfl) Try.func5
    (ChangeSpec.witness6 (enc := enc) (C := Try.checked) false ⟨#[], #[.slice none 0 0], []⟩ 8 (by kernel_rfl) (by kernel_rfl) (by kernel_rfl) (by kernel_rfl)) ?_
  intro W base args ds gs before hval0 hW hcnd _
  have hval : ∀ (j : Nat) t v, Try.f5.params[j]? = some t → args[j]? = some v → Value.okWide Try.prog W .any base t v := hval0
  have hW' := hW
  have hlt := hW.lt
  obtain ⟨p, q, hA0, hV, rfl, hfz, hnd⟩ := hW
  have hA : DataW.TrodAll enc Try.prog W 0 (fun _ => true) true Try.f5.params.toList args.toList ds p := hA0
  rw [Try.params5] at hA hval
  obtain ⟨v0, vs0, d0, ds0, p0, q0, hargs, rfl, rfl, h0, r0⟩ := trodAll_cons hA
  obtain ⟨rfl, rfl, rfl⟩ := trodAll_nil r0
  obtain rfl : args = #[v0] := by cases args; simp_all
  obtain ⟨rfl, rfl⟩ := trodVars_none hV
  clear hA0 hval0
  obtain ⟨ad0, n0, cap0, bs0, rfl, hn0, hr0, hl0⟩ := open_code (hval 0 22 v0 rfl rfl) h0 (fun x hx => hlt x (by simp [hx]))
  have fin : ∀ (e : Ending) W', (e = .returned (.bool true) ∧ Below W.heap.size W W') → ∃ v, e = .returned v ∧ Rows.fnSpotsSpec.post enc Try.prog Try.f5 false true false false W #[.slice ad0 n0 cap0] v W' := by
    rintro e W' ⟨rfl, hb⟩
    exact ⟨_, rfl, law_post rfl rfl hW' (by kernel_rfl) rfl hb⟩
  by_cases hs0 : n0 ≤ 1048576
  case neg => exact (big ad0 n0 cap0 W (by omega) hl0).mono fin
  case pos => exact (ok ad0 n0 cap0 bs0 W hn0 hr0 hs0).mono fin

theorem proved : Rows.FnSpotsSaid :=
  OpenClaim.holds_of_wide 5 Try.f5 rfl rfl rfl rfl rfl rfl rfl ⟨rfl, rfl, rfl, rfl, rfl⟩ rfl rfl rfl rfl rfl (by kernel_rfl) Try.func5 (by kernel_rfl)
    (of_decide_eq_true (by kernel_rfl)) (by unfold Func.isWrapper; first | (rw [if_pos (by decide +kernel)]; kernel_rfl) | (rw [if_neg (by decide +kernel)]; exact ⟨rfl, rfl⟩))
    (fun os started H enc _ => lifted os started H enc)
end Go.Proofs.Ytflegojobchgdaa.lSpots
