/-
  FnRuns: the runs of a plate give it back and add up to its points, and every second one is a run of dots; one run more gives no plate: the law returns true for every code. No conditions.
-/
import Derived.Test.YtkjhpfgcmbigfaaW24
import Derived.Test.YtkjhpfgcmbigfaaFrameC
import Derived.Test.YtkjhpfgcmbigfaaCut
namespace Go.Proofs.Ytkjhpfgcmbigfaa.lRuns
open Go.ChangeShapes Go.WideShapes Go.ChangeAt Go.RowKit
set_option linter.unusedVariables false
set_option linter.unusedSimpArgs false

theorem limb9 {a b c d e f g h i : Prop} (x : a ∧ b ∧ c ∧ d ∧ e ∧ f ∧ g ∧ h ∧ i) : i := x.2.2.2.2.2.2.2.2

theorem lim3 {a b c : Prop} (x : a ∧ b ∧ c) : c := x.2.2

def GrowL (w : World) (g : Nat) (v : World) : Prop := Hid (w.grownBy v (some g))
namespace GrowL
variable {w v v' : World} {g : Nat}
theorem out (h : GrowL w g v) : w.grownBy v (some g) := Hid.out h
theorem mk (h : w.grownBy v (some g)) : GrowL w g v := Lib.hid h
theorem start (w : World) (g : Nat) : GrowL w g w.drew := mk (grown_drewN (grown_refl w _) 1)
theorem alloc (h : GrowL w g v) (o : Obj) : GrowL w g (v.alloc o) := mk (grown_bel h.out (Joins.below_alloc1 v o))
theorem allocD (h : GrowL w g v.drew) (o : Obj) : GrowL w g (v.alloc o).drew := mk (grown_drewN (grown_bel ((show w.grownBy v (some g) from ⟨h.out.os, h.out.tape, h.out.output, h.out.size, h.out.block⟩)) (Joins.below_alloc1 v o)) 1)
theorem call (h : GrowL w g v) (hq : Below v.heap.size v v') : GrowL w g v' := mk (grown_bel h.out hq)
theorem app (h : GrowL w g v) (hq : v.grownBy v' (some g)) : GrowL w g v' := mk (grown_trans h.out hq)
theorem set (h : GrowL w g v) {a : Addr} (ha : w.heap.size ≤ a.block) (u : Value) : GrowL w g (v.setCell a u) := mk (grown_setNew h.out ha u)
theorem b1 {X : World} {cs : Array Value} (hq : (X.alloc (.cells cs 25)).grownBy v' (some g)) (h : g < X.heap.size) (hw : w.heap.size ≤ X.heap.size) : Blk v' X.heap.size 25 cs ∧ w.heap.size ≤ X.heap.size := ⟨(Blk.new X _ cs).grown hq (by intro e; injection e; omega), hw⟩
theorem b2 {X : World} {cs : Array Value} {o : Obj} (hq : ((X.alloc (.cells cs 25)).alloc o).grownBy v' (some g)) (h : g < X.heap.size) (hw : w.heap.size ≤ X.heap.size) : Blk v' X.heap.size 25 cs ∧ w.heap.size ≤ X.heap.size := ⟨((Blk.new X _ cs).alloc o).grown hq (by intro e; injection e; omega), hw⟩
theorem b1D {X : World} {cs : Array Value} (hq : (X.alloc (.cells cs 25)).drew.grownBy v' (some g)) (h : g < X.heap.size) (hw : w.heap.size ≤ X.heap.size) : Blk v' X.heap.size 25 cs ∧ w.heap.size ≤ X.heap.size := ⟨(Blk.new X _ cs).drew.grown hq (by intro e; injection e; omega), hw⟩
theorem b2D {X : World} {cs : Array Value} {o : Obj} (hq : ((X.alloc (.cells cs 25)).alloc o).drew.grownBy v' (some g)) (h : g < X.heap.size) (hw : w.heap.size ≤ X.heap.size) : Blk v' X.heap.size 25 cs ∧ w.heap.size ≤ X.heap.size := ⟨((Blk.new X _ cs).alloc o).drew.grown hq (by intro e; injection e; omega), hw⟩
theorem b3 {X : World} {cs : Array Value} (hq : Below (X.alloc (.cells cs 25)).heap.size (X.alloc (.cells cs 25)) v') (hw : w.heap.size ≤ X.heap.size) : Blk v' X.heap.size 25 cs ∧ w.heap.size ≤ X.heap.size := ⟨(Blk.new X _ cs).below' hq, hw⟩
end GrowL

set_option maxRecDepth 100000 in
set_option maxHeartbeats 3200000 in
theorem ok (ad0 : Option Addr) (n0 cap0 : Nat) (bs0 : List Int) (w : World) (hn0 : bs0.length = n0) (hr0 : RdU w.heap.size w ad0 bs0) (hs0 : n0 ≤ 1048576) :
    Calls Try.prog 7 #[.slice ad0 n0 cap0] w fun e w' => e = .returned (.bool true) ∧ Below w.heap.size w w' := by
  have HL := Lib.hid hn0
  have HC := Lib.hid hr0
  clear hn0 hr0
  go_enter Try.func7, Try.ntmps7
  go_wp2_with fail
  refine (mkpl_call ad0 n0 cap0 bs0 8 _ HL.out (by exact HC.out) (by omega) (by omega) (by omega)).mono ?_
  rintro e w1 ⟨W, H, g, n, xs, rfl, b1, b2, b3, b4, hq, n1, n64, hg, ho, hp, hb⟩
  have HN := Lib.hid ho.len
  have HP := Lib.hid hp
  have hxw := (picOk_bd HN.out hp).2.2
  have hsz := (picOk_bd HN.out hp).1
  have hx : ∀ k, k < xs.length → xs.getD k 0 = 0 ∨ xs.getD k 0 = 1 := by
    intro k hk
    exact dotsN_of HN.out hxw k (by have := HN.out; omega)
  obtain ⟨hok, hsp⟩ := runsG_ok hx
  obtain ⟨hr1, hr2⟩ := runs_len hx
  obtain ⟨rs, hrs⟩ : ∃ l, runsG xs = l := ⟨_, rfl⟩
  rw [hrs] at hok hsp hr1 hr2
  obtain ⟨r, hr⟩ : ∃ r, rs.length = r := ⟨_, rfl⟩
  rw [hr, HN.out] at hr1
  rw [hr] at hr2
  have hnn := runsOk_nn hok
  have hsum : isum rs = (n : Int) := by
    have h := spell_len hnn 0
    rw [hsp, HN.out] at h
    exact h.symm
  have HR := Lib.hid hr
  have HRS := Lib.hid hrs
  have POR : Hid (porF W H rs = (⟨W, H, xs⟩, true)) := Lib.hid (by rw [por_yes hsz hok (by rw [hsum, hq]), hsp])
  have RW : Hid (within rs 255 = true) := Lib.hid (nn_within hnn (by omega))
  have XW : Hid (within xs 255 = true) := Lib.hid (within_255 hxw)
  have RA := Lib.hid (fun k (hk : k < rs.length) => runsOk_at hok hk)
  have RM := Lib.hid (fun k (hk : k < rs.length) => le_isum hnn _ (getD_mem hk))
  have HEAD := Lib.hid (runs_head hok hsp (by have := HN.out; omega))
  have DOT := Lib.hid (runs_dots hnn hsp)
  have SUM := Lib.hid hsum
  have HO2 := Lib.hid (ho.alloc (.cells #[.int .i64 W, .int .i64 H, .slice (some ⟨g, 0, none⟩) n n] 25))
  have KP2 := Lib.hid (Blk.new w1 25 #[.int .i64 W, .int .i64 H, .slice (some ⟨g, 0, none⟩) n n])
  have HB2 := Lib.hid (bAlloc hb (.cells #[.int .i64 W, .int .i64 H, .slice (some ⟨g, 0, none⟩) n n] 25))
  have HQ := Lib.hid hq
  have HB1 := Lib.hid hb
  have HO2g := Lib.hid (show g < w1.heap.size from ho.lt)
  obtain ⟨lp, p0, p1, p2⟩ := KP2.out.c3
  clear ho hp hb hg hxw hsz hx hok hsp hrs hr hnn hsum hq
  go_wp2_with fail
  refine (runs_call W H (some ⟨g, 0, none⟩) n n xs rs _ HN.out (by exact HO2.out.rd) (by omega) HP.out HRS.out).mono ?_
  rintro e w3 ⟨al, r', cl, rfl, hrr, ho, hb⟩
  obtain rfl : r' = r := by rw [← hrr]; exact HR.out
  obtain ⟨gl, rfl, hgl, hol⟩ : ∃ g, al = some ⟨g, 0, none⟩ ∧ _ ≤ g ∧ Own w3 g r' cl rs := own_some ho hr2
  have HL3 := Lib.hid hol
  have HGL := Lib.hid hgl
  have HO3 := Lib.hid (HO2.out.below hb HO2.out.lt)
  have KP3 := Lib.hid (KP2.out.below' hb)
  have HB3 := Lib.hid (bTrans HB2.out hb)
  clear ho hb hol hgl hrr HO2 KP2 HB2 lp p0 p1 p2
  obtain ⟨lp, p0, p1, p2⟩ := KP3.out.c3
  go_wp2_with fail
  refine (por_call W H (some ⟨gl, 0, none⟩) r' cl rs xs n _ HR.out (by exact HL3.out.rd) (by omega) POR.out HN.out).mono ?_
  rintro e w4 ⟨aq, cq, rfl, ho, hb⟩
  have HQ4 := Lib.hid (ho.alloc (.cells #[.int .i64 W, .int .i64 H, .slice aq n cq] 25))
  have HO4 := Lib.hid ((HO3.out.below hb HO3.out.lt).alloc (.cells #[.int .i64 W, .int .i64 H, .slice aq n cq] 25))
  have HL4 := Lib.hid ((HL3.out.below hb HL3.out.lt).alloc (.cells #[.int .i64 W, .int .i64 H, .slice aq n cq] 25))
  have KP4 := Lib.hid ((KP3.out.below' hb).alloc (.cells #[.int .i64 W, .int .i64 H, .slice aq n cq] 25))
  have KQ4 := Lib.hid (Blk.new w4 25 #[.int .i64 W, .int .i64 H, .slice aq n cq])
  have HB4 := Lib.hid (bAlloc (bTrans HB3.out hb) (.cells #[.int .i64 W, .int .i64 H, .slice aq n cq] 25))
  clear ho hb HO3 HL3 KP3 HB3 lp p0 p1 p2
  obtain ⟨wo, hwo⟩ : ∃ wo : World, wo = w4.alloc (.cells #[.int .i64 W, .int .i64 H, .slice aq n cq] 25) := ⟨_, rfl⟩
  go_upto_region 6 with fail
  rw [← hwo] at HQ4 HO4 HL4 KP4 KQ4 HB4 ⊢
  clear hwo
  obtain ⟨lp, p0, p1, p2⟩ := KP4.out.c3
  obtain ⟨lq, q0, q1, q2⟩ := KQ4.out.c3
  have t0 := HL4.out.cell (j := 0) hr2
  have u0 := HO4.out.cell (j := 0) n1
  have ll := HL4.out.lt
  have lx := HO4.out.lt
  have hhead := HEAD.out
  obtain ⟨R0, hR0⟩ : ∃ v, rs.getD 0 0 = v := ⟨_, rfl⟩
  obtain ⟨X0, hX0⟩ : ∃ v, xs.getD 0 0 = v := ⟨_, rfl⟩
  rw [hR0] at t0 hhead
  rw [hX0] at u0 hhead
  have hrn : ((r' : Int) == 0) = false := by simp; omega
  have hi1 : (0 : Int) < (r' : Int) := by omega
  have hi2 : (0 : Int) < (n : Int) := by omega
  have hi3 : 0 < r' := by omega
  have hi4 : 0 < n := by omega
  have hhe : (!(R0 == 0) == (X0 == 1)) = false := by
    by_cases hz : R0 = 0
    · have hz1 : X0 = 1 := by rw [← hhead]; exact hz
      subst hz hz1; rfl
    · have hz1 : ¬ X0 = 1 := by rw [← hhead]; exact hz
      have a1 : (R0 == 0) = false := by simpa using hz
      have a2 : (X0 == 1) = false := by simpa using hz1
      rw [a1, a2]; rfl
  clear hhead
  have MK : Hid (∀ v, BelowL wo v → v.cell? ⟨w1.heap.size, 0, none⟩ = some (.int .i64 W) ∧ v.cell? ⟨w1.heap.size, 1, none⟩ = some (.int .i64 H) ∧ v.cell? ⟨w1.heap.size, 2, none⟩ = some (.slice (some ⟨g, 0, none⟩) n n) ∧ v.cell? ⟨w4.heap.size, 0, none⟩ = some (.int .i64 W) ∧ v.cell? ⟨w4.heap.size, 1, none⟩ = some (.int .i64 H) ∧ v.cell? ⟨w4.heap.size, 2, none⟩ = some (.slice aq n cq) ∧ v.cell? ⟨gl, 0, none⟩ = some (.int .i64 R0) ∧ v.cell? ⟨g, 0, none⟩ = some (.int .i64 X0) ∧ BelowL wo v) := Lib.hid (fun v h => ⟨(h.out.cell lp).trans p0, (h.out.cell lp).trans p1, (h.out.cell lp).trans p2, (h.out.cell lq).trans q0, (h.out.cell lq).trans q1, (h.out.cell lq).trans q2, (h.out.cell ll).trans t0, (h.out.cell lx).trans u0, h⟩)
  have RP : Hid (∀ v, BelowL wo v → Rd v (some ⟨g, 0, none⟩) xs) := Lib.hid (fun v hv => HO4.out.rd.below hv.out)
  have RQ : Hid (∀ v, BelowL wo v → Rd v aq xs) := Lib.hid (fun v hv => HQ4.out.rd.below hv.out)
  have RL : Hid (∀ v, BelowL wo v → Rd v (some ⟨gl, 0, none⟩) rs) := Lib.hid (fun v hv => HL4.out.rd.below hv.out)
  have C1 : Hid (∀ v, BelowL wo v → Calls Try.prog 28 #[.agg #[.int .i64 W, .int .i64 H, .slice aq n cq], .agg #[.int .i64 W, .int .i64 H, .slice (some ⟨g, 0, none⟩) n n]] v fun e v' => e = .returned (.bool true) ∧ Below v.heap.size v v') := Lib.hid (fun v hv => same_call6 W H aq n cq xs _ n n xs v HN.out (RQ.out v hv) (by omega) HN.out (RP.out v hv) (by omega) rfl)
  have C2 : Hid (∀ v, BelowL wo v → Calls Try.prog 18 #[.slice (some ⟨gl, 0, none⟩) r' cl] v fun e v' => e = .returned (.int .i64 n) ∧ Below v.heap.size v v') := Lib.hid (fun v hv => totp_call _ r' _ rs _ v HR.out (RL.out v hv) RW.out (by omega) SUM.out)
  go_region_held3 (fun v => v.cell? ⟨w1.heap.size, 0, none⟩ = some (.int .i64 W) ∧ v.cell? ⟨w1.heap.size, 1, none⟩ = some (.int .i64 H) ∧ v.cell? ⟨w1.heap.size, 2, none⟩ = some (.slice (some ⟨g, 0, none⟩) n n) ∧ v.cell? ⟨w4.heap.size, 0, none⟩ = some (.int .i64 W) ∧ v.cell? ⟨w4.heap.size, 1, none⟩ = some (.int .i64 H) ∧ v.cell? ⟨w4.heap.size, 2, none⟩ = some (.slice aq n cq) ∧ v.cell? ⟨gl, 0, none⟩ = some (.int .i64 R0) ∧ v.cell? ⟨g, 0, none⟩ = some (.int .i64 X0) ∧ BelowL wo v)
    (first | exact MK.out _ hb2 | exact MK.out _ hb1 | exact MK.out _ (BelowL.start _))
    (first
      | (go_at_call 28; ((with_reducible refine (C1.out _ (limb9 (by assumption))).mono ?_); rintro e v1 ⟨rfl, hq1⟩; have hb1 := BelowL.call (limb9 (by assumption)) hq1))
      | (go_at_call 18; ((with_reducible refine (C2.out _ (limb9 (by assumption))).mono ?_); rintro e v2 ⟨rfl, hq2⟩; have hb2 := BelowL.call (limb9 (by assumption)) hq2)))
  have HV := Lib.hid hb2
  have HO5 := Lib.hid (HO4.out.below hb2.out HO4.out.lt)
  have HL5 := Lib.hid (HL4.out.below hb2.out HL4.out.lt)
  have KP5 := Lib.hid (KP4.out.below' hb2.out)
  have HB5 := Lib.hid (bTrans HB4.out hb2.out)
  clear hb1 hb2 hq1 hq2 C1 C2 RQ MK lq q0 q1 q2 lp p0 p1 p2 KQ4 HQ4
  obtain ⟨lp, p0, p1, p2⟩ := KP5.out.c3
  go_wp2_with fail
  have RB : Hid (∀ k, k < r' → 0 ≤ rs.getD k 0 ∧ rs.getD k 0 ≤ 64 ∧ (0 < k → 1 ≤ rs.getD k 0)) := Lib.hid (fun k hk => by
    have h1 := RA.out k (by have := HR.out; omega)
    have h2 := RM.out k (by have := HR.out; omega)
    have h3 := SUM.out
    exact ⟨h1.1, by omega, h1.2⟩)
  have FB : Hid (∀ k, k < r' → 0 ≤ rs.getD k 0 * ((k : Int) % 2) ∧ rs.getD k 0 * ((k : Int) % 2) ≤ 64) := Lib.hid (fun k hk => by
    obtain ⟨h1, h2, _⟩ := RB.out k hk
    rcases (show (k : Int) % 2 = 0 ∨ (k : Int) % 2 = 1 by omega) with e | e
    · rw [e, Int.mul_zero]; omega
    · rw [e, Int.mul_one]; omega)
  have SB : Hid (∀ k, k ≤ r' → 0 ≤ sumJ (fun j => rs.getD j 0 * ((j : Int) % 2)) k ∧ sumJ (fun j => rs.getD j 0 * ((j : Int) % 2)) k ≤ 64 * (k : Int)) := Lib.hid (fun k hk => by
    refine ⟨sumJ_nn (fun i hi => (FB.out i (by omega)).1), ?_⟩
    rw [← sumJ_const]
    exact sumJ_le (fun i hi => (FB.out i (by omega)).2))
  have DT : Hid (sumJ (fun j => rs.getD j 0 * ((j : Int) % 2)) r' = isum xs) := Lib.hid (by rw [← HR.out]; exact DOT.out)
  clear RA RM DOT HEAD hhe hrn hi1 hi2 hi3 hi4 t0 u0 hR0 hX0 ll lx
  go_loopw [7, 63] (fun s i wr => ∃ k : Nat, k ≤ r' ∧ i = .int .i64 k ∧ s = .int .i64 (sumJ (fun j => rs.getD j 0 * ((j : Int) % 2)) k) ∧ wr = v2) (fun _ i _ => r' - (intOf i).toNat)
  case atStart => exact ⟨0, Nat.zero_le _, rfl, rfl, rfl⟩
  case round =>
    obtain ⟨k, hk, rfl, rfl, hwr⟩ := hrel
    subst hwr
    obtain ⟨s0, s1⟩ := SB.out k hk
    by_cases hlt : k < r'
    · have ES : Hid (sumJ (fun j => rs.getD j 0 * ((j : Int) % 2)) (k + 1) = sumJ (fun j => rs.getD j 0 * ((j : Int) % 2)) k + rs.getD k 0 * ((k : Int) % 2)) := Lib.hid rfl
      obtain ⟨r0, r64, r1⟩ := RB.out k hlt
      have c0 := HL5.out.cell (j := k) hlt
      obtain ⟨R, hRk⟩ : ∃ v, rs.getD k 0 = v := ⟨_, rfl⟩
      rw [hRk] at ES r0 r64 r1 c0
      obtain ⟨S, hS⟩ : ∃ v, sumJ (fun j => rs.getD j 0 * ((j : Int) % 2)) k = v := ⟨_, rfl⟩
      rw [hS] at ES s0 s1
      rw [hS]
      obtain ⟨P, hP⟩ : ∃ v, (k : Int) % 2 = v := ⟨_, rfl⟩
      rw [hP] at ES
      have k65 : (k : Int) ≤ 65 := by omega
      have et : (k : Int).tmod 2 = P := by rw [Int.tmod_eq_emod_of_nonneg (by omega), hP]
      have P01 : P = 0 ∨ P = 1 := by omega
      have ew : IntKind.i64.wrap P = P := IntWalk.i64_in _ (by omega)
      obtain ⟨M, hM⟩ : ∃ v, R * P = v := ⟨_, rfl⟩
      have hMb : 0 ≤ M ∧ M ≤ 64 := by
        rw [← hM]
        rcases P01 with e | e
        · rw [e, Int.mul_zero]; omega
        · rw [e, Int.mul_one]; omega
      rw [hM] at ES
      have em : IntKind.i64.wrap (R * P) = M := by rw [hM]; exact IntWalk.i64_in _ (by omega)
      have ea : IntKind.i64.wrap (S + M) = S + M := IntWalk.i64_in _ (by omega)
      have hM0 : k = 0 → M = 0 := by intro h; rw [← hM, ← hP, h]; simp
      clear hRk hS P01 hP
      by_cases k0 : 0 < k
      · have r2 := r1 k0
        have hk0 : (0 : Int) < (k : Int) := by omega
        have hnl : ¬ R < 1 := by omega
        clear r1
        go_wp2_with fail
        go_roundw
        case rel => exact ⟨k + 1, by omega, by go_num, by rw [ES.out], trivial⟩
        case measure => simp [intOf]; omega
      · obtain rfl : k = 0 := by omega
        clear r1
        go_wp2_with fail
        go_roundw
        case rel => exact ⟨0 + 1, by omega, by go_num, by rw [ES.out, hM0 rfl, Int.add_zero], trivial⟩
        case measure => simp [intOf]; omega
    · obtain rfl : k = r' := by omega
      rw [DT.out]
      have HWR := Lib.hid (show Own wr gl k cl rs from HL5.out)
      have hlg : gl < wr.heap.size := HL5.out.lt
      have hgl2 : w1.heap.size < gl := by have := HGL.out; simp at this; omega
      have hgg : g < gl := by have := HO2g.out; omega
      have hw0 : w.heap.size ≤ gl := by have := HB1.out.size; omega
      have MK : Hid (∀ v, GrowL wr gl v → v.cell? ⟨w1.heap.size, 0, none⟩ = some (.int .i64 W) ∧ v.cell? ⟨w1.heap.size, 1, none⟩ = some (.int .i64 H) ∧ GrowL wr gl v) := Lib.hid (fun v h => by
        have kb := KP5.out.grown h.out (by intro e; injection e; omega)
        obtain ⟨l1, a0, a1, a2⟩ := kb.c3
        exact ⟨a0, a1, h⟩)
      have NS : Hid (isum (rs ++ [1]) ≠ W * H) := Lib.hid (by rw [isum_snocG, SUM.out, ← HQ.out]; omega)
      have LS1 : Hid ((rs ++ [1]).length = k + 1) := Lib.hid (by rw [List.length_append, HR.out]; rfl)
      clear lp p0 p1 p2
      go_upto_region 16 with fail
      go_cut [10, 11] (fun s10 s11 wx => s11 = .bool false ∧ GrowL wr gl wx)
      case first =>
        go_region_held3 (fun v => v.cell? ⟨w1.heap.size, 0, none⟩ = some (.int .i64 W) ∧ v.cell? ⟨w1.heap.size, 1, none⟩ = some (.int .i64 H) ∧ GrowL wr gl v)
          (first | exact MK.out _ (GrowL.start _ _) | exact MK.out _ hb2 | exact MK.out _ hb1 | exact MK.out _ (GrowL.alloc (lim3 (by assumption)) _) | exact MK.out _ (GrowL.allocD (lim3 (by assumption)) _) | exact MK.out _ (GrowL.alloc hb2 _) | exact MK.out _ (GrowL.set (GrowL.set (GrowL.set (lim3 (by assumption)) (by first | exact kg | (simp; done) | (simp; omega) | omega) _) (by first | exact kg | (simp; done) | (simp; omega) | omega) _) (by first | exact kg | (simp; done) | (simp; omega) | omega) _))
          (first
            | (refine step_append _ (by rfl) (.tmp 86) (.tmp 87) (by rfl) 0 k cl (some ⟨gl, 0, none⟩) rs (by rfl) (by first | exact .inr ⟨gl, rfl, Nat.zero_le _, HWR.out.alloc _⟩ | exact .inr ⟨gl, rfl, Nat.zero_le _, (HWR.out.drewN 1).alloc _⟩ | exact .inr ⟨gl, rfl, Nat.zero_le _, ((HWR.out.drewN 1).alloc _).alloc _⟩ | exact .inr ⟨gl, rfl, Nat.zero_le _, (HWR.out.alloc _).alloc _⟩ | exact .inr ⟨gl, rfl, Nat.zero_le _, ((HWR.out.alloc _).alloc _).of_block rfl⟩ | exact .inr ⟨gl, rfl, Nat.zero_le _, (HWR.out.alloc _).of_block rfl⟩) _ (1 : Int) (by rfl) (by first | exact cell_new1 _ _ _ | (go_simp; done)) (by omega) (Nat.zero_le _) ?_; intro al5 cl5 w5 ho5 hg5; have hb1 := GrowL.app (lim3 (by assumption)) hg5; have HA5 := Lib.hid ho5; clear ho5; (first | (have kx := GrowL.b2 (w := wr) hg5 (by first | exact hlg | (simp; omega)) (by first | exact Nat.le_refl _ | (simp; done)); obtain ⟨kb, kg⟩ := kx) | (have kx := GrowL.b2D (w := wr) hg5 (by first | exact hlg | (simp; omega)) (by first | exact Nat.le_refl _ | (simp; done)); obtain ⟨kb, kg⟩ := kx) | (have kx := GrowL.b1 (w := wr) hg5 (by first | exact hlg | (simp; omega)) (by first | exact Nat.le_refl _ | (simp; done)); obtain ⟨kb, kg⟩ := kx) | (have kx := GrowL.b1D (w := wr) hg5 (by first | exact hlg | (simp; omega)) (by first | exact Nat.le_refl _ | (simp; done)); obtain ⟨kb, kg⟩ := kx) | skip))
            | (go_at_call 31; ((with_reducible refine (porno_call W H al5 (k + 1) cl5 (rs ++ [1]) _ LS1.out (by first | exact HA5.out.rd | exact (HA5.out.alloc _).rd) (by omega) NS.out).mono ?_); rintro e v2 ⟨pb, pr, pk, rfl, hq2⟩; have hb2 := GrowL.call (lim3 (by assumption)) hq2; (first | (have kb := Blk.below' kb hq2; (try simp at kb)) | (have kx := GrowL.b3 (w := wr) hq2 (by exact hb1.out.size); obtain ⟨kb, kg⟩ := kx) | skip); (first | (have kc3 := Blk.c3 kb; have kf3 := Blk.f3 kb; obtain ⟨kl0, k0, k1, k2⟩ := kc3; obtain ⟨kf0, kf1, kf2⟩ := kf3) | skip))))
        all_goals (go_wp2_with fail; go_meet; (first | exact ⟨rfl, GrowL.alloc hb2 _⟩ | exact ⟨rfl, GrowL.set (GrowL.set (GrowL.set hb2 (by first | exact kg | (simp; done) | (simp; omega) | omega) _) (by first | exact kg | (simp; done) | (simp; omega) | omega) _) (by first | exact kg | (simp; done) | (simp; omega) | omega) _⟩ | exact ⟨rfl, GrowL.set (GrowL.set (GrowL.set (GrowL.alloc hb2 _) (by exact hb2.out.size) _) (by exact hb2.out.size) _) (by exact hb2.out.size) _⟩))
      case rest =>
        obtain ⟨rfl, hgr⟩ := hcut
        have HOx := Lib.hid (HO5.out.grown hgr.out (by intro e; injection e; omega))
        have KPx := Lib.hid (KP5.out.grown hgr.out (by intro e; injection e; omega))
        have HBx := Lib.hid (grown_to_below HB5.out hgr.out hw0)
        obtain ⟨lp, p0, p1, p2⟩ := KPx.out.c3
        obtain ⟨sx, hsx⟩ : ∃ v, isum xs = v := ⟨_, rfl⟩
        rw [hsx]
        go_wp2_with fail
        refine (totp_call (some ⟨g, 0, none⟩) n n xs sx _ HN.out (by exact HOx.out.rd) XW.out (by omega) hsx).mono ?_
        rintro e w9 ⟨rfl, hq9⟩
        have HB9 := Lib.hid (bTrans HBx.out hq9)
        clear hq9
        go_wp2_with fail
        go_ret
        exact ⟨rfl, HB9.out⟩

set_option maxHeartbeats 400000 in
theorem big (ad0 : Option Addr) (n0 cap0 : Nat) (w : World) (h : 1048576 < n0) (hl : n0 ≤ 9223372036854775807) :
    Calls Try.prog 7 #[.slice ad0 n0 cap0] w fun e w' => e = .returned (.bool true) ∧ Below w.heap.size w w' := by
  have h2 : (1048576 : Int) < (n0 : Int) := by omega
  go_enter Try.func7, Try.ntmps7
  go_wp2_with fail
  go_ret
  exact ⟨rfl, Below.refl _ _⟩

set_option maxRecDepth 100000 in
theorem lifted (os : Os) (started : os.Started) (H : Type) (enc : TypeId × Value → H) :
    ReturnsInHanded {} Try.checked os 7 .any (Rows.fnRunsSpec.pre6 enc Try.prog Try.f7 Rows.fnRunsRow.domain false) (Rows.fnRunsSpec.post enc Try.prog Try.f7 false true false false) := by
  refine returnsInHanded_of_change (C := Try.checked) own started (by kernel_rfl) Try.func7
    (ChangeSpec.witness6 (enc := enc) (C := Try.checked) false ⟨#[], #[.slice none 0 0], []⟩ 8 (by kernel_rfl) (by kernel_rfl) (by kernel_rfl) (by kernel_rfl)) ?_
  intro W base args ds gs before hval0 hW hcnd _
  have hval : ∀ (j : Nat) t v, Try.f7.params[j]? = some t → args[j]? = some v → Value.okWide Try.prog W .any base t v := hval0
  have hW' := hW
  have hlt := hW.lt
  obtain ⟨p, q, hA0, hV, rfl, hfz, hnd⟩ := hW
  have hA : DataW.TrodAll enc Try.prog W 0 (fun _ => true) true Try.f7.params.toList args.toList ds p := hA0
  rw [Try.params7] at hA hval
  obtain ⟨v0, vs0, d0, ds0, p0, q0, hargs, rfl, rfl, h0, r0⟩ := trodAll_cons hA
  obtain ⟨rfl, rfl, rfl⟩ := trodAll_nil r0
  obtain rfl : args = #[v0] := by cases args; simp_all
  obtain ⟨rfl, rfl⟩ := trodVars_none hV
  clear hA0 hval0
  obtain ⟨ad0, n0, cap0, bs0, rfl, hn0, hr0, hl0⟩ := open_code (hval 0 22 v0 rfl rfl) h0 (fun x hx => hlt x (by simp [hx]))
  have fin : ∀ (e : Ending) W', (e = .returned (.bool true) ∧ Below W.heap.size W W') → ∃ v, e = .returned v ∧ Rows.fnRunsSpec.post enc Try.prog Try.f7 false true false false W #[.slice ad0 n0 cap0] v W' := by
    rintro e W' ⟨rfl, hb⟩
    exact ⟨_, rfl, law_post rfl rfl hW' (by kernel_rfl) rfl hb⟩
  by_cases hs0 : n0 ≤ 1048576
  case neg => exact (big ad0 n0 cap0 W (by omega) hl0).mono fin
  case pos => exact (ok ad0 n0 cap0 bs0 W hn0 hr0 hs0).mono fin

theorem proved : Rows.FnRunsSaid :=
  OpenClaim.holds_of_wide 7 Try.f7 rfl rfl rfl rfl rfl rfl rfl ⟨rfl, rfl, rfl, rfl, rfl⟩ rfl rfl rfl rfl rfl (by kernel_rfl) Try.func7 (by kernel_rfl)
    (of_decide_eq_true (by kernel_rfl)) (by unfold Func.isWrapper; first | (rw [if_pos (by decide +kernel)]; kernel_rfl) | (rw [if_neg (by decide +kernel)]; exact ⟨rfl, rfl⟩))
    (fun os started H enc _ => lifted os started H enc)

end Go.Proofs.Ytkjhpfgcmbigfaa.lRuns
