/-
  Contracts of chapter 5: ErrorsOf and RowDots of the program and of the model.
-/
import Derived.Test.YtepaklcobkdfdaaK15
import Derived.Test.YtepaklcobkdfdaaK6
import Derived.Test.YtepaklcobkdfdaaCut
import Derived.Deep.DeepCutAuto
namespace Go.Proofs.Ytepaklcobkdfdaa
open Go.RowKit
set_option linter.unusedVariables false
set_option linter.unusedSimpArgs false

theorem field_rest (a b c d e f : Value) (w : World) : (Instr.field 65 (.agg #[a, b, c, d, e, f]) 2).run Try.prog w = .ok e w := by kernel_rfl

set_option maxRecDepth 100000 in
set_option maxHeartbeats 3200000 in
theorem impl_ErrorsOf (kad : Option Addr) (kn kcap : Nat) (ks : List Prt) (W H : Int) (ad : Option Addr) (n cap : Nat) (xs : List Int) (alt : Bool) (w : World)
    (hkl : ks.length = kn) (hkr : Rd w kad (flat ks)) (hkm : kn ≤ 1048576) (hkc : kn ≤ kcap) (hn : xs.length = n) (ha : Rd w ad xs) (hl : n ≤ 9223372036854775807) :
    Calls Try.prog 21 #[.slice kad kn kcap, .agg #[.int .i64 W, .int .i64 H, .slice ad n cap], .bool alt] w (ListOut w (errorsF ks W H xs alt)) := by
  have HKL := Lib.hid hkl
  have HKR := Lib.hid (hkr.alloc (.cells #[.int .i64 W, .int .i64 H, .slice ad n cap] 34))
  have HN := Lib.hid hn
  have HA := Lib.hid (ha.alloc (.cells #[.int .i64 W, .int .i64 H, .slice ad n cap] 34))
  have HB0 := Lib.hid (Joins.below_alloc1 w (.cells #[.int .i64 W, .int .i64 H, .slice ad n cap] 34))
  have KP0 := Lib.hid (Blk.new w 34 #[.int .i64 W, .int .i64 H, .slice ad n cap])
  obtain ⟨R, hR⟩ : ∃ R, errorsF ks W H xs alt = R := ⟨_, rfl⟩
  rw [hR]
  have HR := Lib.hid hR
  clear hkl hkr hn ha hR
  go_enter Try.func21, Try.ntmps21
  go_wp2_with fail
  refine (impl_IsKernel _ _ _ ks _ HKL.out (by exact HKR.out) hkm hkc).mono ?_
  rintro e w1 ⟨rfl, hb⟩
  have HB1 := Lib.hid (HB0.out.trans (hb.mono (by simp)))
  have KP1 := Lib.hid (KP0.out.below' hb)
  have HKR1 := Lib.hid (HKR.out.below hb)
  have HA1 := Lib.hid (HA.out.below hb)
  clear hb
  by_cases hk : kernOk ks = true
  case neg =>
    have hk2 : kernOk ks = false := by simpa using hk
    rw [hk2]
    obtain rfl : R = [] := HR.out.symm.trans (errorsF_no (fun h => hk h.1))
    clear hk hk2
    go_wp2_with fail
    go_ret
    exact ⟨_, _, _, rfl, OwnA.none _ _, by omega, HB1.out⟩
  case pos =>
    rw [hk]
    have HKO := Lib.hid hk
    clear hk
    obtain ⟨l1, c0, c1, c2⟩ := KP1.out.c3
    go_wp2_with fail
    refine (impl_IsPicture _ _ _ _ _ xs _ HN.out (by exact HA1.out) hl).mono ?_
    rintro e w2 ⟨rfl, hb⟩
    have HB2 := Lib.hid (bTrans HB1.out hb)
    have KP2 := Lib.hid (KP1.out.below' hb)
    have HKR2 := Lib.hid (HKR1.out.below hb)
    have HA2 := Lib.hid (HA1.out.below hb)
    clear hb l1 c0 c1 c2
    by_cases hp : picOk W H xs 255 = true
    case neg =>
      have hp2 : picOk W H xs 255 = false := by simpa using hp
      rw [hp2]
      obtain rfl : R = [] := HR.out.symm.trans (errorsF_no (fun h => hp h.2))
      clear hp hp2
      go_wp2_with fail
      go_ret
      exact ⟨_, _, _, rfl, OwnA.none _ _, by omega, HB2.out⟩
    case pos =>
      rw [hp]
      have HP := Lib.hid hp
      have HRR := Lib.hid (HR.out.symm.trans (errorsF_yes HN.out HKO.out hp))
      obtain ⟨hs, hq, hi⟩ := picOk_bd HN.out hp
      have hn2 : n ≤ 1048576 := by have := sizeOk_bd hs; omega
      clear hp hs hq hi
      obtain ⟨l1, c0, c1, c2⟩ := KP2.out.c3
      go_wp2_with fail
      refine (impl_diffused kad kn kcap W H ad n cap xs alt ks _ HKL.out (by exact HKR2.out) hkc HKO.out HN.out (by exact HA2.out) HP.out).mono ?_
      rintro e w3 ⟨gp, gr, rc, rfl, o1, o2, h1, h2, hb⟩
      have HO2 := Lib.hid (OwnA.mk o2 (Nat.le_trans HB2.out.size h2))
      have HB3 := Lib.hid (bTrans HB2.out hb)
      obtain rfl := HRR.out
      clear o1 o2 h1 h2 hb l1 c0 c1 c2
      have hfd := field_rest (.slice kad kn kcap) (.int .i64 W) (.int .i64 H) (.slice (some ⟨gp, 0, none⟩) n n) (.slice (some ⟨gr, 0, none⟩) n rc) (.int .i64 (runG alt ks W H xs n).lost) w3
      go_wp2_with fail
      go_ret
      exact ⟨_, _, _, rfl, HO2.out, hn2, HB3.out⟩

def rowDotsF (xs : List Int) : List Int := if picOk xs.length 1 xs 255 = true then (runG false plainK xs.length 1 xs xs.length).dots else []

theorem rowDotsF_no {xs : List Int} {n : Nat} (hn : xs.length = n) (h : ¬ picOk n 1 xs 255 = true) : rowDotsF xs = [] := by unfold rowDotsF; rw [hn, if_neg h]

theorem rowDotsF_yes {xs : List Int} {n : Nat} (hn : xs.length = n) (h : picOk n 1 xs 255 = true) : rowDotsF xs = (runG false plainK n 1 xs n).dots := by unfold rowDotsF; rw [hn, if_pos h]

theorem rowDotsF_diff {xs : List Int} {n : Nat} (hn : xs.length = n) : rowDotsF xs = (diffF plainK n 1 xs false).1.ink := by
  by_cases h : picOk n 1 xs 255 = true
  · rw [rowDotsF_yes hn h, diffF_yes hn (by decide) h]
  · rw [rowDotsF_no hn h, diffF_no (fun c => h c.2)]; rfl

set_option maxRecDepth 100000 in
set_option maxHeartbeats 3200000 in
theorem impl_RowDots (ad : Option Addr) (n cap : Nat) (xs : List Int) (w : World) (hn : xs.length = n) (ha : Rd w ad xs) (hl : n ≤ 1048576) :
    Calls Try.prog 22 #[.slice ad n cap] w (ListOut w (rowDotsF xs)) := by
  have HN := Lib.hid hn
  have HA := Lib.hid (ha.alloc (.cells #[.int .i64 n, .int .i64 1, .slice ad n cap] 34))
  have HRD := Lib.hid (rowDotsF_diff hn)
  have KP := Lib.hid (Blk.new w 34 #[.int .i64 n, .int .i64 1, .slice ad n cap])
  have HB := Lib.hid (Joins.below_alloc1 w (.cells #[.int .i64 n, .int .i64 1, .slice ad n cap] 34))
  clear hn ha
  go_enter Try.func22, Try.ntmps22
  go_wp2_with fail
  go_upto_region 2 with fail
  have HZ := Lib.hid (show w.heap.size < (w.alloc (.cells #[.int .i64 n, .int .i64 1, .slice ad n cap] 34)).heap.size by simp)
  obtain ⟨wo, hwo⟩ : ∃ wo : World, wo = w.alloc (.cells #[.int .i64 n, .int .i64 1, .slice ad n cap] 34) := ⟨_, rfl⟩
  rw [← hwo] at HA KP HB HZ ⊢
  clear hwo
  go_cut [4] (fun s4 wx => CutBox wo wx 34 (diffF plainK n 1 xs false).1.W (diffF plainK n 1 xs false).1.H (diffF plainK n 1 xs false).1.ink s4)
  case first =>
    obtain ⟨l0, o0, o1, o2⟩ := KP.out.c3
    have MK : Hid (∀ v, BelowH wo v → v.cell? ⟨w.heap.size, 0, none⟩ = some (.int .i64 n) ∧ v.cell? ⟨w.heap.size, 1, none⟩ = some (.int .i64 1) ∧ v.cell? ⟨w.heap.size, 2, none⟩ = some (.slice ad n cap) ∧ BelowH wo v) := Lib.hid (fun v hB => ⟨(hB.out.cell l0).trans o0, (hB.out.cell l0).trans o1, (hB.out.cell l0).trans o2, hB⟩)
    go_region_held3 (fun v => v.cell? ⟨w.heap.size, 0, none⟩ = some (.int .i64 n) ∧ v.cell? ⟨w.heap.size, 1, none⟩ = some (.int .i64 1) ∧ v.cell? ⟨w.heap.size, 2, none⟩ = some (.slice ad n cap) ∧ BelowH wo v)
      (first | exact MK.out _ (BelowH.start _) | exact MK.out _ hb2 | exact MK.out _ hb1 | exact MK.out _ (BelowH.alloc hb2 _) | exact MK.out _ (BelowH.alloc (held4 (by assumption)) _) | exact MK.out _ (BelowH.allocD (held4 (by assumption)) _) | exact MK.out _ (BelowH.set (BelowH.set (BelowH.set (held4 (by assumption)) (by exact kg) _) (by exact kg) _) (by exact kg) _))
      (first
        | (go_at_call 44; ((with_reducible refine (impl_PlainKernel _).mono ?_); rintro e v1 ⟨gk, rfl, hgk, hok, hq1⟩); have hz1 := BelowH.le_call (held4 (by assumption)) hq1; have hb1 := BelowH.call (held4 (by assumption)) hq1; (first | (have kl := lt_after hq1; have kg := kg_after (n := wo.heap.size) hq1 (by exact Nat.le_refl _); have kb := blk_after hq1) | (have kl := lt_afterD hq1; have kg := kg_afterD (n := wo.heap.size) hq1 (by exact Nat.le_refl _); have kb := blk_afterD hq1) | (have kl := blk_lt kb hq1; have kb := Blk.below' kb hq1) | skip); (first | (have kc3 := Blk.c3 kb; have kf3 := Blk.f3 kb; obtain ⟨kl0, k0, k1, k2⟩ := kc3; obtain ⟨kf0, kf1, kf2⟩ := kf3) | skip))
        | (go_at_call 18; ((with_reducible refine (impl_DiffusePicture (some ⟨gk, 0, none⟩) 1 1 plainK n 1 ad n cap xs false _ rfl (by first | exact hok.rd | exact (hok.alloc _).rd) (by omega) (by omega) HN.out (by exact (HA.out.below (BelowH.out (held4 (by assumption))))) (by omega)).mono ?_); rintro e v2 ⟨at0, nt0, ct0, rfl, ho, hnt0, hq2⟩); have hz2 := BelowH.le_call (held4 (by assumption)) hq2; have hb2 := BelowH.call (held4 (by assumption)) hq2; (first | (have kl := lt_after hq2; have kg := kg_after (n := wo.heap.size) hq2 (by first | exact hb1.le | exact Nat.le_refl _); have kb := blk_after hq2) | (have kl := lt_afterD hq2; have kg := kg_afterD (n := wo.heap.size) hq2 (by first | exact hb1.le | exact Nat.le_refl _); have kb := blk_afterD hq2) | (have kl := blk_lt kb hq2; have kb := Blk.below' kb hq2) | skip); (first | (have kc3 := Blk.c3 kb; have kf3 := Blk.f3 kb; obtain ⟨kl0, k0, k1, k2⟩ := kc3; obtain ⟨kf0, kf1, kf2⟩ := kf3) | skip)))
    all_goals (go_wp2_with fail; go_meet; (first | exact cut_last hb2 ho hz2 hnt0 | exact cut_set hb2 kb kg kl ho hz2 hnt0))
  case rest =>
    obtain ⟨gb, a, m, c, rfl, kb, kg, ho, hr, hm, hb⟩ := hcut
    have HO := Lib.hid (ho.mono (Nat.le_of_lt (Nat.lt_of_le_of_lt (Nat.le_refl _) HZ.out)))
    have HBF := Lib.hid (HB.out.trans (hb.mono (Nat.le_of_lt HZ.out)))
    obtain ⟨l0, o0, o1, o2⟩ := kb.c3
    clear ho hr hb kb
    go_wp2_with fail
    go_ret
    exact ⟨_, _, _, rfl, by rw [HRD.out]; exact HO.out, hm, HBF.out⟩

end Go.Proofs.Ytepaklcobkdfdaa
