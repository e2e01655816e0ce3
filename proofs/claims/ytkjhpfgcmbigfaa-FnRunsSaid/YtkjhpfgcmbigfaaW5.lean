/-
  Contracts of chapter 8: plates grown and shrunk, gain (program).
-/
import Derived.Test.YtkjhpfgcmbigfaaW4
namespace Go.Proofs.Ytkjhpfgcmbigfaa
open Go.RowKit
set_option linter.unusedVariables false
set_option linter.unusedSimpArgs false

set_option maxHeartbeats 1600000 in
theorem impl_plateOfCrosses (W H : Int) (ad : Option Addr) (n cap : Nat) (xs : List Int) (least : Int) (w : World) (hn : xs.length = n) (ha : Rd w ad xs) (hl : n ≤ 9223372036854775807) (hcap : n ≤ cap) :
    Calls Try.prog 54 #[.agg #[.int .i64 W, .int .i64 H, .slice ad n cap], .int .i64 least] w (PicOut w (growF least W H xs)) := by
  have HN := Lib.hid hn
  have HA := Lib.hid ha
  clear hn ha
  by_cases hp : picOk W H xs 1 = true
  case neg =>
    have hp2 : picOk W H xs 1 = false := by simpa using hp
    rw [growF_no hp]
    clear hp
    go_enter Try.func54, Try.ntmps54
    go_wp2_with fail
    refine (impl_IsPlate _ _ _ _ _ xs _ HN.out (by exact (HA.out.alloc _).alloc _) hl).mono ?_
    rintro e w1 ⟨rfl, hb⟩
    have HB1 := Lib.hid ((Joins.below_alloc2 _ _ _).trans (hb.mono (by simp; omega)))
    have KP1 := Lib.hid (((Blk.new w 25 #[.int .i64 W, .int .i64 H, .slice ad n cap]).alloc _).below' hb)
    have KR1 : Hid (Blk w1 (w.heap.size + 1) 25 #[.int .i64 0, .int .i64 0, .slice none 0 0]) := by
      have h := (Blk.new (w.alloc (.cells #[.int .i64 W, .int .i64 H, .slice ad n cap] 25)) 25 #[.int .i64 0, .int .i64 0, .slice none 0 0]).below' hb
      exact Lib.hid (by simpa using h)
    obtain ⟨l1, c0, c1, c2⟩ := KP1.out.c3
    obtain ⟨m1, d0, d1, d2⟩ := KR1.out.c3
    obtain ⟨f0, f1, f2⟩ := KR1.out.f3
    clear hb
    rw [hp2]
    go_wp2_with fail
    exact bodyPost_ret (v := .agg #[.int .i64 0, .int .i64 0, .slice none 0 0]) (by simp [results, Try.results54, go_sem, d0, d1, d2]) rfl ⟨none, 0, 0, rfl, OwnA.none _ _, by omega,
      ((HB1.out.setCell (by first | (simp; done) | (simp; omega)) _).setCell (by first | (simp; done) | (simp; omega)) _).setCell (by first | (simp; done) | (simp; omega)) _⟩
  case pos =>
    rw [growF_yes HN.out hp]
    obtain ⟨hs, hq, hi⟩ := picOk_bd HN.out hp
    obtain ⟨b1, b2, b3, b4, b5, b6⟩ := sizeOk_bd hs
    have HQ := Lib.hid hq
    have HI := Lib.hid hi
    have HS := Lib.hid hs
    have hn1 : 1 ≤ n := by omega
    have hn2 : n ≤ 1024 := by omega
    clear hq hi hs
    have HX := Lib.hid (dotsN_of HN.out HI.out)
    obtain ⟨Wn, hWn⟩ : ∃ Wn : Nat, W = Wn := ⟨W.toNat, by omega⟩
    obtain ⟨Hn, hHn⟩ : ∃ Hn : Nat, H = Hn := ⟨H.toNat, by omega⟩
    subst hWn hHn
    obtain ⟨b, off, hae, _, _⟩ := HA.out.at (by have := HN.out; omega)
    subst hae
    have hq2 : n = Wn * Hn := by have : ((Wn * Hn : Nat) : Int) = (Wn : Int) * (Hn : Int) := Int.natCast_mul _ _; have := HQ.out; omega
    have CC := Lib.hid (fun (v : World) (hv : Rd v (some ⟨b, off, none⟩) xs) => impl_crossDots Wn Hn b off n cap xs v HN.out hv (by omega) (by omega) (by omega) (by omega) hq2 hn2 hcap HX.out)
    have E1 : Hid ((Wn : Int).toNat = Wn) := Lib.hid (Int.toNat_natCast _)
    have E2 : Hid ((Hn : Int).toNat = Hn) := Lib.hid (Int.toNat_natCast _)
    rw [E1.out, E2.out]
    clear hq2
    go_enter Try.func54, Try.ntmps54
    go_wp2_with fail
    refine (impl_IsPlate _ _ _ _ _ xs _ HN.out (by exact (HA.out.alloc _).alloc _) hl).mono ?_
    rintro e w1 ⟨rfl, hb⟩
    have HB1 := Lib.hid ((Joins.below_alloc2 _ _ _).trans (hb.mono (by simp; omega)))
    have KP1 := Lib.hid (((Blk.new w 25 #[.int .i64 Wn, .int .i64 Hn, .slice (some ⟨b, off, none⟩) n cap]).alloc _).below' hb)
    have KR1 : Hid (Blk w1 (w.heap.size + 1) 25 #[.int .i64 0, .int .i64 0, .slice none 0 0]) := by
      have h := (Blk.new (w.alloc (.cells #[.int .i64 Wn, .int .i64 Hn, .slice (some ⟨b, off, none⟩) n cap] 25)) 25 #[.int .i64 0, .int .i64 0, .slice none 0 0]).below' hb
      exact Lib.hid (by simpa using h)
    obtain ⟨l1, c0, c1, c2⟩ := KP1.out.c3
    obtain ⟨m1, d0, d1, d2⟩ := KR1.out.c3
    obtain ⟨f0, f1, f2⟩ := KR1.out.f3
    clear hb
    rw [hp]
    go_wp2_with fail
    refine (impl_blank (Wn : Int) (Hn : Int) n _ HS.out HQ.out).mono ?_
    rintro e w2 ⟨g, rfl, hg, ho, hb⟩
    have HB2 := Lib.hid (HB1.out.trans (hb.mono HB1.out.size))
    have KP2 := Lib.hid (KP1.out.below' hb)
    have KR2 := Lib.hid (KR1.out.below' hb)
    have HO := Lib.hid ho
    have HG : Hid (w1.heap.size ≤ g) := Lib.hid hg
    clear hb hg ho c0 c1 c2 d0 d1 d2 f0 f1 f2
    obtain ⟨l2, c0, c1, c2⟩ := KP2.out.c3
    go_wp2_with fail
    have K3 := Lib.hid (Blk.new w2 25 #[.int .i64 Wn, .int .i64 Hn, .slice (some ⟨g, 0, none⟩) n n])
    have HO3 := Lib.hid (HO.out.alloc (.cells #[.int .i64 Wn, .int .i64 Hn, .slice (some ⟨g, 0, none⟩) n n] 25))
    have KR3 := Lib.hid (KR2.out.alloc (.cells #[.int .i64 Wn, .int .i64 Hn, .slice (some ⟨g, 0, none⟩) n n] 25))
    have HB3 := Lib.hid (HB2.out.alloc HB2.out.size (.cells #[.int .i64 Wn, .int .i64 Hn, .slice (some ⟨g, 0, none⟩) n n] 25))
    refine (CC.out _ (by exact HA.out.below HB3.out)).mono ?_
    rintro e w4 ⟨ca, cc, rfl, hoc, hb⟩
    have K4 := Lib.hid (K3.out.below' hb)
    have HO4 := Lib.hid (HO3.out.below hb HO3.out.lt)
    have KR4 := Lib.hid (KR3.out.below' hb)
    have HB4 := Lib.hid (bTrans HB3.out hb)
    have HC4 := Lib.hid hoc
    have HCB : Hid (∀ x, blockOf ca = some x → w2.heap.size + 1 ≤ x) := Lib.hid (fun x hx => by have := (hoc.bd x hx).1; simp at this; omega)
    have HGL : Hid (g < w2.heap.size) := Lib.hid HO.out.lt
    have HGW : Hid (w.heap.size + 1 < g) := Lib.hid (by have := HG.out; have := KR1.out.lt; omega)
    clear hb hoc c0 c1 c2 l2 K3 HO3 KR3 HB3
    go_wp2_with fail
    go_loopw [20] (fun i wr => ∃ k : Nat, k ≤ n ∧ i = .int .i64 k ∧ Hid (Own wr g n n (filled (leastG Wn Hn xs n least) (List.replicate n 0) k)) ∧ Hid (w4.grownBy wr (some g))) (fun i _ => n - (intOf i).toNat)
    case atStart => exact ⟨0, Nat.zero_le _, rfl, Lib.hid (by rw [filled_zero]; exact HO4.out), Lib.hid (grown_refl _ _)⟩
    case round =>
      obtain ⟨k, hk, rfl, HF, HGR⟩ := hrel
      have KOr := Lib.hid (K4.out.grown HGR.out (by have := HGL.out; intro e; have := Option.some.inj e; omega))
      obtain ⟨l0, o0, o1, o2⟩ := KOr.out.c3
      by_cases hlt : k < n
      · have HCr : Hid (Rd wr ca (gen n (nearS Wn Hn xs))) := Lib.hid (rd_grownS HC4.out.rd HGR.out (fun x hx e => by have := HCB.out x hx; have := HGL.out; have := Option.some.inj e; omega))
        obtain ⟨bc, oc, hce, lc, cc0⟩ := HCr.out k (by rw [gen_len]; exact hlt)
        subst hce
        rw [gen_get _ _ _ hlt] at cc0
        have EV := leastG_at (w := Wn) (h := Hn) (xs := xs) (m := least) hlt
        obtain ⟨V, hV⟩ : ∃ V, nearS Wn Hn xs k = V := ⟨_, rfl⟩
        rw [hV] at EV cc0
        have HE := Lib.hid EV
        clear EV hV
        by_cases le : least ≤ V
        · have g2 := HF.out.cell hlt
          have g3 := HF.out.frozen k
          have hs := HF.out.set k 1
          rw [filled_succ (leastG Wn Hn xs n least) _ k _ (by rw [leastG_len]; exact hlt) (by simp; omega) (by rw [HE.out, if_pos le])] at hs
          have HSt := Lib.hid hs
          clear hs
          go_wp2_with fail
          go_roundw
          case rel => exact ⟨k + 1, by omega, by go_num, Lib.hid (by simpa using HSt.out), Lib.hid (grown_set HGR.out _)⟩
          case measure => simp [intOf]; omega
        · have hs := filled_skipW (leastG Wn Hn xs n least) (List.replicate n 0) k (by rw [leastG_len]; exact hlt) (by simp; omega) (by rw [HE.out, if_neg le]; simp [List.getD, hlt])
          have HSt : Hid (Own wr g n n (filled (leastG Wn Hn xs n least) (List.replicate n 0) (k + 1))) := Lib.hid (by rw [← hs]; exact HF.out)
          clear hs
          go_wp2_with fail
          go_roundw
          case rel => exact ⟨k + 1, by omega, by go_num, HSt, HGR⟩
          case measure => simp [intOf]; omega
      · obtain rfl : n = k := by omega
        have HF2 : Hid (Own wr g n n (leastG Wn Hn xs n least)) := Lib.hid (by have h := HF.out; rwa [filled_at _ _ _ (leastG_len _ _ _ _ _) (by simp)] at h)
        have KRr := Lib.hid (KR4.out.grown HGR.out (by have := HGW.out; intro e; have := Option.some.inj e; omega))
        have HBr := Lib.hid (HB4.out.grown HGR.out HB4.out.size (by intro q hq; cases hq; have := HGW.out; omega))
        obtain ⟨z0, r0, r1, r2⟩ := KRr.out.c3
        obtain ⟨f0, f1, f2⟩ := KRr.out.f3
        go_wp2_with fail
        exact bodyPost_ret (v := .agg #[.int .i64 Wn, .int .i64 Hn, .slice (some ⟨g, 0, none⟩) n n]) (by simp [results, Try.results54, go_sem, r0, r1, r2]) rfl
          ⟨_, _, _, rfl, OwnA.mk (((HF2.out.other (by have := HGW.out; simp; omega) _).other (by have := HGW.out; simp; omega) _).other (by have := HGW.out; simp; omega) _) (by have := HGW.out; omega), by omega,
            ((HBr.out.setCell (by first | (simp; done) | (simp; omega)) _).setCell (by first | (simp; done) | (simp; omega)) _).setCell (by first | (simp; done) | (simp; omega)) _⟩

set_option maxHeartbeats 400000 in
theorem impl_GrowPlate (W H : Int) (ad : Option Addr) (n cap : Nat) (xs : List Int) (w : World) (hn : xs.length = n) (ha : Rd w ad xs) (hl : n ≤ 9223372036854775807) (hcap : n ≤ cap) :
    Calls Try.prog 23 #[.agg #[.int .i64 W, .int .i64 H, .slice ad n cap]] w (PicOut w (growF 1 W H xs)) := by
  have HN := Lib.hid hn
  have HA := Lib.hid ha
  clear hn ha
  go_enter Try.func23, Try.ntmps23
  go_wp2_with fail
  refine (impl_plateOfCrosses W H ad n cap xs 1 _ HN.out (by exact (HA.out.alloc _).alloc _) hl hcap).mono ?_
  rintro e w1 ⟨a, m, c, rfl, ho, hm, hb⟩
  have HB1 := Lib.hid (bTrans (bAlloc (bAlloc (Below.refl w.heap.size w) _) _) hb)
  have KR1 := Lib.hid ((Blk.new' (g := w.heap.size + 1) (w := w.alloc (.cells #[.int .i64 W, .int .i64 H, .slice ad n cap] 25)) 25 #[.int .i64 0, .int .i64 0, .slice none 0 0] (by simp)).below' hb)
  have HO1 := Lib.hid ho
  obtain ⟨m1, d0, d1, d2⟩ := KR1.out.c3
  obtain ⟨f0, f1, f2⟩ := KR1.out.f3
  clear ho hb
  go_wp2_with fail
  exact bodyPost_ret (v := .agg #[.int .i64 (growF 1 W H xs).W, .int .i64 (growF 1 W H xs).H, .slice a m c]) (by simp [results, Try.results23, go_sem, d0, d1, d2]) rfl
    ⟨a, m, c, rfl, (((HO1.out.other (by simp) _).other (by simp) _).other (by simp) _).mono (by simp; omega), hm, ((HB1.out.setCell (by first | (simp; done) | (simp; omega)) _).setCell (by first | (simp; done) | (simp; omega)) _).setCell (by first | (simp; done) | (simp; omega)) _⟩

set_option maxHeartbeats 400000 in
theorem impl_ShrinkPlate (W H : Int) (ad : Option Addr) (n cap : Nat) (xs : List Int) (w : World) (hn : xs.length = n) (ha : Rd w ad xs) (hl : n ≤ 9223372036854775807) (hcap : n ≤ cap) :
    Calls Try.prog 24 #[.agg #[.int .i64 W, .int .i64 H, .slice ad n cap]] w (PicOut w (growF 5 W H xs)) := by
  have HN := Lib.hid hn
  have HA := Lib.hid ha
  clear hn ha
  go_enter Try.func24, Try.ntmps24
  go_wp2_with fail
  refine (impl_plateOfCrosses W H ad n cap xs 5 _ HN.out (by exact (HA.out.alloc _).alloc _) hl hcap).mono ?_
  rintro e w1 ⟨a, m, c, rfl, ho, hm, hb⟩
  have HB1 := Lib.hid (bTrans (bAlloc (bAlloc (Below.refl w.heap.size w) _) _) hb)
  have KR1 := Lib.hid ((Blk.new' (g := w.heap.size + 1) (w := w.alloc (.cells #[.int .i64 W, .int .i64 H, .slice ad n cap] 25)) 25 #[.int .i64 0, .int .i64 0, .slice none 0 0] (by simp)).below' hb)
  have HO1 := Lib.hid ho
  obtain ⟨m1, d0, d1, d2⟩ := KR1.out.c3
  obtain ⟨f0, f1, f2⟩ := KR1.out.f3
  clear ho hb
  go_wp2_with fail
  exact bodyPost_ret (v := .agg #[.int .i64 (growF 5 W H xs).W, .int .i64 (growF 5 W H xs).H, .slice a m c]) (by simp [results, Try.results24, go_sem, d0, d1, d2]) rfl
    ⟨a, m, c, rfl, (((HO1.out.other (by simp) _).other (by simp) _).other (by simp) _).mono (by simp; omega), hm, ((HB1.out.setCell (by first | (simp; done) | (simp; omega)) _).setCell (by first | (simp; done) | (simp; omega)) _).setCell (by first | (simp; done) | (simp; omega)) _⟩

set_option maxHeartbeats 800000 in
theorem impl_GainOf (W H : Int) (ad : Option Addr) (n cap : Nat) (xs : List Int) (w : World) (hn : xs.length = n) (ha : Rd w ad xs) (hl : n ≤ 9223372036854775807) (hcap : n ≤ cap) :
    Calls Try.prog 27 #[.agg #[.int .i64 W, .int .i64 H, .slice ad n cap]] w fun e w' => e = .returned (.int .i64 (gainF W H xs)) ∧ Below w.heap.size w w' := by
  have HN := Lib.hid hn
  have HA := Lib.hid ha
  clear hn ha
  by_cases hp : picOk W H xs 1 = true
  case neg =>
    have hp2 : picOk W H xs 1 = false := by simpa using hp
    have e0 : gainF W H xs = 0 := by unfold gainF; rw [if_neg hp]
    rw [e0]
    clear hp e0
    go_enter Try.func27, Try.ntmps27
    go_wp2_with fail
    refine (impl_IsPlate _ _ _ _ _ xs _ HN.out (by exact HA.out.alloc _) hl).mono ?_
    rintro e w1 ⟨rfl, hb⟩
    have HB1 := Lib.hid ((Joins.below_alloc1 _ _).trans (hb.mono (by simp)))
    clear hb
    rw [hp2]
    go_wp2_with fail
    go_ret
    exact ⟨rfl, HB1.out⟩
  case pos =>
    have HP := Lib.hid hp
    have e0 : gainF W H xs = isum (leastG W.toNat H.toNat xs n 1) - isum xs := by unfold gainF; rw [if_pos hp, HN.out]
    have eG : growF 1 W H xs = ⟨W, H, leastG W.toNat H.toNat xs n 1⟩ := growF_yes HN.out hp
    have eq : picOk W H (leastG W.toNat H.toNat xs n 1) 1 = true := by have := grow_plate (m := 1) hp; rwa [HN.out] at this
    have EG := Lib.hid eG
    have EQ := Lib.hid eq
    rw [e0]
    clear e0 eG eq
    obtain ⟨hs, hq, hi⟩ := picOk_bd HN.out hp
    obtain ⟨b1, b2, b3, b4, b5, b6⟩ := sizeOk_bd hs
    have HQ := Lib.hid hq
    have HI := Lib.hid hi
    have HS := Lib.hid hs
    have hn1 : 1 ≤ n := by omega
    have hn2 : n ≤ 1024 := by omega
    clear hq hi hs
    obtain ⟨s0, s1⟩ := gain_small (W := W) (H := H) HN.out HI.out hn2
    obtain ⟨q0, q1⟩ := gain_small (W := W) (H := H) (leastG_len W.toNat H.toNat xs n 1) (least_within _ _ _ _ _) hn2
    have S1 : Hid (sumF W H xs = isum xs) := Lib.hid (by unfold sumF; rw [if_pos (picOk_le HP.out)])
    have S2 : Hid (sumF W H (leastG W.toNat H.toNat xs n 1) = isum (leastG W.toNat H.toNat xs n 1)) := Lib.hid (by unfold sumF; rw [if_pos (picOk_le EQ.out)])
    obtain ⟨A, hA⟩ : ∃ A, isum (leastG W.toNat H.toNat xs n 1) = A := ⟨_, rfl⟩
    obtain ⟨B, hB⟩ : ∃ B, isum xs = B := ⟨_, rfl⟩
    rw [hA] at S2 q0 q1 ⊢
    rw [hB] at S1 s0 s1 ⊢
    clear hA hB
    go_enter Try.func27, Try.ntmps27
    go_wp2_with fail
    refine (impl_IsPlate _ _ _ _ _ xs _ HN.out (by exact HA.out.alloc _) hl).mono ?_
    rintro e w1 ⟨rfl, hb⟩
    have HB1 := Lib.hid ((Joins.below_alloc1 _ _).trans (hb.mono (by simp)))
    have KP1 := Lib.hid ((Blk.new w 25 #[.int .i64 W, .int .i64 H, .slice ad n cap]).below' hb)
    obtain ⟨l1, c0, c1, c2⟩ := KP1.out.c3
    clear hb
    rw [hp]
    go_wp2_with fail
    have HAw := Lib.hid (HA.out.below HB1.out)
    have wAB : IntKind.i64.wrap (A - B) = A - B := IntWalk.i64_in _ (by omega)
    have MK : Hid (∀ v, BelowL w1 v → v.cell? ⟨w.heap.size, 0, none⟩ = some (.int .i64 W) ∧ v.cell? ⟨w.heap.size, 1, none⟩ = some (.int .i64 H) ∧ v.cell? ⟨w.heap.size, 2, none⟩ = some (.slice ad n cap) ∧ BelowL w1 v) := Lib.hid (fun v hB => ⟨(hB.out.cell l1).trans c0, (hB.out.cell l1).trans c1, (hB.out.cell l1).trans c2, hB⟩)
    go_region_held3 (fun v => v.cell? ⟨w.heap.size, 0, none⟩ = some (.int .i64 W) ∧ v.cell? ⟨w.heap.size, 1, none⟩ = some (.int .i64 H) ∧ v.cell? ⟨w.heap.size, 2, none⟩ = some (.slice ad n cap) ∧ BelowL w1 v)
      (first | exact MK.out _ hb3 | exact MK.out _ hb2 | exact MK.out _ hb1 | exact MK.out _ (BelowL.start _))
      (first
        | (go_at_call 23; ((with_reducible refine (impl_GrowPlate W H ad n cap xs _ HN.out (by exact HAw.out.below (BelowL.out (limb4 (by assumption)))) hl hcap).mono ?_); rintro e v1 ⟨ga, gn, gc, he, ho, hgn, hq1⟩; (rw [EG.out] at he ho); subst he; have hb1 := BelowL.call (limb4 (by assumption)) hq1; have HOA := Lib.hid ho; clear ho))
        | (go_at_call 29; ((with_reducible refine (impl_SumInk W H ad n cap xs _ HN.out (by exact HAw.out.below (BelowL.out (limb4 (by assumption)))) hl).mono ?_); rintro e v2 ⟨he, hq2⟩; (rw [S1.out] at he); subst he; have hb2 := BelowL.call (limb4 (by assumption)) hq2))
        | (go_at_call 29; ((with_reducible refine (impl_SumInk W H ga gn gc (leastG W.toNat H.toNat xs n 1) _ HOA.out.len (by exact HOA.out.rd) (by omega)).mono ?_); rintro e v3 ⟨he, hq3⟩; (rw [S2.out] at he); subst he; have hb3 := BelowL.call (limb4 (by assumption)) hq3)))
    all_goals
      go_wp2_with fail
      go_ret
      first
        | exact ⟨rfl, bTrans HB1.out hb3.out⟩
        | exact ⟨rfl, bTrans HB1.out hb2.out⟩

end Go.Proofs.Ytkjhpfgcmbigfaa
