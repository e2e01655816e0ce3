/-
  Contracts of chapter 4: ScreenPicture (program and model).
-/
import Derived.Test.YtgepjfdnlnemjaaD12
namespace Go.Proofs.Ytgepjfdnlnemjaa
open Go.RowKit
set_option linter.unusedVariables false
set_option linter.unusedSimpArgs false

theorem impl_LevelsFor_yes (W H : Int) (ad : Option Addr) (n cap : Nat) (xs : List Int) (W' H' : Int) (ad' : Option Addr) (n' cap' : Nat) (ys : List Int) (w : World)
    (hn : xs.length = n) (ha : Rd w ad xs) (hl : n ≤ 9223372036854775807) (hn' : ys.length = n') (ha' : Rd w ad' ys) (hl' : n' ≤ 9223372036854775807) (hp : matOk W H xs = true) (hp' : picOk W' H' ys 255 = true) :
    Calls Try.prog 29 #[.agg #[.int .i64 W, .int .i64 H, .slice ad n cap], .agg #[.int .i64 W', .int .i64 H', .slice ad' n' cap']] w fun e w' => ∃ a c, e = .returned (.slice a n' c) ∧ OwnA w' w.heap.size a n' c (ys.map (levelG n)) ∧ Below w.heap.size w w' := by
  refine (impl_LevelsFor W H ad n cap xs W' H' ad' n' cap' ys w hn ha hl hn' ha' hl').mono ?_
  rintro e w' ⟨a, k, c, rfl, ho, _, hb⟩
  rw [levelsF_yes hn hp hp'] at ho
  obtain rfl : n' = k := by have := ho.len; simp at this; omega
  exact ⟨a, c, rfl, ho, hb⟩

set_option maxRecDepth 100000 in
set_option maxHeartbeats 1600000 in
theorem impl_ScreenPicture (W H : Int) (ad : Option Addr) (n cap : Nat) (xs : List Int) (W' H' : Int) (ad' : Option Addr) (n' cap' : Nat) (ys : List Int) (w : World)
    (hn : xs.length = n) (ha : Rd w ad xs) (hl : n ≤ 9223372036854775807) (hn' : ys.length = n') (ha' : Rd w ad' ys) (hl' : n' ≤ 9223372036854775807) :
    Calls Try.prog 23 #[.agg #[.int .i64 W, .int .i64 H, .slice ad n cap], .agg #[.int .i64 W', .int .i64 H', .slice ad' n' cap']] w (PicOut w (screenF W H xs W' H' ys)) := by
  have HN := Lib.hid hn
  have HA := Lib.hid ha
  have HN' := Lib.hid hn'
  have HA' := Lib.hid ha'
  clear hn ha hn' ha'
  by_cases hp : matOk W H xs = true
  case neg =>
    have hp2 : matOk W H xs = false := by simpa using hp
    rw [screenF_no (fun h => hp h.1)]
    clear hp
    go_enter Try.func23, Try.ntmps23
    go_wp2_with fail
    refine (impl_IsMatrix _ _ _ _ _ xs _ HN.out (by exact ((HA.out.alloc _).alloc _).alloc _) hl).mono ?_
    rintro e w1 ⟨rfl, hb⟩
    have HB1 := Lib.hid (bTrans (bAlloc (bAlloc (bAlloc (Below.refl _ _) _) _) _) hb)
    have KP1 := Lib.hid ((((Blk.new' (g := w.heap.size) 25 #[.int .i64 W, .int .i64 H, .slice ad n cap] (by first | rfl | simp)).alloc _).alloc _).below' hb)
    have KQ1 : Hid (Blk w1 (w.heap.size + 1) 30 #[.int .i64 W', .int .i64 H', .slice ad' n' cap']) := Lib.hid (((Blk.new' (g := w.heap.size + 1) 30 #[.int .i64 W', .int .i64 H', .slice ad' n' cap'] (by simp)).alloc _).below' hb)
    have KR1 : Hid (Blk w1 (w.heap.size + 1 + 1) 30 #[.int .i64 0, .int .i64 0, .slice none 0 0]) := Lib.hid ((Blk.new' (g := w.heap.size + 1 + 1) 30 #[.int .i64 0, .int .i64 0, .slice none 0 0] (by simp)).below' hb)
    obtain ⟨l1, c0, c1, c2⟩ := KP1.out.c3
    obtain ⟨n1, g0, g1, g2⟩ := KQ1.out.c3
    obtain ⟨m1, d0, d1, d2⟩ := KR1.out.c3
    obtain ⟨f0, f1, f2⟩ := KR1.out.f3
    clear hb
    rw [hp2]
    go_wp2_with fail
    exact bodyPost_ret (v := .agg #[.int .i64 0, .int .i64 0, .slice none 0 0]) (by simp [results, Try.results23, go_sem, d0, d1, d2]) rfl ⟨none, 0, 0, rfl, OwnA.none _ _, by omega,
      ((HB1.out.setCell (by first | (simp; done) | (simp; omega)) _).setCell (by first | (simp; done) | (simp; omega)) _).setCell (by first | (simp; done) | (simp; omega)) _⟩
  case pos =>
    by_cases hp' : picOk W' H' ys 255 = true
    case neg =>
      have hp2 : picOk W' H' ys 255 = false := by simpa using hp'
      rw [screenF_no (fun h => hp' h.2)]
      clear hp'
      go_enter Try.func23, Try.ntmps23
      go_wp2_with fail
      refine (impl_IsMatrix _ _ _ _ _ xs _ HN.out (by exact ((HA.out.alloc _).alloc _).alloc _) hl).mono ?_
      rintro e w1 ⟨rfl, hb⟩
      have HB1 := Lib.hid (bTrans (bAlloc (bAlloc (bAlloc (Below.refl _ _) _) _) _) hb)
      have KP1 := Lib.hid ((((Blk.new' (g := w.heap.size) 25 #[.int .i64 W, .int .i64 H, .slice ad n cap] (by first | rfl | simp)).alloc _).alloc _).below' hb)
      have KQ1 : Hid (Blk w1 (w.heap.size + 1) 30 #[.int .i64 W', .int .i64 H', .slice ad' n' cap']) := Lib.hid (((Blk.new' (g := w.heap.size + 1) 30 #[.int .i64 W', .int .i64 H', .slice ad' n' cap'] (by simp)).alloc _).below' hb)
      have KR1 : Hid (Blk w1 (w.heap.size + 1 + 1) 30 #[.int .i64 0, .int .i64 0, .slice none 0 0]) := Lib.hid ((Blk.new' (g := w.heap.size + 1 + 1) 30 #[.int .i64 0, .int .i64 0, .slice none 0 0] (by simp)).below' hb)
      obtain ⟨l1, c0, c1, c2⟩ := KP1.out.c3
      obtain ⟨n1, g0, g1, g2⟩ := KQ1.out.c3
      obtain ⟨m1, d0, d1, d2⟩ := KR1.out.c3
      obtain ⟨f0, f1, f2⟩ := KR1.out.f3
      clear hb
      rw [hp]
      go_wp2_with fail
      refine (impl_IsPicture _ _ _ _ _ ys _ HN'.out (by exact HA'.out.below HB1.out) hl').mono ?_
      rintro e w1 ⟨rfl, hb⟩
      have HB1 := Lib.hid (bTrans HB1.out hb)
      have KP1 := Lib.hid (KP1.out.below' hb)
      have KQ1 := Lib.hid (KQ1.out.below' hb)
      have KR1 := Lib.hid (KR1.out.below' hb)
      clear c0 c1 c2 d0 d1 d2 f0 f1 f2 g0 g1 g2 hb
      obtain ⟨l1, c0, c1, c2⟩ := KP1.out.c3
      obtain ⟨n1, g0, g1, g2⟩ := KQ1.out.c3
      obtain ⟨m1, d0, d1, d2⟩ := KR1.out.c3
      obtain ⟨f0, f1, f2⟩ := KR1.out.f3
      rw [hp2]
      go_wp2_with fail
      exact bodyPost_ret (v := .agg #[.int .i64 0, .int .i64 0, .slice none 0 0]) (by simp [results, Try.results23, go_sem, d0, d1, d2]) rfl ⟨none, 0, 0, rfl, OwnA.none _ _, by omega,
        ((HB1.out.setCell (by first | (simp; done) | (simp; omega)) _).setCell (by first | (simp; done) | (simp; omega)) _).setCell (by first | (simp; done) | (simp; omega)) _⟩
    case pos =>
      rw [screenF_yes HN.out HN'.out hp hp']
      have HP := Lib.hid hp
      have HP' := Lib.hid hp'
      obtain ⟨hs, hq, hi, hd⟩ := matOk_bd HN.out hp
      obtain ⟨b1, b2, b3, b4, b5, b6⟩ := matSize_bd hs
      have HQ := Lib.hid hq
      have HI := Lib.hid hi
      have HD := Lib.hid hd
      have HS := Lib.hid hs
      have hn1 : 1 ≤ n := by omega
      have hn2 : n ≤ 256 := by omega
      clear hq hi hs hd
      obtain ⟨hs, hq, hi⟩ := picOk_bd HN'.out hp'
      obtain ⟨b1', b2', b3', b4', b5', b6'⟩ := sizeOk_bd hs
      have HQ' := Lib.hid hq
      have HI' := Lib.hid hi
      have HS' := Lib.hid hs
      have hn1' : 1 ≤ n' := by omega
      have hn2' : n' ≤ 1024 := by omega
      clear hq hi hs
      go_enter Try.func23, Try.ntmps23
      go_wp2_with fail
      refine (impl_IsMatrix _ _ _ _ _ xs _ HN.out (by exact ((HA.out.alloc _).alloc _).alloc _) hl).mono ?_
      rintro e w1 ⟨rfl, hb⟩
      have HB1 := Lib.hid (bTrans (bAlloc (bAlloc (bAlloc (Below.refl _ _) _) _) _) hb)
      have KP1 := Lib.hid ((((Blk.new' (g := w.heap.size) 25 #[.int .i64 W, .int .i64 H, .slice ad n cap] (by first | rfl | simp)).alloc _).alloc _).below' hb)
      have KQ1 : Hid (Blk w1 (w.heap.size + 1) 30 #[.int .i64 W', .int .i64 H', .slice ad' n' cap']) := Lib.hid (((Blk.new' (g := w.heap.size + 1) 30 #[.int .i64 W', .int .i64 H', .slice ad' n' cap'] (by simp)).alloc _).below' hb)
      have KR1 : Hid (Blk w1 (w.heap.size + 1 + 1) 30 #[.int .i64 0, .int .i64 0, .slice none 0 0]) := Lib.hid ((Blk.new' (g := w.heap.size + 1 + 1) 30 #[.int .i64 0, .int .i64 0, .slice none 0 0] (by simp)).below' hb)
      obtain ⟨l1, c0, c1, c2⟩ := KP1.out.c3
      obtain ⟨n1, g0, g1, g2⟩ := KQ1.out.c3
      obtain ⟨m1, d0, d1, d2⟩ := KR1.out.c3
      obtain ⟨f0, f1, f2⟩ := KR1.out.f3
      clear hb
      rw [hp]
      go_wp2_with fail
      refine (impl_IsPicture _ _ _ _ _ ys _ HN'.out (by exact HA'.out.below HB1.out) hl').mono ?_
      rintro e w1 ⟨rfl, hb⟩
      have HB1 := Lib.hid (bTrans HB1.out hb)
      have KP1 := Lib.hid (KP1.out.below' hb)
      have KQ1 := Lib.hid (KQ1.out.below' hb)
      have KR1 := Lib.hid (KR1.out.below' hb)
      clear c0 c1 c2 d0 d1 d2 f0 f1 f2 g0 g1 g2 hb
      obtain ⟨l1, c0, c1, c2⟩ := KP1.out.c3
      obtain ⟨n1, g0, g1, g2⟩ := KQ1.out.c3
      obtain ⟨m1, d0, d1, d2⟩ := KR1.out.c3
      obtain ⟨f0, f1, f2⟩ := KR1.out.f3
      rw [hp']
      clear hp hp'
      go_wp2_with fail
      have NP : w.heap.size + 1 + 1 ≠ w.heap.size := by omega
      have NQ : w.heap.size + 1 + 1 ≠ w.heap.size + 1 := by omega
      go_region_held3 (fun v => v.cell? ⟨w.heap.size, 0, none⟩ = some (.int .i64 W) ∧ v.cell? ⟨w.heap.size, 1, none⟩ = some (.int .i64 H) ∧ v.cell? ⟨w.heap.size, 2, none⟩ = some (.slice ad n cap) ∧ v.cell? ⟨w.heap.size + 1, 0, none⟩ = some (.int .i64 W') ∧ v.cell? ⟨w.heap.size + 1, 1, none⟩ = some (.int .i64 H') ∧ v.cell? ⟨w.heap.size + 1, 2, none⟩ = some (.slice ad' n' cap'))
        (first | exact ⟨c0, c1, c2, g0, g1, g2⟩ | exact ⟨y0, y1, y2, y3, y4, y5⟩ | exact ⟨z0, z1, z2, z3, z4, z5⟩ | exact ⟨cell_far (cell_far (cell_far z0 NP) NP) NP, cell_far (cell_far (cell_far z1 NP) NP) NP, cell_far (cell_far (cell_far z2 NP) NP) NP, cell_far (cell_far (cell_far z3 NQ) NQ) NQ, cell_far (cell_far (cell_far z4 NQ) NQ) NQ, cell_far (cell_far (cell_far z5 NQ) NQ) NQ⟩)
        (first
          | (go_at_call 29; ((with_reducible refine (impl_LevelsFor_yes W H ad n cap xs W' H' ad' n' cap' ys _ HN.out (by exact (HA.out.below HB1.out).of_heap rfl) hl HN'.out (by exact (HA'.out.below HB1.out).of_heap rfl) hl' HP.out HP'.out).mono ?_); rintro e v1 ⟨a1, k1, rfl, ho1, hq1⟩; have y0 := (hq1.cell l1).trans c0; have y1 := (hq1.cell l1).trans c1; have y2 := (hq1.cell l1).trans c2; have y3 := (hq1.cell n1).trans g0; have y4 := (hq1.cell n1).trans g1; have y5 := (hq1.cell n1).trans g2))
          | (go_at_call 50; ((with_reducible refine (impl_screened W H ad n cap xs _ n' _ (ys.map (levelG n)) W' H' _ HN.out (by exact ((HA.out.below HB1.out).drew).below hq1) HP.out (by have := HN'.out; simp; omega) (by exact ho1.rd) HS'.out HQ'.out).mono ?_); rintro e v2 ⟨a2, n2, c2', rfl, ho2, hn2, hq2⟩; have z0 := (hq2.cell (Nat.lt_of_lt_of_le l1 hq1.size)).trans y0; have z1 := (hq2.cell (Nat.lt_of_lt_of_le l1 hq1.size)).trans y1; have z2 := (hq2.cell (Nat.lt_of_lt_of_le l1 hq1.size)).trans y2; have z3 := (hq2.cell (Nat.lt_of_lt_of_le n1 hq1.size)).trans y3; have z4 := (hq2.cell (Nat.lt_of_lt_of_le n1 hq1.size)).trans y4; have z5 := (hq2.cell (Nat.lt_of_lt_of_le n1 hq1.size)).trans y5; have KR5 := Lib.hid (((KR1.out.drew).below' hq1).below' hq2); obtain ⟨m5, r1, r2, r3⟩ := KR5.out.c3; obtain ⟨q0, q1, q2⟩ := KR5.out.f3)))
      have HB5 := Lib.hid (bTrans (bTrans HB1.out.drew hq1) hq2)
      have LR : w.heap.size + 1 + 1 < v1.heap.size := Nat.lt_of_lt_of_le m1 hq1.size
      have HO5 := Lib.hid ho2
      clear hq1 hq2 ho2 ho1 y0 y1 y2 y3 y4 y5 z0 z1 z2 z3 z4 z5
      go_wp2_with fail
      exact bodyPost_ret (v := .agg #[.int .i64 W', .int .i64 H', .slice a2 n2 c2']) (by simp [results, Try.results23, go_sem, m5, r1, r2, r3]) rfl
        ⟨_, _, _, rfl, (((HO5.out.other (by exact LR) _).other (by exact LR) _).other (by exact LR) _).mono (by omega), hn2, ((HB5.out.setCell (by simp; omega) _).setCell (by simp; omega) _).setCell (by simp; omega) _⟩

end Go.Proofs.Ytgepjfdnlnemjaa
