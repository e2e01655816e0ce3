/-
  Contracts of chapter 4: ScreenPicture (program and model).
-/
import Derived.Test.YtcebgcdhigonoaaD12
namespace Go.Proofs.Ytcebgcdhigonoaa
open Go.RowKit
set_option linter.unusedVariables false
set_option linter.unusedSimpArgs false

theorem impl_LevelsFor_yes (W H : Int) (ad : Option Addr) (n cap : Nat) (xs : List Int) (W' H' : Int) (ad' : Option Addr) (n' cap' : Nat) (ys : List Int) (w : World)
    (hn : xs.length = n) (ha : Rd w ad xs) (hl : n ≤ 9223372036854775807) (hn' : ys.length = n') (ha' : Rd w ad' ys) (hl' : n' ≤ 9223372036854775807) (hp : matOk W H xs = true) (hp' : picOk W' H' ys 255 = true) :
    Calls Try.prog 30 #[.agg #[.int .i64 W, .int .i64 H, .slice ad n cap], .agg #[.int .i64 W', .int .i64 H', .slice ad' n' cap']] w fun e w' => ∃ a c, e = .returned (.slice a n' c) ∧ OwnA w' w.heap.size a n' c (ys.map (levelG n)) ∧ Below w.heap.size w w' := by
  refine (impl_LevelsFor W H ad n cap xs W' H' ad' n' cap' ys w hn ha hl hn' ha' hl').mono ?_
  rintro e w' ⟨a, k, c, rfl, ho, _, hb⟩
  rw [levelsF_yes hn hp hp'] at ho
  obtain rfl : n' = k := by have := ho.len; simp at this; omega
  exact ⟨a, c, rfl, ho, hb⟩

set_option maxRecDepth 100000 in
set_option maxHeartbeats 1600000 in
theorem impl_ScreenPicture (W H : Int) (ad : Option Addr) (n cap : Nat) (xs : List Int) (W' H' : Int) (ad' : Option Addr) (n' cap' : Nat) (ys : List Int) (w : World)
    (hn : xs.length = n) (ha : Rd w ad xs) (hl : n ≤ 9223372036854775807) (hn' : ys.length = n') (ha' : Rd w ad' ys) (hl' : n' ≤ 9223372036854775807) :
    Calls Try.prog 28 #[.agg #[.int .i64 W, .int .i64 H, .slice ad n cap], .agg #[.int .i64 W', .int .i64 H', .slice ad' n' cap']] w (PicOut w (screenF W H xs W' H' ys)) := by
  have HN := Lib.hid hn
  have HA := Lib.hid ha
  have HN' := Lib.hid hn'
  have HA' := Lib.hid ha'
  clear hn ha hn' ha'
  by_cases hp : matOk W H xs = true
  case neg =>
    have hp2 : matOk W H xs = false := by simpa using hp
    rw [screenF_no (fun h => hp h.1)]
    clear hp
    go_enter Try.func28, Try.ntmps28
    go_wp2_with fail
    refine (impl_IsMatrix _ _ _ _ _ xs _ HN.out (by exact ((HA.out.alloc _).alloc _).alloc _) hl).mono ?_
    rintro e w1 ⟨rfl, hb⟩
    have HB1 := Lib.hid (bTrans (bAlloc (bAlloc (bAlloc (Below.refl _ _) _) _) _) hb)
    have KP1 := Lib.hid ((((Blk.new' (g := w.heap.size) 27 #[.int .i64 W, .int .i64 H, .slice ad n cap] (by first | rfl | simp)).alloc _).alloc _).below' hb)
    have KQ1 : Hid (Blk w1 (w.heap.size + 1) 32 #[.int .i64 W', .int .i64 H', .slice ad' n' cap']) := Lib.hid (((Blk.new' (g := w.heap.size + 1) 32 #[.int .i64 W', .int .i64 H', .slice ad' n' cap'] (by simp)).alloc _).below' hb)
    have KR1 : Hid (Blk w1 (w.heap.size + 1 + 1) 32 #[.int .i64 0, .int .i64 0, .slice none 0 0]) := Lib.hid ((Blk.new' (g := w.heap.size + 1 + 1) 32 #[.int .i64 0, .int .i64 0, .slice none 0 0] (by simp)).below' hb)
    obtain ⟨l1, c0, c1, c2⟩ := KP1.out.c3
    obtain ⟨n1, g0, g1, g2⟩ := KQ1.out.c3
    obtain ⟨m1, d0, d1, d2⟩ := KR1.out.c3
    obtain ⟨f0, f1, f2⟩ := KR1.out.f3
    clear hb
    rw [hp2]
    go_wp2_with fail
    exact bodyPost_ret (v := .agg #[.int .i64 0, .int .i64 0, .slice none 0 0]) (by simp [results, Try.results28, go_sem, d0, d1, d2]) rfl ⟨none, 0, 0, rfl, OwnA.none _ _, by omega,
      ((HB1.out.setCell (by first | (simp; done) | (simp; omega)) _).setCell (by first | (simp; done) | (simp; omega)) _).setCell (by first | (simp; done) | (simp; omega)) _⟩
  case pos =>
    by_cases hp' : picOk W' H' ys 255 = true
    case neg =>
      have hp2 : picOk W' H' ys 255 = false := by simpa using hp'
      rw [screenF_no (fun h => hp' h.2)]
      clear hp'
      go_enter Try.func28, Try.ntmps28
      go_wp2_with fail
      refine (impl_IsMatrix _ _ _ _ _ xs _ HN.out (by exact ((HA.out.alloc _).alloc _).alloc _) hl).mono ?_
      rintro e w1 ⟨rfl, hb⟩
      have HB1 := Lib.hid (bTrans (bAlloc (bAlloc (bAlloc (Below.refl _ _) _) _) _) hb)
      have KP1 := Lib.hid ((((Blk.new' (g := w.heap.size) 27 #[.int .i64 W, .int .i64 H, .slice ad n cap] (by first | rfl | simp)).alloc _).alloc _).below' hb)
      have KQ1 : Hid (Blk w1 (w.heap.size + 1) 32 #[.int .i64 W', .int .i64 H', .slice ad' n' cap']) := Lib.hid (((Blk.new' (g := w.heap.size + 1) 32 #[.int .i64 W', .int .i64 H', .slice ad' n' cap'] (by simp)).alloc _).below' hb)
      have KR1 : Hid (Blk w1 (w.heap.size + 1 + 1) 32 #[.int .i64 0, .int .i64 0, .slice none 0 0]) := Lib.hid ((Blk.new' (g := w.heap.size + 1 + 1) 32 #[.int .i64 0, .int .i64 0, .slice none 0 0] (by simp)).below' hb)
      obtain ⟨l1, c0, c1, c2⟩ := KP1.out.c3
      obtain ⟨n1, g0, g1, g2⟩ := KQ1.out.c3
      obtain ⟨m1, d0, d1, d2⟩ := KR1.out.c3
      obtain ⟨f0, f1, f2⟩ := KR1.out.f3
      clear hb
      rw [hp]
      go_wp2_with fail
      refine (impl_IsPicture _ _ _ _ _ ys _ HN'.out (by exact HA'.out.below HB1.out) hl').mono ?_
      rintro e w1 ⟨rfl, hb⟩
      have HB1 := Lib.hid (bTrans HB1.out hb)
      have KP1 := Lib.hid (KP1.out.below' hb)
      have KQ1 := Lib.hid (KQ1.out.below' hb)
      have KR1 := Lib.hid (KR1.out.below' hb)
      clear c0 c1 c2 d0 d1 d2 f0 f1 f2 g0 g1 g2 hb
      obtain ⟨l1, c0, c1, c2⟩ := KP1.out.c3
      obtain ⟨n1, g0, g1, g2⟩ := KQ1.out.c3
      obtain ⟨m1, d0, d1, d2⟩ := KR1.out.c3
      obtain ⟨f0, f1, f2⟩ := KR1.out.f3
      rw [hp2]
      go_wp2_with fail
      exact bodyPost_ret (v := .agg #[.int .i64 0, .int .i64 0, .slice none 0 0]) (by simp [results, Try.results28, go_sem, d0, d1, d2]) rfl ⟨none, 0, 0, rfl, OwnA.none _ _, by omega,
        ((HB1.out.setCell (by first | (simp; done) | (simp; omega)) _).setCell (by first | (simp; done) | (simp; omega)) _).setCell (by first | (simp; done) | (simp; omega)) _⟩
    case pos =>
      rw [screenF_yes HN.out HN'.out hp hp']
      have HP := Lib.hid hp
      have HP' := Lib.hid hp'
      obtain ⟨hs, hq, hi, hd⟩ := matOk_bd HN.out hp
      obtain ⟨b1, b2, b3, b4, b5, b6⟩ := matSize_bd hs
      have HQ := Lib.hid hq
      have HI := Lib.hid hi
      have HD := Lib.hid hd
      have HS := Lib.hid hs
      have hn1 : 1 ≤ n := by omega
      have hn2 : n ≤ 256 := by omega
      clear hq hi hs hd
      obtain ⟨hs, hq, hi⟩ := picOk_bd HN'.out hp'
      obtain ⟨b1', b2', b3', b4', b5', b6'⟩ := sizeOk_bd hs
      have HQ' := Lib.hid hq
      have HI' := Lib.hid hi
      have HS' := Lib.hid hs
      have hn1' : 1 ≤ n' := by omega
      have hn2' : n' ≤ 1024 := by omega
      clear hq hi hs
      go_enter Try.func28, Try.ntmps28
      go_wp2_with fail
      refine (impl_IsMatrix _ _ _ _ _ xs _ HN.out (by exact ((HA.out.alloc _).alloc _).alloc _) hl).mono ?_
      rintro e w1 ⟨rfl, hb⟩
      have HB1 := Lib.hid (bTrans (bAlloc (bAlloc (bAlloc (Below.refl _ _) _) _) _) hb)
      have KP1 := Lib.hid ((((Blk.new' (g := w.heap.size) 27 #[.int .i64 W, .int .i64 H, .slice ad n cap] (by first | rfl | simp)).alloc _).alloc _).below' hb)
      have KQ1 : Hid (Blk w1 (w.heap.size + 1) 32 #[.int .i64 W', .int .i64 H', .slice ad' n' cap']) := Lib.hid (((Blk.new' (g := w.heap.size + 1) 32 #[.int .i64 W', .int .i64 H', .slice ad' n' cap'] (by simp)).alloc _).below' hb)
      have KR1 : Hid (Blk w1 (w.heap.size + 1 + 1) 32 #[.int .i64 0, .int .i64 0, .slice none 0 0]) := Lib.hid ((Blk.new' (g := w.heap.size + 1 + 1) 32 #[.int .i64 0, .int .i64 0, .slice none 0 0] (by simp)).below' hb)
      obtain ⟨l1, c0, c1, c2⟩ := KP1.out.c3
      obtain ⟨n1, g0, g1, g2⟩ := KQ1.out.c3
      obtain ⟨m1, d0, d1, d2⟩ := KR1.out.c3
      obtain ⟨f0, f1, f2⟩ := KR1.out.f3
      clear hb
      rw [hp]
      go_wp2_with fail
      refine (impl_IsPicture _ _ _ _ _ ys _ HN'.out (by exact HA'.out.below HB1.out) hl').mono ?_
      rintro e w1 ⟨rfl, hb⟩
      have HB1 := Lib.hid (bTrans HB1.out hb)
      have KP1 := Lib.hid (KP1.out.below' hb)
      have KQ1 := Lib.hid (KQ1.out.below' hb)
      have KR1 := Lib.hid (KR1.out.below' hb)
      clear c0 c1 c2 d0 d1 d2 f0 f1 f2 g0 g1 g2 hb
      obtain ⟨l1, c0, c1, c2⟩ := KP1.out.c3
      obtain ⟨n1, g0, g1, g2⟩ := KQ1.out.c3
      obtain ⟨m1, d0, d1, d2⟩ := KR1.out.c3
      obtain ⟨f0, f1, f2⟩ := KR1.out.f3
      rw [hp']
      clear hp hp'
      go_wp2_with fail
      have NP : w.heap.size + 1 + 1 ≠ w.heap.size := by omega
      have NQ : w.heap.size + 1 + 1 ≠ w.heap.size + 1 := by omega
      go_region_held3 (fun v => v.cell? ⟨w.heap.size, 0, none⟩ = some (.int .i64 W) ∧ v.cell? ⟨w.heap.size, 1, none⟩ = some (.int .i64 H) ∧ v.cell? ⟨w.heap.size, 2, none⟩ = some (.slice ad n cap) ∧ v.cell? ⟨w.heap.size + 1, 0, none⟩ = some (.int .i64 W') ∧ v.cell? ⟨w.heap.size + 1, 1, none⟩ = some (.int .i64 H') ∧ v.cell? ⟨w.heap.size + 1, 2, none⟩ = some (.slice ad' n' cap'))
        (first | exact ⟨c0, c1, c2, g0, g1, g2⟩ | exact ⟨y0, y1, y2, y3, y4, y5⟩ | exact ⟨z0, z1, z2, z3, z4, z5⟩ | exact ⟨cell_far (cell_far (cell_far z0 NP) NP) NP, cell_far (cell_far (cell_far z1 NP) NP) NP, cell_far (cell_far (cell_far z2 NP) NP) NP, cell_far (cell_far (cell_far z3 NQ) NQ) NQ, cell_far (cell_far (cell_far z4 NQ) NQ) NQ, cell_far (cell_far (cell_far z5 NQ) NQ) NQ⟩)
        (first
          | (go_at_call 30; ((with_reducible refine (impl_LevelsFor_yes W H ad n cap xs W' H' ad' n' cap' ys _ HN.out (by exact (HA.out.below HB1.out).of_heap rfl) hl HN'.out (by exact (HA'.out.below HB1.out).of_heap rfl) hl' HP.out HP'.out).mono ?_); rintro e v1 ⟨a1, k1, rfl, ho1, hq1⟩; have y0 := (hq1.cell l1).trans c0; have y1 := (hq1.cell l1).trans c1; have y2 := (hq1.cell l1).trans c2; have y3 := (hq1.cell n1).trans g0; have y4 := (hq1.cell n1).trans g1; have y5 := (hq1.cell n1).trans g2))
          | (go_at_call 61; ((with_reducible refine (impl_screened W H ad n cap xs _ n' _ (ys.map (levelG n)) W' H' _ HN.out (by exact ((HA.out.below HB1.out).drew).below hq1) HP.out (by have := HN'.out; simp; omega) (by exact ho1.rd) HS'.out HQ'.out).mono ?_); rintro e v2 ⟨a2, n2, c2', rfl, ho2, hn2, hq2⟩; have z0 := (hq2.cell (Nat.lt_of_lt_of_le l1 hq1.size)).trans y0; have z1 := (hq2.cell (Nat.lt_of_lt_of_le l1 hq1.size)).trans y1; have z2 := (hq2.cell (Nat.lt_of_lt_of_le l1 hq1.size)).trans y2; have z3 := (hq2.cell (Nat.lt_of_lt_of_le n1 hq1.size)).trans y3; have z4 := (hq2.cell (Nat.lt_of_lt_of_le n1 hq1.size)).trans y4; have z5 := (hq2.cell (Nat.lt_of_lt_of_le n1 hq1.size)).trans y5; have KR5 := Lib.hid (((KR1.out.drew).below' hq1).below' hq2); obtain ⟨m5, r1, r2, r3⟩ := KR5.out.c3; obtain ⟨q0, q1, q2⟩ := KR5.out.f3)))
      have HB5 := Lib.hid (bTrans (bTrans HB1.out.drew hq1) hq2)
      have LR : w.heap.size + 1 + 1 < v1.heap.size := Nat.lt_of_lt_of_le m1 hq1.size
      have HO5 := Lib.hid ho2
      clear hq1 hq2 ho2 ho1 y0 y1 y2 y3 y4 y5 z0 z1 z2 z3 z4 z5
      go_wp2_with fail
      exact bodyPost_ret (v := .agg #[.int .i64 W', .int .i64 H', .slice a2 n2 c2']) (by simp [results, Try.results28, go_sem, m5, r1, r2, r3]) rfl
        ⟨_, _, _, rfl, (((HO5.out.other (by exact LR) _).other (by exact LR) _).other (by exact LR) _).mono (by omega), hn2, ((HB5.out.setCell (by simp; omega) _).setCell (by simp; omega) _).setCell (by simp; omega) _⟩

set_option maxHeartbeats 1600000 in
theorem spec_ScreenPicture (W H : Int) (ad : Option Addr) (n cap : Nat) (xs : List Int) (W' H' : Int) (ad' : Option Addr) (n' cap' : Nat) (ys : List Int) (w : World)
    (hn : xs.length = n) (ha : Rd w ad xs) (hl : n ≤ 9223372036854775807) (hn' : ys.length = n') (ha' : Rd w ad' ys) (hl' : n' ≤ 9223372036854775807) :
    Calls Try.prog 26 #[.agg #[.int .i64 W, .int .i64 H, .slice ad n cap], .agg #[.int .i64 W', .int .i64 H', .slice ad' n' cap']] w (PicOut w (screenF W H xs W' H' ys)) := by
  have HN := Lib.hid hn
  have HA := Lib.hid ha
  have HN' := Lib.hid hn'
  have HA' := Lib.hid ha'
  clear hn ha hn' ha'
  by_cases hp : matOk W H xs = true
  case neg =>
    have hp2 : matOk W H xs = false := by simpa using hp
    rw [screenF_no (fun h => hp h.1)]
    clear hp
    go_enter Try.func26, Try.ntmps26
    go_wp2_with fail
    refine (spec_IsMatrix _ _ _ _ _ xs _ HN.out (by exact ((HA.out.alloc _).alloc _).alloc _) hl).mono ?_
    rintro e w1 ⟨rfl, hb⟩
    have HB1 := Lib.hid (bTrans (bAlloc (bAlloc (bAlloc (Below.refl _ _) _) _) _) hb)
    have KP1 := Lib.hid ((((Blk.new' (g := w.heap.size) 27 #[.int .i64 W, .int .i64 H, .slice ad n cap] (by first | rfl | simp)).alloc _).alloc _).below' hb)
    have KQ1 : Hid (Blk w1 (w.heap.size + 1) 32 #[.int .i64 W', .int .i64 H', .slice ad' n' cap']) := Lib.hid (((Blk.new' (g := w.heap.size + 1) 32 #[.int .i64 W', .int .i64 H', .slice ad' n' cap'] (by simp)).alloc _).below' hb)
    have KR1 : Hid (Blk w1 (w.heap.size + 1 + 1) 32 #[.int .i64 0, .int .i64 0, .slice none 0 0]) := Lib.hid ((Blk.new' (g := w.heap.size + 1 + 1) 32 #[.int .i64 0, .int .i64 0, .slice none 0 0] (by simp)).below' hb)
    obtain ⟨l1, c0, c1, c2⟩ := KP1.out.c3
    obtain ⟨n1, g0, g1, g2⟩ := KQ1.out.c3
    obtain ⟨m1, d0, d1, d2⟩ := KR1.out.c3
    obtain ⟨f0, f1, f2⟩ := KR1.out.f3
    clear hb
    rw [hp2]
    go_wp2_with fail
    exact bodyPost_ret (v := .agg #[.int .i64 0, .int .i64 0, .slice none 0 0]) (by simp [results, Try.results26, go_sem, d0, d1, d2]) rfl ⟨none, 0, 0, rfl, OwnA.none _ _, by omega,
      ((HB1.out.setCell (by first | (simp; done) | (simp; omega)) _).setCell (by first | (simp; done) | (simp; omega)) _).setCell (by first | (simp; done) | (simp; omega)) _⟩
  case pos =>
    by_cases hp' : picOk W' H' ys 255 = true
    case neg =>
      have hp2 : picOk W' H' ys 255 = false := by simpa using hp'
      rw [screenF_no (fun h => hp' h.2)]
      clear hp'
      go_enter Try.func26, Try.ntmps26
      go_wp2_with fail
      refine (spec_IsMatrix _ _ _ _ _ xs _ HN.out (by exact ((HA.out.alloc _).alloc _).alloc _) hl).mono ?_
      rintro e w1 ⟨rfl, hb⟩
      have HB1 := Lib.hid (bTrans (bAlloc (bAlloc (bAlloc (Below.refl _ _) _) _) _) hb)
      have KP1 := Lib.hid ((((Blk.new' (g := w.heap.size) 27 #[.int .i64 W, .int .i64 H, .slice ad n cap] (by first | rfl | simp)).alloc _).alloc _).below' hb)
      have KQ1 : Hid (Blk w1 (w.heap.size + 1) 32 #[.int .i64 W', .int .i64 H', .slice ad' n' cap']) := Lib.hid (((Blk.new' (g := w.heap.size + 1) 32 #[.int .i64 W', .int .i64 H', .slice ad' n' cap'] (by simp)).alloc _).below' hb)
      have KR1 : Hid (Blk w1 (w.heap.size + 1 + 1) 32 #[.int .i64 0, .int .i64 0, .slice none 0 0]) := Lib.hid ((Blk.new' (g := w.heap.size + 1 + 1) 32 #[.int .i64 0, .int .i64 0, .slice none 0 0] (by simp)).below' hb)
      obtain ⟨l1, c0, c1, c2⟩ := KP1.out.c3
      obtain ⟨n1, g0, g1, g2⟩ := KQ1.out.c3
      obtain ⟨m1, d0, d1, d2⟩ := KR1.out.c3
      obtain ⟨f0, f1, f2⟩ := KR1.out.f3
      clear hb
      rw [hp]
      go_wp2_with fail
      refine (spec_IsPicture _ _ _ _ _ ys _ HN'.out (by exact HA'.out.below HB1.out) hl').mono ?_
      rintro e w1 ⟨rfl, hb⟩
      have HB1 := Lib.hid (bTrans HB1.out hb)
      have KP1 := Lib.hid (KP1.out.below' hb)
      have KQ1 := Lib.hid (KQ1.out.below' hb)
      have KR1 := Lib.hid (KR1.out.below' hb)
      clear c0 c1 c2 d0 d1 d2 f0 f1 f2 g0 g1 g2 hb
      obtain ⟨l1, c0, c1, c2⟩ := KP1.out.c3
      obtain ⟨n1, g0, g1, g2⟩ := KQ1.out.c3
      obtain ⟨m1, d0, d1, d2⟩ := KR1.out.c3
      obtain ⟨f0, f1, f2⟩ := KR1.out.f3
      rw [hp2]
      go_wp2_with fail
      exact bodyPost_ret (v := .agg #[.int .i64 0, .int .i64 0, .slice none 0 0]) (by simp [results, Try.results26, go_sem, d0, d1, d2]) rfl ⟨none, 0, 0, rfl, OwnA.none _ _, by omega,
        ((HB1.out.setCell (by first | (simp; done) | (simp; omega)) _).setCell (by first | (simp; done) | (simp; omega)) _).setCell (by first | (simp; done) | (simp; omega)) _⟩
    case pos =>
      rw [screenF_yes HN.out HN'.out hp hp']
      obtain ⟨hs, hq, hi, hd⟩ := matOk_bd HN.out hp
      obtain ⟨b1, b2, b3, b4, b5, b6⟩ := matSize_bd hs
      have HQ := Lib.hid hq
      have HI := Lib.hid hi
      have HD := Lib.hid hd
      have HS := Lib.hid hs
      have hn1 : 1 ≤ n := by omega
      have hn2 : n ≤ 256 := by omega
      clear hq hi hs hd
      obtain ⟨hs, hq, hi⟩ := picOk_bd HN'.out hp'
      obtain ⟨b1', b2', b3', b4', b5', b6'⟩ := sizeOk_bd hs
      have HQ' := Lib.hid hq
      have HI' := Lib.hid hi
      have HS' := Lib.hid hs
      have hn1' : 1 ≤ n' := by omega
      have hn2' : n' ≤ 1024 := by omega
      clear hq hi hs
      go_enter Try.func26, Try.ntmps26
      go_wp2_with fail
      refine (spec_IsMatrix _ _ _ _ _ xs _ HN.out (by exact ((HA.out.alloc _).alloc _).alloc _) hl).mono ?_
      rintro e w1 ⟨rfl, hb⟩
      have HB1 := Lib.hid (bTrans (bAlloc (bAlloc (bAlloc (Below.refl _ _) _) _) _) hb)
      have KP1 := Lib.hid ((((Blk.new' (g := w.heap.size) 27 #[.int .i64 W, .int .i64 H, .slice ad n cap] (by first | rfl | simp)).alloc _).alloc _).below' hb)
      have KQ1 : Hid (Blk w1 (w.heap.size + 1) 32 #[.int .i64 W', .int .i64 H', .slice ad' n' cap']) := Lib.hid (((Blk.new' (g := w.heap.size + 1) 32 #[.int .i64 W', .int .i64 H', .slice ad' n' cap'] (by simp)).alloc _).below' hb)
      have KR1 : Hid (Blk w1 (w.heap.size + 1 + 1) 32 #[.int .i64 0, .int .i64 0, .slice none 0 0]) := Lib.hid ((Blk.new' (g := w.heap.size + 1 + 1) 32 #[.int .i64 0, .int .i64 0, .slice none 0 0] (by simp)).below' hb)
      obtain ⟨l1, c0, c1, c2⟩ := KP1.out.c3
      obtain ⟨n1, g0, g1, g2⟩ := KQ1.out.c3
      obtain ⟨m1, d0, d1, d2⟩ := KR1.out.c3
      obtain ⟨f0, f1, f2⟩ := KR1.out.f3
      clear hb
      rw [hp]
      go_wp2_with fail
      refine (spec_IsPicture _ _ _ _ _ ys _ HN'.out (by exact HA'.out.below HB1.out) hl').mono ?_
      rintro e w1 ⟨rfl, hb⟩
      have HB1 := Lib.hid (bTrans HB1.out hb)
      have KP1 := Lib.hid (KP1.out.below' hb)
      have KQ1 := Lib.hid (KQ1.out.below' hb)
      have KR1 := Lib.hid (KR1.out.below' hb)
      clear c0 c1 c2 d0 d1 d2 f0 f1 f2 g0 g1 g2 hb
      obtain ⟨l1, c0, c1, c2⟩ := KP1.out.c3
      obtain ⟨n1, g0, g1, g2⟩ := KQ1.out.c3
      obtain ⟨m1, d0, d1, d2⟩ := KR1.out.c3
      obtain ⟨f0, f1, f2⟩ := KR1.out.f3
      rw [hp']
      obtain ⟨m, hmm⟩ : ∃ m, m = n' := ⟨_, rfl⟩
      subst hmm
      obtain ⟨tw, hmm⟩ : ∃ t, t = W' := ⟨_, rfl⟩
      subst hmm
      obtain ⟨th, hmm⟩ : ∃ t, t = H' := ⟨_, rfl⟩
      subst hmm
      have t1 := b1'
      have hm2 := hn2'
      go_wp2_with fail
      refine (spec_l1Empty tw th m _ HS'.out HQ'.out).mono ?_
      rintro e w2 ⟨g, rfl, hg, ho, hb⟩
      have HB2 := Lib.hid (HB1.out.trans (hb.mono HB1.out.size))
      have KP2 := Lib.hid (KP1.out.below' hb)
      have KQ2 := Lib.hid (KQ1.out.below' hb)
      have KR2 := Lib.hid (KR1.out.below' hb)
      have HO := Lib.hid ho
      have HG : Hid (w1.heap.size ≤ g) := Lib.hid hg
      clear hb hg ho c0 c1 c2 d0 d1 d2 f0 f1 f2 g0 g1 g2
      obtain ⟨n2, e0, e1, e2⟩ := KQ2.out.c3
      go_wp2_with fail
      go_loopw [25] (fun i wr => ∃ k : Nat, k ≤ m ∧ i = .int .i64 k ∧ Own wr g m m (filled (gen m (dotG W H xs (ys.map (levelG n)) tw)) (List.replicate m 0) k) ∧ (w2.alloc (.cells #[.int .i64 tw, .int .i64 th, .slice (some ⟨g, 0, none⟩) m m] 32)).grownBy wr (some g)) (fun i _ => m - (intOf i).toNat)
      case atStart => exact ⟨0, Nat.zero_le _, rfl, by rw [filled_zero]; exact HO.out.alloc _, grown_refl _ _⟩
      case round =>
        obtain ⟨k, hk, rfl, ho, hg⟩ := hrel
        have HBr := Lib.hid ((HB2.out.alloc HB2.out.size _).grown hg (by have := HB2.out.size; simp; omega) (by intro k hk; cases hk; have := HG.out; omega))
        have KO := Lib.hid ((Blk.new w2 32 #[.int .i64 tw, .int .i64 th, .slice (some ⟨g, 0, none⟩) m m]).grown hg (by have := HO.out.lt; simp; omega))
        obtain ⟨l0, o0, o1, o2⟩ := KO.out.c3
        have KP := Lib.hid ((KP2.out.alloc _).grown hg (by have := HG.out; have := KP1.out.lt; simp; omega))
        obtain ⟨l9, p0, p1, p2⟩ := KP.out.c3
        have KQ := Lib.hid ((KQ2.out.alloc _).grown hg (by have := HG.out; have := KQ1.out.lt; simp; omega))
        obtain ⟨l8, u0, u1, u2⟩ := KQ.out.c3
        by_cases hlt : k < m
        · obtain ⟨ba, oa, hae, hal, hac⟩ := (HA'.out.below HBr.out).at (by have := HN'.out; omega)
          have h1 := hac k (by have := HN'.out; omega)
          subst hae
          clear hac
          obtain ⟨V1, V2⟩ := within_at HI'.out k (by have := HN'.out; omega)
          have g2 : wr.cell? ⟨g, k, none⟩ = some (.int .i64 ((filled (gen m (dotG W H xs (ys.map (levelG n)) tw)) (List.replicate m 0) k).getD k 0)) := ho.cell hlt
          have g3 : wr.frozen? ⟨g, k, none⟩ = false := ho.frozen k
          have gl := ho.lt
          have HO4 := Lib.hid ho
          clear ho
          have hW0 : (tw == 0) = false := by simp; omega
          have hW1 : ¬ tw = 0 := by omega
          obtain ⟨X, Y, x0, x1, y0, y1, tX, tY, wY, HXY⟩ := tm_facts k tw t1 (by omega)
          have HV : Hid ((gen m (dotG W H xs (ys.map (levelG n)) tw)).getD k 0 = if rankOf W H xs X Y < levelG n (ys[k]?.getD 0) then 1 else 0) := Lib.hid (by rw [gen_get _ _ _ hlt, HXY.out.1, HXY.out.2]; (have hk5 : k < ys.length := by have := HN'.out; omega); unfold dotG; simp [List.getElem?_map, List.getElem?_eq_getElem hk5])
          by_cases hb : rankOf W H xs X Y < levelG n (ys[k]?.getD 0)
          · go_wp2_with fail
            go_region_held3 (fun v => v.cell? ⟨w.heap.size, 0, none⟩ = some (.int .i64 W) ∧ v.cell? ⟨w.heap.size, 1, none⟩ = some (.int .i64 H) ∧ v.cell? ⟨w.heap.size, 2, none⟩ = some (.slice ad n cap) ∧ v.cell? ⟨w.heap.size + 1, 0, none⟩ = some (.int .i64 tw))
              (first | exact ⟨p0, p1, p2, u0⟩ | exact ⟨(hq1.cell l9).trans p0, (hq1.cell l9).trans p1, (hq1.cell l9).trans p2, (hq1.cell l8).trans u0⟩)
              (first
                | (go_at_call 58; ((with_reducible refine (spec_l2Rank W H ad n cap xs X Y _ HN.out (by exact (HA.out.below HBr.out).of_heap rfl) HQ.out b1 b3 hn2 b2 b4).mono ?_); rintro e v1 ⟨rfl, hq1⟩; have y3 := (hq1.cell l0).trans o2; have t2' := (hq1.cell gl).trans g2; have t3' := (hq1.frozen gl).trans g3))
                | (go_at_call 52; ((with_reducible refine (spec_l3Level n _ _ V1 V2 hn2).mono ?_); rintro e v5 ⟨rfl, rfl⟩)))
            have hv : (gen m (dotG W H xs (ys.map (levelG n)) tw)).getD k 0 = 1 := by rw [HV.out, if_pos hb]
            have hs := ((HO4.out.drewN 1).below hq1 gl).set k 1
            rw [filled_succ (gen m (dotG W H xs (ys.map (levelG n)) tw)) _ k _ (by rw [gen_len]; exact hlt) (by simp; omega) hv] at hs
            have HSt := Lib.hid hs
            have HG5 := Lib.hid (grown_trans hg (grown_of_below (row := some g) (below_undrew hq1)))
            clear hs hv hg
            go_wp2_with fail
            go_roundw
            case rel => exact ⟨k + 1, by omega, by go_num, HSt.out, grown_set HG5.out _⟩
            case measure => simp [intOf]; omega
          · go_wp2_with fail
            go_region_held3 (fun v => v.cell? ⟨w.heap.size, 0, none⟩ = some (.int .i64 W) ∧ v.cell? ⟨w.heap.size, 1, none⟩ = some (.int .i64 H) ∧ v.cell? ⟨w.heap.size, 2, none⟩ = some (.slice ad n cap) ∧ v.cell? ⟨w.heap.size + 1, 0, none⟩ = some (.int .i64 tw))
              (first | exact ⟨p0, p1, p2, u0⟩ | exact ⟨(hq1.cell l9).trans p0, (hq1.cell l9).trans p1, (hq1.cell l9).trans p2, (hq1.cell l8).trans u0⟩)
              (first
                | (go_at_call 58; ((with_reducible refine (spec_l2Rank W H ad n cap xs X Y _ HN.out (by exact (HA.out.below HBr.out).of_heap rfl) HQ.out b1 b3 hn2 b2 b4).mono ?_); rintro e v1 ⟨rfl, hq1⟩; have y3 := (hq1.cell l0).trans o2; have t2' := (hq1.cell gl).trans g2; have t3' := (hq1.frozen gl).trans g3))
                | (go_at_call 52; ((with_reducible refine (spec_l3Level n _ _ V1 V2 hn2).mono ?_); rintro e v5 ⟨rfl, rfl⟩)))
            have hs := filled_skip (gen m (dotG W H xs (ys.map (levelG n)) tw)) (List.replicate m 0) k (by rw [gen_len]; exact hlt) (by simp; omega) (by rw [HV.out, if_neg (by omega)]; simp [List.getD, hlt])
            have HSt : Hid (Own v1 g m m (filled (gen m (dotG W H xs (ys.map (levelG n)) tw)) (List.replicate m 0) (k + 1))) := Lib.hid (by rw [← hs]; exact (HO4.out.drewN 1).below hq1 gl)
            have HG5 := Lib.hid (grown_trans hg (grown_of_below (row := some g) (below_undrew hq1)))
            clear hs hg
            go_wp2_with fail
            go_roundw
            case rel => exact ⟨k + 1, by omega, by go_num, HSt.out, HG5.out⟩
            case measure => simp [intOf]; omega
        · obtain rfl : m = k := by omega
          have KR := Lib.hid ((KR2.out.alloc _).grown hg (by have := HG.out; have := KR2.out.lt; simp; omega))
          obtain ⟨r0, r1, r2, r3⟩ := KR.out.c3
          obtain ⟨q0, q1, q2⟩ := KR.out.f3
          rw [filled_at (gen m (dotG W H xs (ys.map (levelG n)) tw)) _ m (by rw [gen_len]) (by simp)] at ho
          have HO3 := Lib.hid ho
          clear ho
          go_wp2_with fail
          exact bodyPost_ret (v := .agg #[.int .i64 tw, .int .i64 th, .slice (some ⟨g, 0, none⟩) m m]) (by simp [results, Try.results26, go_sem, r1, r2, r3]) rfl
            ⟨_, _, _, rfl, OwnA.mk (((HO3.out.other (by have := HG.out; simp; omega) _).other (by have := HG.out; simp; omega) _).other (by have := HG.out; simp; omega) _) (by have := HG.out; omega), by omega,
              ((HBr.out.setCell (by first | (simp; done) | (simp; omega)) _).setCell (by first | (simp; done) | (simp; omega)) _).setCell (by first | (simp; done) | (simp; omega)) _⟩

end Go.Proofs.Ytcebgcdhigonoaa
