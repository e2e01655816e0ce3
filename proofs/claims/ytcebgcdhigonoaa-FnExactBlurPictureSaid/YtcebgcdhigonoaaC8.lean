/-
  Contracts of SamePicture, CoversPicture, AddPictures and their helpers (program and model).
-/
import Derived.Test.YtcebgcdhigonoaaC3
import Derived.Deep.RegionHeld3
namespace Go.Proofs.Ytcebgcdhigonoaa
open Go.RowKit
set_option linter.unusedVariables false
set_option linter.unusedSimpArgs false

theorem pairOk_no1 {W H W' H' : Int} {xs ys : List Int} (h : ¬ picOk W H xs 255 = true) : pairOk W H xs W' H' ys = false := by unfold pairOk; simp [h]

theorem pairOk_no2 {W H W' H' : Int} {xs ys : List Int} (h : ¬ picOk W' H' ys 255 = true) : pairOk W H xs W' H' ys = false := by unfold pairOk; simp [h]

theorem pairOk_no3 {W H W' H' : Int} {xs ys : List Int} (h : ¬ (W = W' ∧ H = H')) : pairOk W H xs W' H' ys = false := by unfold pairOk; rw [decide_eq_false h]; simp

theorem pairOk_yes {W H W' H' : Int} {xs ys : List Int} (h : picOk W H xs 255 = true) (h2 : picOk W' H' ys 255 = true) (h3 : W = W' ∧ H = H') : pairOk W H xs W' H' ys = true := by unfold pairOk; rw [h, h2, decide_eq_true h3]; rfl

set_option maxHeartbeats 400000 in
theorem impl_sidesOf (W H : Int) (ad : Option Addr) (n cap : Nat) (w : World) :
    Calls Try.prog 96 #[.agg #[.int .i64 W, .int .i64 H, .slice ad n cap]] w fun e w' => e = .returned (.agg #[.int .i64 W, .int .i64 H]) ∧ Below w.heap.size w w' := by
  go_enter Try.func96, Try.ntmps96
  go_wp2_with fail
  exact bodyPost_ret (v := .agg #[.int .i64 W, .int .i64 H]) (by simp [results, Try.results96, go_sem]) rfl ⟨rfl, Joins.below_alloc2 _ _ _⟩

set_option maxHeartbeats 400000 in
theorem spec_l1Pair (W H : Int) (ad : Option Addr) (n cap : Nat) (xs : List Int) (W' H' : Int) (ad' : Option Addr) (n' cap' : Nat) (ys : List Int) (w : World)
    (hn : xs.length = n) (ha : Rd w ad xs) (hl : n ≤ 9223372036854775807) (hn' : ys.length = n') (ha' : Rd w ad' ys) (hl' : n' ≤ 9223372036854775807) :
    Calls Try.prog 75 #[.agg #[.int .i64 W, .int .i64 H, .slice ad n cap], .agg #[.int .i64 W', .int .i64 H', .slice ad' n' cap']] w fun e w' => e = .returned (.bool (pairOk W H xs W' H' ys)) ∧ Below w.heap.size w w' := by
  have HN := Lib.hid hn
  have HA := Lib.hid ha
  have HN' := Lib.hid hn'
  have HA' := Lib.hid ha'
  clear hn ha hn' ha'
  by_cases hp : picOk W H xs 255 = true
  case neg =>
    have hp0 : picOk W H xs 255 = false := by simpa using hp
    rw [pairOk_no1 hp]
    clear hp
    go_enter Try.func75, Try.ntmps75
    go_wp2_with fail
    refine (spec_IsPicture _ _ _ _ _ xs _ HN.out (by exact (HA.out.alloc _).alloc _) hl).mono ?_
    rintro e w1 ⟨rfl, hb⟩
    have HB1 := Lib.hid (bTrans (bAlloc (bAlloc (Below.refl _ _) _) _) hb)
    have KP1 := Lib.hid (((Blk.new' (g := w.heap.size) 32 #[.int .i64 W, .int .i64 H, .slice ad n cap] (by first | rfl | simp)).alloc _).below' hb)
    have KQ1 : Hid (Blk w1 (w.heap.size + 1) 32 #[.int .i64 W', .int .i64 H', .slice ad' n' cap']) := Lib.hid ((Blk.new' (g := w.heap.size + 1) 32 #[.int .i64 W', .int .i64 H', .slice ad' n' cap'] (by simp)).below' hb)
    obtain ⟨l1, c0, c1, c2⟩ := KP1.out.c3
    obtain ⟨m1, d0, d1, d2⟩ := KQ1.out.c3
    clear hb
    rw [hp0]
    go_wp2_with fail
    go_ret
    exact ⟨rfl, HB1.out⟩
  case pos =>
    by_cases hp' : picOk W' H' ys 255 = true
    case neg =>
      have hp0 : picOk W' H' ys 255 = false := by simpa using hp'
      rw [pairOk_no2 hp']
      clear hp'
      go_enter Try.func75, Try.ntmps75
      go_wp2_with fail
      refine (spec_IsPicture _ _ _ _ _ xs _ HN.out (by exact (HA.out.alloc _).alloc _) hl).mono ?_
      rintro e w1 ⟨rfl, hb⟩
      have HB1 := Lib.hid (bTrans (bAlloc (bAlloc (Below.refl _ _) _) _) hb)
      have KP1 := Lib.hid (((Blk.new' (g := w.heap.size) 32 #[.int .i64 W, .int .i64 H, .slice ad n cap] (by first | rfl | simp)).alloc _).below' hb)
      have KQ1 : Hid (Blk w1 (w.heap.size + 1) 32 #[.int .i64 W', .int .i64 H', .slice ad' n' cap']) := Lib.hid ((Blk.new' (g := w.heap.size + 1) 32 #[.int .i64 W', .int .i64 H', .slice ad' n' cap'] (by simp)).below' hb)
      obtain ⟨l1, c0, c1, c2⟩ := KP1.out.c3
      obtain ⟨m1, d0, d1, d2⟩ := KQ1.out.c3
      clear hb
      rw [hp]
      go_wp2_with fail
      refine (spec_IsPicture _ _ _ _ _ ys _ HN'.out (by exact HA'.out.below HB1.out) hl').mono ?_
      rintro e w2 ⟨rfl, hb⟩
      have HB2 := Lib.hid (bTrans HB1.out hb)
      have KP2 := Lib.hid (KP1.out.below' hb)
      have KQ2 := Lib.hid (KQ1.out.below' hb)
      clear c0 c1 c2 d0 d1 d2 hb
      obtain ⟨l2, c0, c1, c2⟩ := KP2.out.c3
      obtain ⟨m2, d0, d1, d2⟩ := KQ2.out.c3
      rw [hp0]
      go_wp2_with fail
      go_ret
      exact ⟨rfl, HB2.out⟩
    case pos =>
      by_cases hs : W = W' ∧ H = H'
      case pos =>
        rw [pairOk_yes hp hp' hs]
        have e1 : (W == W') = true := by simpa using hs.1
        have e2 : (H == H') = true := by simpa using hs.2
        have HS := Lib.hid hs
        clear hs
        go_enter Try.func75, Try.ntmps75
        go_wp2_with fail
        refine (spec_IsPicture _ _ _ _ _ xs _ HN.out (by exact (HA.out.alloc _).alloc _) hl).mono ?_
        rintro e w1 ⟨rfl, hb⟩
        have HB1 := Lib.hid (bTrans (bAlloc (bAlloc (Below.refl _ _) _) _) hb)
        have KP1 := Lib.hid (((Blk.new' (g := w.heap.size) 32 #[.int .i64 W, .int .i64 H, .slice ad n cap] (by first | rfl | simp)).alloc _).below' hb)
        have KQ1 : Hid (Blk w1 (w.heap.size + 1) 32 #[.int .i64 W', .int .i64 H', .slice ad' n' cap']) := Lib.hid ((Blk.new' (g := w.heap.size + 1) 32 #[.int .i64 W', .int .i64 H', .slice ad' n' cap'] (by simp)).below' hb)
        obtain ⟨l1, c0, c1, c2⟩ := KP1.out.c3
        obtain ⟨m1, d0, d1, d2⟩ := KQ1.out.c3
        clear hb
        rw [hp]
        go_wp2_with fail
        refine (spec_IsPicture _ _ _ _ _ ys _ HN'.out (by exact HA'.out.below HB1.out) hl').mono ?_
        rintro e w2 ⟨rfl, hb⟩
        have HB2 := Lib.hid (bTrans HB1.out hb)
        have KP2 := Lib.hid (KP1.out.below' hb)
        have KQ2 := Lib.hid (KQ1.out.below' hb)
        clear c0 c1 c2 d0 d1 d2 hb
        obtain ⟨l2, c0, c1, c2⟩ := KP2.out.c3
        obtain ⟨m2, d0, d1, d2⟩ := KQ2.out.c3
        rw [hp']
        go_wp2_with fail
        go_ret
        exact ⟨rfl, HB2.out⟩
      case neg =>
        rw [pairOk_no3 hs]
        by_cases hw : W = W'
        · have e1 : (W == W') = true := by simpa using hw
          have e2 : (H == H') = false := by
            rw [beq_eq_false_iff_ne]; exact fun h => hs ⟨hw, h⟩
          clear hs hw
          go_enter Try.func75, Try.ntmps75
          go_wp2_with fail
          refine (spec_IsPicture _ _ _ _ _ xs _ HN.out (by exact (HA.out.alloc _).alloc _) hl).mono ?_
          rintro e w1 ⟨rfl, hb⟩
          have HB1 := Lib.hid (bTrans (bAlloc (bAlloc (Below.refl _ _) _) _) hb)
          have KP1 := Lib.hid (((Blk.new' (g := w.heap.size) 32 #[.int .i64 W, .int .i64 H, .slice ad n cap] (by first | rfl | simp)).alloc _).below' hb)
          have KQ1 : Hid (Blk w1 (w.heap.size + 1) 32 #[.int .i64 W', .int .i64 H', .slice ad' n' cap']) := Lib.hid ((Blk.new' (g := w.heap.size + 1) 32 #[.int .i64 W', .int .i64 H', .slice ad' n' cap'] (by simp)).below' hb)
          obtain ⟨l1, c0, c1, c2⟩ := KP1.out.c3
          obtain ⟨m1, d0, d1, d2⟩ := KQ1.out.c3
          clear hb
          rw [hp]
          go_wp2_with fail
          refine (spec_IsPicture _ _ _ _ _ ys _ HN'.out (by exact HA'.out.below HB1.out) hl').mono ?_
          rintro e w2 ⟨rfl, hb⟩
          have HB2 := Lib.hid (bTrans HB1.out hb)
          have KP2 := Lib.hid (KP1.out.below' hb)
          have KQ2 := Lib.hid (KQ1.out.below' hb)
          clear c0 c1 c2 d0 d1 d2 hb
          obtain ⟨l2, c0, c1, c2⟩ := KP2.out.c3
          obtain ⟨m2, d0, d1, d2⟩ := KQ2.out.c3
          rw [hp']
          go_wp2_with fail
          go_ret
          exact ⟨rfl, HB2.out⟩
        · have e1 : (W == W') = false := by simpa using hw
          clear hs hw
          go_enter Try.func75, Try.ntmps75
          go_wp2_with fail
          refine (spec_IsPicture _ _ _ _ _ xs _ HN.out (by exact (HA.out.alloc _).alloc _) hl).mono ?_
          rintro e w1 ⟨rfl, hb⟩
          have HB1 := Lib.hid (bTrans (bAlloc (bAlloc (Below.refl _ _) _) _) hb)
          have KP1 := Lib.hid (((Blk.new' (g := w.heap.size) 32 #[.int .i64 W, .int .i64 H, .slice ad n cap] (by first | rfl | simp)).alloc _).below' hb)
          have KQ1 : Hid (Blk w1 (w.heap.size + 1) 32 #[.int .i64 W', .int .i64 H', .slice ad' n' cap']) := Lib.hid ((Blk.new' (g := w.heap.size + 1) 32 #[.int .i64 W', .int .i64 H', .slice ad' n' cap'] (by simp)).below' hb)
          obtain ⟨l1, c0, c1, c2⟩ := KP1.out.c3
          obtain ⟨m1, d0, d1, d2⟩ := KQ1.out.c3
          clear hb
          rw [hp]
          go_wp2_with fail
          refine (spec_IsPicture _ _ _ _ _ ys _ HN'.out (by exact HA'.out.below HB1.out) hl').mono ?_
          rintro e w2 ⟨rfl, hb⟩
          have HB2 := Lib.hid (bTrans HB1.out hb)
          have KP2 := Lib.hid (KP1.out.below' hb)
          have KQ2 := Lib.hid (KQ1.out.below' hb)
          clear c0 c1 c2 d0 d1 d2 hb
          obtain ⟨l2, c0, c1, c2⟩ := KP2.out.c3
          obtain ⟨m2, d0, d1, d2⟩ := KQ2.out.c3
          rw [hp']
          go_wp2_with fail
          go_ret
          exact ⟨rfl, HB2.out⟩

end Go.Proofs.Ytcebgcdhigonoaa
