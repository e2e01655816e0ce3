/-
  Contracts of SamePicture, CoversPicture, AddPictures and their helpers (program and model).
-/
import Derived.Test.YtgepjfdnlnemjaaC3
import Derived.Deep.RegionHeld3
namespace Go.Proofs.Ytgepjfdnlnemjaa
open Go.RowKit
set_option linter.unusedVariables false
set_option linter.unusedSimpArgs false

set_option maxHeartbeats 400000 in
theorem lib_Equal (a b : Option Addr) (n m c d : Nat) (xs ys : List Int) (w : World) (hn : xs.length = n) (hm : ys.length = m) (ha : Rd w a xs) (hb : Rd w b ys) (hl : n ≤ 9223372036854775807) (hl2 : m ≤ 9223372036854775807) :
    Calls Try.prog 69 #[.slice a n c, .slice b m d] w fun e w' => e = .returned (.bool (decide (xs = ys))) ∧ Below w.heap.size w w' := by
  by_cases hnm : n = m
  case neg =>
    have H : Hid (¬ xs = ys) := fun h => hnm (by rw [← hn, ← hm, h])
    have hq : ((n : Int) == (m : Int)) = false := by simp; omega
    have hq2 : ((n : Int) != (m : Int)) = true := by simp; omega
    have HN := Lib.hid hn
    have HM := Lib.hid hm
    have HA := Lib.hid ha
    have HB := Lib.hid hb
    clear hn hm hnm ha hb
    go_enter Try.func69, Try.ntmps69
    go_wp2
    go_ret
    exact ⟨by simp [H.out], Below.refl _ _⟩
  case pos =>
    subst hnm
    have HN := Lib.hid hn
    have HM := Lib.hid hm
    have HA := Lib.hid ha
    have HB := Lib.hid hb
    clear hn hm ha hb
    go_enter Try.func69, Try.ntmps69
    go_wp2
    go_loopw [13] (fun i wr => ∃ k : Nat, k ≤ n ∧ i = .int .i64 k ∧ Hid (xs.take k = ys.take k) ∧ ∃ q, wr = w.drewN q) (fun i _ => n - (intOf i).toNat)
    case atStart => exact ⟨0, Nat.zero_le _, rfl, rfl, 0, rfl⟩
    case round =>
      obtain ⟨k, hk, rfl, HT, q, rfl⟩ := hrel
      by_cases hlt : k < n
      · obtain ⟨ba, oa, hae, hal, hac⟩ := HA.out.at (by have := HN.out; omega)
        obtain ⟨bb, ob, hbe, hbl, hbc⟩ := HB.out.at (by have := HM.out; omega)
        subst hae hbe
        have h1 : w.cell? ⟨ba, oa + k, none⟩ = some (.int .i64 (xs.getD k 0)) := hac k (by have := HN.out; omega)
        have h2 : w.cell? ⟨bb, ob + k, none⟩ = some (.int .i64 (ys.getD k 0)) := hbc k (by have := HM.out; omega)
        clear hac hbc
        go_wp2
        go_quiet (fail)
        go_wp2
        · have hne : (xs[k]?.getD 0 != ys[k]?.getD 0) = true := by assumption
          go_ret
          refine ⟨ret_bool ?_, (Joins.below_draws _ _ _).trans (Joins.below_draws _ _ _)⟩
          symm; rw [decide_eq_false_iff_not]
          intro h; subst h; simp at hne
        · have hne : (xs[k]?.getD 0 != ys[k]?.getD 0) = false := by assumption
          go_roundw
          case rel => exact ⟨k + 1, by omega, by go_num, take_succ_eq (by have := HN.out; omega) (by have := HM.out; omega) HT.out (by simpa using hne), (by first | exact draws1 _ _ | exact draws2 _ _ _)⟩
          case measure => simp [intOf]; omega
      · go_wp2
        go_ret
        refine ⟨ret_bool ?_, Joins.below_draws _ _ _⟩
        symm; rw [decide_eq_true_iff]
        have h := HT.out
        rwa [List.take_of_length_le (by have := HN.out; omega), List.take_of_length_le (by have := HM.out; omega)] at h

theorem pairOk_no1 {W H W' H' : Int} {xs ys : List Int} (h : ¬ picOk W H xs 255 = true) : pairOk W H xs W' H' ys = false := by unfold pairOk; simp [h]

theorem pairOk_no2 {W H W' H' : Int} {xs ys : List Int} (h : ¬ picOk W' H' ys 255 = true) : pairOk W H xs W' H' ys = false := by unfold pairOk; simp [h]

theorem pairOk_no3 {W H W' H' : Int} {xs ys : List Int} (h : ¬ (W = W' ∧ H = H')) : pairOk W H xs W' H' ys = false := by unfold pairOk; rw [decide_eq_false h]; simp

theorem pairOk_yes {W H W' H' : Int} {xs ys : List Int} (h : picOk W H xs 255 = true) (h2 : picOk W' H' ys 255 = true) (h3 : W = W' ∧ H = H') : pairOk W H xs W' H' ys = true := by unfold pairOk; rw [h, h2, decide_eq_true h3]; rfl

set_option maxHeartbeats 400000 in
theorem impl_sidesOf (W H : Int) (ad : Option Addr) (n cap : Nat) (w : World) :
    Calls Try.prog 68 #[.agg #[.int .i64 W, .int .i64 H, .slice ad n cap]] w fun e w' => e = .returned (.agg #[.int .i64 W, .int .i64 H]) ∧ Below w.heap.size w w' := by
  go_enter Try.func68, Try.ntmps68
  go_wp2_with fail
  exact bodyPost_ret (v := .agg #[.int .i64 W, .int .i64 H]) (by simp [results, Try.results68, go_sem]) rfl ⟨rfl, Joins.below_alloc2 _ _ _⟩

set_option maxHeartbeats 400000 in
theorem spec_l1Pair (W H : Int) (ad : Option Addr) (n cap : Nat) (xs : List Int) (W' H' : Int) (ad' : Option Addr) (n' cap' : Nat) (ys : List Int) (w : World)
    (hn : xs.length = n) (ha : Rd w ad xs) (hl : n ≤ 9223372036854775807) (hn' : ys.length = n') (ha' : Rd w ad' ys) (hl' : n' ≤ 9223372036854775807) :
    Calls Try.prog 60 #[.agg #[.int .i64 W, .int .i64 H, .slice ad n cap], .agg #[.int .i64 W', .int .i64 H', .slice ad' n' cap']] w fun e w' => e = .returned (.bool (pairOk W H xs W' H' ys)) ∧ Below w.heap.size w w' := by
  have HN := Lib.hid hn
  have HA := Lib.hid ha
  have HN' := Lib.hid hn'
  have HA' := Lib.hid ha'
  clear hn ha hn' ha'
  by_cases hp : picOk W H xs 255 = true
  case neg =>
    have hp0 : picOk W H xs 255 = false := by simpa using hp
    rw [pairOk_no1 hp]
    clear hp
    go_enter Try.func60, Try.ntmps60
    go_wp2_with fail
    refine (spec_IsPicture _ _ _ _ _ xs _ HN.out (by exact (HA.out.alloc _).alloc _) hl).mono ?_
    rintro e w1 ⟨rfl, hb⟩
    have HB1 := Lib.hid (bTrans (bAlloc (bAlloc (Below.refl _ _) _) _) hb)
    have KP1 := Lib.hid (((Blk.new' (g := w.heap.size) 30 #[.int .i64 W, .int .i64 H, .slice ad n cap] (by first | rfl | simp)).alloc _).below' hb)
    have KQ1 : Hid (Blk w1 (w.heap.size + 1) 30 #[.int .i64 W', .int .i64 H', .slice ad' n' cap']) := Lib.hid ((Blk.new' (g := w.heap.size + 1) 30 #[.int .i64 W', .int .i64 H', .slice ad' n' cap'] (by simp)).below' hb)
    obtain ⟨l1, c0, c1, c2⟩ := KP1.out.c3
    obtain ⟨m1, d0, d1, d2⟩ := KQ1.out.c3
    clear hb
    rw [hp0]
    go_wp2_with fail
    go_ret
    exact ⟨rfl, HB1.out⟩
  case pos =>
    by_cases hp' : picOk W' H' ys 255 = true
    case neg =>
      have hp0 : picOk W' H' ys 255 = false := by simpa using hp'
      rw [pairOk_no2 hp']
      clear hp'
      go_enter Try.func60, Try.ntmps60
      go_wp2_with fail
      refine (spec_IsPicture _ _ _ _ _ xs _ HN.out (by exact (HA.out.alloc _).alloc _) hl).mono ?_
      rintro e w1 ⟨rfl, hb⟩
      have HB1 := Lib.hid (bTrans (bAlloc (bAlloc (Below.refl _ _) _) _) hb)
      have KP1 := Lib.hid (((Blk.new' (g := w.heap.size) 30 #[.int .i64 W, .int .i64 H, .slice ad n cap] (by first | rfl | simp)).alloc _).below' hb)
      have KQ1 : Hid (Blk w1 (w.heap.size + 1) 30 #[.int .i64 W', .int .i64 H', .slice ad' n' cap']) := Lib.hid ((Blk.new' (g := w.heap.size + 1) 30 #[.int .i64 W', .int .i64 H', .slice ad' n' cap'] (by simp)).below' hb)
      obtain ⟨l1, c0, c1, c2⟩ := KP1.out.c3
      obtain ⟨m1, d0, d1, d2⟩ := KQ1.out.c3
      clear hb
      rw [hp]
      go_wp2_with fail
      refine (spec_IsPicture _ _ _ _ _ ys _ HN'.out (by exact HA'.out.below HB1.out) hl').mono ?_
      rintro e w2 ⟨rfl, hb⟩
      have HB2 := Lib.hid (bTrans HB1.out hb)
      have KP2 := Lib.hid (KP1.out.below' hb)
      have KQ2 := Lib.hid (KQ1.out.below' hb)
      clear c0 c1 c2 d0 d1 d2 hb
      obtain ⟨l2, c0, c1, c2⟩ := KP2.out.c3
      obtain ⟨m2, d0, d1, d2⟩ := KQ2.out.c3
      rw [hp0]
      go_wp2_with fail
      go_ret
      exact ⟨rfl, HB2.out⟩
    case pos =>
      by_cases hs : W = W' ∧ H = H'
      case pos =>
        rw [pairOk_yes hp hp' hs]
        have e1 : (W == W') = true := by simpa using hs.1
        have e2 : (H == H') = true := by simpa using hs.2
        have HS := Lib.hid hs
        clear hs
        go_enter Try.func60, Try.ntmps60
        go_wp2_with fail
        refine (spec_IsPicture _ _ _ _ _ xs _ HN.out (by exact (HA.out.alloc _).alloc _) hl).mono ?_
        rintro e w1 ⟨rfl, hb⟩
        have HB1 := Lib.hid (bTrans (bAlloc (bAlloc (Below.refl _ _) _) _) hb)
        have KP1 := Lib.hid (((Blk.new' (g := w.heap.size) 30 #[.int .i64 W, .int .i64 H, .slice ad n cap] (by first | rfl | simp)).alloc _).below' hb)
        have KQ1 : Hid (Blk w1 (w.heap.size + 1) 30 #[.int .i64 W', .int .i64 H', .slice ad' n' cap']) := Lib.hid ((Blk.new' (g := w.heap.size + 1) 30 #[.int .i64 W', .int .i64 H', .slice ad' n' cap'] (by simp)).below' hb)
        obtain ⟨l1, c0, c1, c2⟩ := KP1.out.c3
        obtain ⟨m1, d0, d1, d2⟩ := KQ1.out.c3
        clear hb
        rw [hp]
        go_wp2_with fail
        refine (spec_IsPicture _ _ _ _ _ ys _ HN'.out (by exact HA'.out.below HB1.out) hl').mono ?_
        rintro e w2 ⟨rfl, hb⟩
        have HB2 := Lib.hid (bTrans HB1.out hb)
        have KP2 := Lib.hid (KP1.out.below' hb)
        have KQ2 := Lib.hid (KQ1.out.below' hb)
        clear c0 c1 c2 d0 d1 d2 hb
        obtain ⟨l2, c0, c1, c2⟩ := KP2.out.c3
        obtain ⟨m2, d0, d1, d2⟩ := KQ2.out.c3
        rw [hp']
        go_wp2_with fail
        go_ret
        exact ⟨rfl, HB2.out⟩
      case neg =>
        rw [pairOk_no3 hs]
        by_cases hw : W = W'
        · have e1 : (W == W') = true := by simpa using hw
          have e2 : (H == H') = false := by
            rw [beq_eq_false_iff_ne]; exact fun h => hs ⟨hw, h⟩
          clear hs hw
          go_enter Try.func60, Try.ntmps60
          go_wp2_with fail
          refine (spec_IsPicture _ _ _ _ _ xs _ HN.out (by exact (HA.out.alloc _).alloc _) hl).mono ?_
          rintro e w1 ⟨rfl, hb⟩
          have HB1 := Lib.hid (bTrans (bAlloc (bAlloc (Below.refl _ _) _) _) hb)
          have KP1 := Lib.hid (((Blk.new' (g := w.heap.size) 30 #[.int .i64 W, .int .i64 H, .slice ad n cap] (by first | rfl | simp)).alloc _).below' hb)
          have KQ1 : Hid (Blk w1 (w.heap.size + 1) 30 #[.int .i64 W', .int .i64 H', .slice ad' n' cap']) := Lib.hid ((Blk.new' (g := w.heap.size + 1) 30 #[.int .i64 W', .int .i64 H', .slice ad' n' cap'] (by simp)).below' hb)
          obtain ⟨l1, c0, c1, c2⟩ := KP1.out.c3
          obtain ⟨m1, d0, d1, d2⟩ := KQ1.out.c3
          clear hb
          rw [hp]
          go_wp2_with fail
          refine (spec_IsPicture _ _ _ _ _ ys _ HN'.out (by exact HA'.out.below HB1.out) hl').mono ?_
          rintro e w2 ⟨rfl, hb⟩
          have HB2 := Lib.hid (bTrans HB1.out hb)
          have KP2 := Lib.hid (KP1.out.below' hb)
          have KQ2 := Lib.hid (KQ1.out.below' hb)
          clear c0 c1 c2 d0 d1 d2 hb
          obtain ⟨l2, c0, c1, c2⟩ := KP2.out.c3
          obtain ⟨m2, d0, d1, d2⟩ := KQ2.out.c3
          rw [hp']
          go_wp2_with fail
          go_ret
          exact ⟨rfl, HB2.out⟩
        · have e1 : (W == W') = false := by simpa using hw
          clear hs hw
          go_enter Try.func60, Try.ntmps60
          go_wp2_with fail
          refine (spec_IsPicture _ _ _ _ _ xs _ HN.out (by exact (HA.out.alloc _).alloc _) hl).mono ?_
          rintro e w1 ⟨rfl, hb⟩
          have HB1 := Lib.hid (bTrans (bAlloc (bAlloc (Below.refl _ _) _) _) hb)
          have KP1 := Lib.hid (((Blk.new' (g := w.heap.size) 30 #[.int .i64 W, .int .i64 H, .slice ad n cap] (by first | rfl | simp)).alloc _).below' hb)
          have KQ1 : Hid (Blk w1 (w.heap.size + 1) 30 #[.int .i64 W', .int .i64 H', .slice ad' n' cap']) := Lib.hid ((Blk.new' (g := w.heap.size + 1) 30 #[.int .i64 W', .int .i64 H', .slice ad' n' cap'] (by simp)).below' hb)
          obtain ⟨l1, c0, c1, c2⟩ := KP1.out.c3
          obtain ⟨m1, d0, d1, d2⟩ := KQ1.out.c3
          clear hb
          rw [hp]
          go_wp2_with fail
          refine (spec_IsPicture _ _ _ _ _ ys _ HN'.out (by exact HA'.out.below HB1.out) hl').mono ?_
          rintro e w2 ⟨rfl, hb⟩
          have HB2 := Lib.hid (bTrans HB1.out hb)
          have KP2 := Lib.hid (KP1.out.below' hb)
          have KQ2 := Lib.hid (KQ1.out.below' hb)
          clear c0 c1 c2 d0 d1 d2 hb
          obtain ⟨l2, c0, c1, c2⟩ := KP2.out.c3
          obtain ⟨m2, d0, d1, d2⟩ := KQ2.out.c3
          rw [hp']
          go_wp2_with fail
          go_ret
          exact ⟨rfl, HB2.out⟩

end Go.Proofs.Ytgepjfdnlnemjaa
