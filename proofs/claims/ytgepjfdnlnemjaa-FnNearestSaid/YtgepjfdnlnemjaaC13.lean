/-
  Contracts of chapter 4: ErrorOf (program and model).
-/
import Derived.Test.YtgepjfdnlnemjaaM12
import Derived.Test.YtgepjfdnlnemjaaC10
import Derived.Test.YtgepjfdnlnemjaaC4
namespace Go.Proofs.Ytgepjfdnlnemjaa
open Go.RowKit
set_option linter.unusedVariables false
set_option linter.unusedSimpArgs false

set_option maxHeartbeats 800000 in
theorem impl_ErrorOf (W H : Int) (ad : Option Addr) (n cap : Nat) (xs : List Int) (W' H' : Int) (ad' : Option Addr) (n' cap' : Nat) (ys : List Int) (w : World)
    (hn : xs.length = n) (ha : Rd w ad xs) (hl : n ≤ 9223372036854775807) (hn' : ys.length = n') (ha' : Rd w ad' ys) (hl' : n' ≤ 9223372036854775807) :
    Calls Try.prog 30 #[.agg #[.int .i64 W, .int .i64 H, .slice ad n cap], .agg #[.int .i64 W', .int .i64 H', .slice ad' n' cap']] w fun e w' => e = .returned (.int .i64 (errF W H xs W' H' ys)) ∧ Below w.heap.size w w' := by
  have HN := Lib.hid hn
  have HA := Lib.hid ha
  have HN' := Lib.hid hn'
  have HA' := Lib.hid ha'
  clear hn ha hn' ha'
  by_cases hp : pairOk W H xs W' H' ys = true
  case neg =>
    have hp0 : pairOk W H xs W' H' ys = false := by simpa using hp
    rw [errF_no (fun h => hp h.1)]
    clear hp
    go_enter Try.func30, Try.ntmps30
    go_wp2_with fail
    refine (impl_arePictures _ _ _ _ _ xs _ _ _ _ _ ys _ HN.out (by exact (HA.out.alloc _).alloc _) hl HN'.out (by exact (HA'.out.alloc _).alloc _) hl').mono ?_
    rintro e w1 ⟨rfl, hb⟩
    have HB1 := Lib.hid (bTrans (bAlloc (bAlloc (Below.refl _ _) _) _) hb)
    have KP1 := Lib.hid (((Blk.new' (g := w.heap.size) 30 #[.int .i64 W, .int .i64 H, .slice ad n cap] (by first | rfl | simp)).alloc _).below' hb)
    have KQ1 : Hid (Blk w1 (w.heap.size + 1) 30 #[.int .i64 W', .int .i64 H', .slice ad' n' cap']) := Lib.hid ((Blk.new' (g := w.heap.size + 1) 30 #[.int .i64 W', .int .i64 H', .slice ad' n' cap'] (by simp)).below' hb)
    obtain ⟨l1, c0, c1, c2⟩ := KP1.out.c3
    obtain ⟨m1, d0, d1, d2⟩ := KQ1.out.c3
    clear hb
    rw [hp0]
    go_wp2_with fail
    go_ret
    exact ⟨rfl, HB1.out⟩
  case pos =>
    by_cases hp1 : picOk W' H' ys 1 = true
    case neg =>
      have hp0 : picOk W' H' ys 1 = false := by simpa using hp1
      rw [errF_no (fun h => hp1 h.2)]
      clear hp1
      go_enter Try.func30, Try.ntmps30
      go_wp2_with fail
      refine (impl_arePictures _ _ _ _ _ xs _ _ _ _ _ ys _ HN.out (by exact (HA.out.alloc _).alloc _) hl HN'.out (by exact (HA'.out.alloc _).alloc _) hl').mono ?_
      rintro e w1 ⟨rfl, hb⟩
      have HB1 := Lib.hid (bTrans (bAlloc (bAlloc (Below.refl _ _) _) _) hb)
      have KP1 := Lib.hid (((Blk.new' (g := w.heap.size) 30 #[.int .i64 W, .int .i64 H, .slice ad n cap] (by first | rfl | simp)).alloc _).below' hb)
      have KQ1 : Hid (Blk w1 (w.heap.size + 1) 30 #[.int .i64 W', .int .i64 H', .slice ad' n' cap']) := Lib.hid ((Blk.new' (g := w.heap.size + 1) 30 #[.int .i64 W', .int .i64 H', .slice ad' n' cap'] (by simp)).below' hb)
      obtain ⟨l1, c0, c1, c2⟩ := KP1.out.c3
      obtain ⟨m1, d0, d1, d2⟩ := KQ1.out.c3
      clear hb
      rw [hp]
      go_wp2_with fail
      refine (impl_IsPlate _ _ _ _ _ ys _ HN'.out (by exact HA'.out.below HB1.out) hl').mono ?_
      rintro e w2 ⟨rfl, hb⟩
      have HB1 := Lib.hid (bTrans HB1.out hb)
      have KP1 := Lib.hid (KP1.out.below' hb)
      have KQ1 := Lib.hid (KQ1.out.below' hb)
      clear c0 c1 c2 d0 d1 d2 hb
      obtain ⟨l1, c0, c1, c2⟩ := KP1.out.c3
      obtain ⟨m1, d0, d1, d2⟩ := KQ1.out.c3
      rw [hp0]
      go_wp2_with fail
      go_ret
      exact ⟨rfl, HB1.out⟩
    case pos =>
      rw [errF_yes HN'.out hp hp1]
      have HNN := Lib.hid (pairOk_len HN.out HN'.out hp)
      have HI := Lib.hid (picOk_bd HN.out (pairOk_bd hp).1).2.2
      have HI' := Lib.hid (picOk_bd HN'.out hp1).2.2
      have hn2 : n ≤ 1024 := by
        obtain ⟨hs, hq, _⟩ := picOk_bd HN.out (pairOk_bd hp).1
        have := sizeOk_bd hs
        omega
      go_enter Try.func30, Try.ntmps30
      go_wp2_with fail
      refine (impl_arePictures _ _ _ _ _ xs _ _ _ _ _ ys _ HN.out (by exact (HA.out.alloc _).alloc _) hl HN'.out (by exact (HA'.out.alloc _).alloc _) hl').mono ?_
      rintro e w1 ⟨rfl, hb⟩
      have HB1 := Lib.hid (bTrans (bAlloc (bAlloc (Below.refl _ _) _) _) hb)
      have KP1 := Lib.hid (((Blk.new' (g := w.heap.size) 30 #[.int .i64 W, .int .i64 H, .slice ad n cap] (by first | rfl | simp)).alloc _).below' hb)
      have KQ1 : Hid (Blk w1 (w.heap.size + 1) 30 #[.int .i64 W', .int .i64 H', .slice ad' n' cap']) := Lib.hid ((Blk.new' (g := w.heap.size + 1) 30 #[.int .i64 W', .int .i64 H', .slice ad' n' cap'] (by simp)).below' hb)
      obtain ⟨l1, c0, c1, c2⟩ := KP1.out.c3
      obtain ⟨m1, d0, d1, d2⟩ := KQ1.out.c3
      clear hb
      rw [hp]
      go_wp2_with fail
      refine (impl_IsPlate _ _ _ _ _ ys _ HN'.out (by exact HA'.out.below HB1.out) hl').mono ?_
      rintro e w2 ⟨rfl, hb⟩
      have HB1 := Lib.hid (bTrans HB1.out hb)
      have KP1 := Lib.hid (KP1.out.below' hb)
      have KQ1 := Lib.hid (KQ1.out.below' hb)
      clear c0 c1 c2 d0 d1 d2 hb
      obtain ⟨l1, c0, c1, c2⟩ := KP1.out.c3
      obtain ⟨m1, d0, d1, d2⟩ := KQ1.out.c3
      rw [hp1]
      go_wp2_with fail
      go_loop [5, 21] (fun s i => ∃ k : Nat, k ≤ n ∧ i = .int .i64 k ∧ s = .int .i64 (errS xs ys k)) (fun _ i => n - (intOf i).toNat)
      case atStart => exact ⟨0, Nat.zero_le _, rfl, rfl⟩
      case round =>
        obtain ⟨k, hk, rfl, rfl⟩ := hrel
        have hkk : n = n' := HNN.out
        by_cases hlt : k < n
        · have hlt' : k < n' := by omega
          have HKK := Lib.hid hkk
          clear hkk
          obtain ⟨ba, oa, hae, hal, hac⟩ := (HA.out.below HB1.out).at (by have := HN.out; omega)
          have h1 := hac k (by have := HN.out; omega)
          obtain ⟨bb, ob, hbe, hbl, hbc⟩ := (HA'.out.below HB1.out).at (by have := HN'.out; omega)
          have h2 := hbc k (by have := HN'.out; omega)
          subst hae hbe
          clear hac hbc
          obtain ⟨d0, d1⟩ := errD_bd HI.out HI'.out (k := k) (by have := HN.out; omega) (by have := HN'.out; omega)
          obtain ⟨q0, q1⟩ := sq_bd d0 d1
          unfold errD at d0 d1 q0 q1
          obtain ⟨s0, s1⟩ := errS_bd HI.out HI'.out (by have := HN.out; have := HN'.out; have := HNN.out; omega) k (by have := HN'.out; omega)
          obtain ⟨u0, u1⟩ := within_at HI'.out k (by have := HN'.out; omega)
          obtain ⟨u2, u3⟩ := within_at HI.out k (by have := HN.out; omega)
          go_wp2_with fail
          go_round
          case rel => exact ⟨k + 1, by omega, by go_num, rfl⟩
          case measure => simp [intOf]; omega
        · have hlt' : ¬ k < n' := by omega
          have HKK := Lib.hid hkk
          clear hkk
          go_wp2_with fail
          go_ret
          obtain rfl : k = n := by omega
          exact ⟨ret_int (by rw [HKK.out]), HB1.out⟩

end Go.Proofs.Ytgepjfdnlnemjaa
