/-
  Contracts of chapter 4: LevelsFor (program and model).
-/
import Derived.Test.YtgepjfdnlnemjaaD11
namespace Go.Proofs.Ytgepjfdnlnemjaa
open Go.RowKit
set_option linter.unusedVariables false
set_option linter.unusedSimpArgs false

theorem own_nil (w : World) : Own (w.alloc (.cells #[] 3)) w.heap.size 0 0 [] :=
  ⟨rfl, #[], heap_alloc_new w _, Nat.le_refl _, Nat.zero_le _, rfl, rfl⟩

theorem map_take_snoc {xs : List Int} {k : Nat} (f : Int → Int) (hk : k < xs.length) : (xs.take k).map f ++ [f (xs[k]?.getD 0)] = (xs.take (k + 1)).map f := by
  rw [List.take_succ_eq_append_getElem hk, List.map_append]
  simp [List.getElem?_eq_getElem hk]

/-- Numbers are handed back, in new memory or none. -/
def IntsOut (w : World) (xs : List Int) (e : Ending) (w' : World) : Prop :=
  ∃ a n c, e = .returned (.slice a n c) ∧ OwnA w' w.heap.size a n c xs ∧ n ≤ 1048576 ∧ Below w.heap.size w w'

set_option maxHeartbeats 800000 in
theorem impl_LevelsFor (W H : Int) (ad : Option Addr) (n cap : Nat) (xs : List Int) (W' H' : Int) (ad' : Option Addr) (n' cap' : Nat) (ys : List Int) (w : World)
    (hn : xs.length = n) (ha : Rd w ad xs) (hl : n ≤ 9223372036854775807) (hn' : ys.length = n') (ha' : Rd w ad' ys) (hl' : n' ≤ 9223372036854775807) :
    Calls Try.prog 29 #[.agg #[.int .i64 W, .int .i64 H, .slice ad n cap], .agg #[.int .i64 W', .int .i64 H', .slice ad' n' cap']] w (IntsOut w (levelsF W H xs W' H' ys)) := by
  have HN := Lib.hid hn
  have HA := Lib.hid ha
  have HN' := Lib.hid hn'
  have HA' := Lib.hid ha'
  clear hn ha hn' ha'
  by_cases hp : matOk W H xs = true
  case neg =>
    have hp2 : matOk W H xs = false := by simpa using hp
    rw [levelsF_no (fun h => hp h.1)]
    clear hp
    go_enter Try.func29, Try.ntmps29
    go_wp2_with fail
    refine (impl_IsMatrix _ _ _ _ _ xs _ HN.out (by exact (HA.out.alloc _).alloc _) hl).mono ?_
    rintro e w1 ⟨rfl, hb⟩
    have HB1 := Lib.hid (bTrans (bAlloc (bAlloc (Below.refl _ _) _) _) hb)
    have KP1 := Lib.hid (((Blk.new' (g := w.heap.size) 25 #[.int .i64 W, .int .i64 H, .slice ad n cap] (by first | rfl | simp)).alloc _).below' hb)
    have KQ1 : Hid (Blk w1 (w.heap.size + 1) 30 #[.int .i64 W', .int .i64 H', .slice ad' n' cap']) := Lib.hid ((Blk.new' (g := w.heap.size + 1) 30 #[.int .i64 W', .int .i64 H', .slice ad' n' cap'] (by simp)).below' hb)
    obtain ⟨l1, c0, c1, c2⟩ := KP1.out.c3
    obtain ⟨m1, d0, d1, d2⟩ := KQ1.out.c3
    clear hb
    rw [hp2]
    go_wp2_with fail
    go_ret
    exact ⟨_, _, _, rfl, OwnA.none _ _, by omega, HB1.out⟩
  case pos =>
    by_cases hp' : picOk W' H' ys 255 = true
    case neg =>
      have hp2 : picOk W' H' ys 255 = false := by simpa using hp'
      rw [levelsF_no (fun h => hp' h.2)]
      clear hp'
      go_enter Try.func29, Try.ntmps29
      go_wp2_with fail
      refine (impl_IsMatrix _ _ _ _ _ xs _ HN.out (by exact (HA.out.alloc _).alloc _) hl).mono ?_
      rintro e w1 ⟨rfl, hb⟩
      have HB1 := Lib.hid (bTrans (bAlloc (bAlloc (Below.refl _ _) _) _) hb)
      have KP1 := Lib.hid (((Blk.new' (g := w.heap.size) 25 #[.int .i64 W, .int .i64 H, .slice ad n cap] (by first | rfl | simp)).alloc _).below' hb)
      have KQ1 : Hid (Blk w1 (w.heap.size + 1) 30 #[.int .i64 W', .int .i64 H', .slice ad' n' cap']) := Lib.hid ((Blk.new' (g := w.heap.size + 1) 30 #[.int .i64 W', .int .i64 H', .slice ad' n' cap'] (by simp)).below' hb)
      obtain ⟨l1, c0, c1, c2⟩ := KP1.out.c3
      obtain ⟨m1, d0, d1, d2⟩ := KQ1.out.c3
      clear hb
      rw [hp]
      go_wp2_with fail
      refine (impl_IsPicture _ _ _ _ _ ys _ HN'.out (by exact HA'.out.below HB1.out) hl').mono ?_
      rintro e w2 ⟨rfl, hb⟩
      have HB2 := Lib.hid (bTrans HB1.out hb)
      have KP2 := Lib.hid (KP1.out.below' hb)
      have KQ2 := Lib.hid (KQ1.out.below' hb)
      clear c0 c1 c2 d0 d1 d2 hb
      obtain ⟨l2, c0, c1, c2⟩ := KP2.out.c3
      obtain ⟨m2, d0, d1, d2⟩ := KQ2.out.c3
      rw [hp2]
      go_wp2_with fail
      go_ret
      exact ⟨_, _, _, rfl, OwnA.none _ _, by omega, HB2.out⟩
    case pos =>
      rw [levelsF_yes HN.out hp hp']
      obtain ⟨hs, hq, hi, hd⟩ := matOk_bd HN.out hp
      obtain ⟨b1, b2, b3, b4, b5, b6⟩ := matSize_bd hs
      have HQ := Lib.hid hq
      have HI := Lib.hid hi
      have HD := Lib.hid hd
      have HS := Lib.hid hs
      have hn1 : 1 ≤ n := by omega
      have hn2 : n ≤ 256 := by omega
      clear hq hi hs hd
      obtain ⟨hs, hq, hi⟩ := picOk_bd HN'.out hp'
      obtain ⟨b1', b2', b3', b4', b5', b6'⟩ := sizeOk_bd hs
      have HQ' := Lib.hid hq
      have HI' := Lib.hid hi
      have HS' := Lib.hid hs
      have hn1' : 1 ≤ n' := by omega
      have hn2' : n' ≤ 1024 := by omega
      clear hq hi hs
      go_enter Try.func29, Try.ntmps29
      go_wp2_with fail
      refine (impl_IsMatrix _ _ _ _ _ xs _ HN.out (by exact (HA.out.alloc _).alloc _) hl).mono ?_
      rintro e w1 ⟨rfl, hb⟩
      have HB1 := Lib.hid (bTrans (bAlloc (bAlloc (Below.refl _ _) _) _) hb)
      have KP1 := Lib.hid (((Blk.new' (g := w.heap.size) 25 #[.int .i64 W, .int .i64 H, .slice ad n cap] (by first | rfl | simp)).alloc _).below' hb)
      have KQ1 : Hid (Blk w1 (w.heap.size + 1) 30 #[.int .i64 W', .int .i64 H', .slice ad' n' cap']) := Lib.hid ((Blk.new' (g := w.heap.size + 1) 30 #[.int .i64 W', .int .i64 H', .slice ad' n' cap'] (by simp)).below' hb)
      obtain ⟨l1, c0, c1, c2⟩ := KP1.out.c3
      obtain ⟨m1, d0, d1, d2⟩ := KQ1.out.c3
      clear hb
      rw [hp]
      go_wp2_with fail
      refine (impl_IsPicture _ _ _ _ _ ys _ HN'.out (by exact HA'.out.below HB1.out) hl').mono ?_
      rintro e w2 ⟨rfl, hb⟩
      have HB2 := Lib.hid (bTrans HB1.out hb)
      have KP2 := Lib.hid (KP1.out.below' hb)
      have KQ2 := Lib.hid (KQ1.out.below' hb)
      clear c0 c1 c2 d0 d1 d2 hb
      obtain ⟨l2, c0, c1, c2⟩ := KP2.out.c3
      obtain ⟨m2, d0, d1, d2⟩ := KQ2.out.c3
      rw [hp']
      go_wp2_with (at_make; refine wp_make _ rfl _ _ rfl .i64 .i64 n' n' n' rfl rfl rfl rfl (by omega) ?_; intro M hM)
      have HM := Lib.hid hM
      clear hM
      go_loopw [23] (fun i wr => ∃ k : Nat, k ≤ n' ∧ i = .int .i64 k ∧ Own wr w2.heap.size n' n' (filled (ys.map (levelG n)) (List.replicate n' 0) k) ∧ Below w2.heap.size w2 wr) (fun i _ => n' - (intOf i).toNat)
      case atStart => exact ⟨0, Nat.zero_le _, rfl, by rw [filled_zero]; exact HM.out.own _, Joins.below_alloc1 _ _⟩
      case round =>
        obtain ⟨k, hk, rfl, ho, hnx⟩ := hrel
        have HBr := Lib.hid (bTrans HB2.out hnx)
        have KP := Lib.hid (KP2.out.below' hnx)
        have KQ := Lib.hid (KQ2.out.below' hnx)
        obtain ⟨l9, p0, p1, p2⟩ := KP.out.c3
        obtain ⟨m9, q0, q1, q2⟩ := KQ.out.c3
        by_cases hlt : k < n'
        · obtain ⟨ba, oa, hae, hal, hac⟩ := (HA'.out.below HBr.out).at (by have := HN'.out; omega)
          have h1 := hac k (by have := HN'.out; omega)
          subst hae
          clear hac
          obtain ⟨v1, v2⟩ := within_at HI'.out k (by have := HN'.out; omega)
          have g2 : wr.cell? ⟨w2.heap.size, k, none⟩ = some (.int .i64 ((filled (ys.map (levelG n)) (List.replicate n' 0) k).getD k 0)) := ho.cell hlt
          have g3 : wr.frozen? ⟨w2.heap.size, k, none⟩ = false := ho.frozen k
          have hs := ho.set k (levelG n (ys[k]?.getD 0))
          rw [filled_succ (ys.map (levelG n)) _ k _ (by have := HN'.out; simp; omega) (by simp; omega) (map_get _ _ _ (by have := HN'.out; omega))] at hs
          have HSt := Lib.hid hs
          clear hs ho
          go_wp2_with fail
          refine (impl_nearest n _ _ v1 v2 hn2).mono ?_
          rintro e w3 ⟨rfl, rfl⟩
          go_wp2_with fail
          go_roundw
          case rel => exact ⟨k + 1, by omega, by go_num, by simpa using HSt.out, hnx.setCell (Nat.le_refl _) _⟩
          case measure => simp [intOf]; omega
        · go_wp2_with fail
          go_ret
          obtain rfl : n' = k := by omega
          rw [filled_at (ys.map (levelG n)) _ n' (by have := HN'.out; simp; omega) (by simp)] at ho
          exact ⟨_, _, _, rfl, OwnA.mk ho (by have := HB2.out.size; omega), by omega, HBr.out⟩

end Go.Proofs.Ytgepjfdnlnemjaa
