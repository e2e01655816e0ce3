/-
  Contracts of CoversPicture and SamePicture (program and model).
-/
import Derived.Test.YtkjhpfgcmbigfaaC9
namespace Go.Proofs.Ytkjhpfgcmbigfaa
open Go.RowKit
set_option linter.unusedVariables false
set_option linter.unusedSimpArgs false

def coverB (xs ys : List Int) : Bool := (List.range ys.length).all (fun i => decide (ys.getD i 0 ≤ xs.getD i 0))

theorem coverB_no {xs ys : List Int} {k : Nat} (hk : k < ys.length) (h : xs[k]?.getD 0 < ys[k]?.getD 0) : coverB xs ys = false := by
  unfold coverB
  rw [List.all_eq_false]
  refine ⟨k, List.mem_range.2 hk, ?_⟩
  rw [decide_eq_true_iff]
  simp only [List.getD]
  omega

theorem coverB_yes {xs ys : List Int} (h : ∀ i, i < ys.length → ys[i]?.getD 0 ≤ xs[i]?.getD 0) : coverB xs ys = true := by
  unfold coverB
  rw [List.all_eq_true]
  intro i hi
  have := h i (List.mem_range.1 hi)
  rw [decide_eq_true_iff]
  simpa only [List.getD] using this

theorem pairOk_bd {W H W' H' : Int} {xs ys : List Int} (h : pairOk W H xs W' H' ys = true) : picOk W H xs 255 = true ∧ picOk W' H' ys 255 = true ∧ W = W' ∧ H = H' := by
  unfold pairOk at h
  simp only [Bool.and_eq_true, decide_eq_true_eq] at h
  exact ⟨h.1, h.2.1, h.2.2.1, h.2.2.2⟩

theorem pairOk_len {W H W' H' : Int} {xs ys : List Int} {n n' : Nat} (hn : xs.length = n) (hn' : ys.length = n') (h : pairOk W H xs W' H' ys = true) : n = n' := by
  obtain ⟨h1, h2, rfl, rfl⟩ := pairOk_bd h
  have a := (picOk_bd hn h1).2.1
  have b := (picOk_bd hn' h2).2.1
  omega

set_option maxHeartbeats 800000 in
theorem impl_CoversPicture (W H : Int) (ad : Option Addr) (n cap : Nat) (xs : List Int) (W' H' : Int) (ad' : Option Addr) (n' cap' : Nat) (ys : List Int) (w : World)
    (hn : xs.length = n) (ha : Rd w ad xs) (hl : n ≤ 9223372036854775807) (hn' : ys.length = n') (ha' : Rd w ad' ys) (hl' : n' ≤ 9223372036854775807) :
    Calls Try.prog 25 #[.agg #[.int .i64 W, .int .i64 H, .slice ad n cap], .agg #[.int .i64 W', .int .i64 H', .slice ad' n' cap']] w fun e w' => e = .returned (.bool (coversF W H xs W' H' ys)) ∧ Below w.heap.size w w' := by
  have HN := Lib.hid hn
  have HA := Lib.hid ha
  have HN' := Lib.hid hn'
  have HA' := Lib.hid ha'
  clear hn ha hn' ha'
  by_cases hp : pairOk W H xs W' H' ys = true
  case neg =>
    have hp0 : pairOk W H xs W' H' ys = false := by simpa using hp
    have e0 : coversF W H xs W' H' ys = false := by unfold coversF; rw [hp0]; rfl
    rw [e0]
    clear hp e0
    go_enter Try.func25, Try.ntmps25
    go_wp2_with fail
    refine (impl_arePictures _ _ _ _ _ xs _ _ _ _ _ ys _ HN.out (by exact (HA.out.alloc _).alloc _) hl HN'.out (by exact (HA'.out.alloc _).alloc _) hl').mono ?_
    rintro e w1 ⟨rfl, hb⟩
    have HB1 := Lib.hid (bTrans (bAlloc (bAlloc (Below.refl _ _) _) _) hb)
    have KP1 := Lib.hid (((Blk.new' (g := w.heap.size) 25 #[.int .i64 W, .int .i64 H, .slice ad n cap] (by first | rfl | simp)).alloc _).below' hb)
    have KQ1 : Hid (Blk w1 (w.heap.size + 1) 25 #[.int .i64 W', .int .i64 H', .slice ad' n' cap']) := Lib.hid ((Blk.new' (g := w.heap.size + 1) 25 #[.int .i64 W', .int .i64 H', .slice ad' n' cap'] (by simp)).below' hb)
    obtain ⟨l1, c0, c1, c2⟩ := KP1.out.c3
    obtain ⟨m1, d0, d1, d2⟩ := KQ1.out.c3
    clear hb
    rw [hp0]
    go_wp2_with fail
    go_ret
    exact ⟨rfl, HB1.out⟩
  case pos =>
    have e0 : coversF W H xs W' H' ys = coverB xs ys := by unfold coversF; rw [hp]; rfl
    rw [e0]
    clear e0
    have HNN := Lib.hid (pairOk_len HN.out HN'.out hp)
    go_enter Try.func25, Try.ntmps25
    go_wp2_with fail
    refine (impl_arePictures _ _ _ _ _ xs _ _ _ _ _ ys _ HN.out (by exact (HA.out.alloc _).alloc _) hl HN'.out (by exact (HA'.out.alloc _).alloc _) hl').mono ?_
    rintro e w1 ⟨rfl, hb⟩
    have HB1 := Lib.hid (bTrans (bAlloc (bAlloc (Below.refl _ _) _) _) hb)
    have KP1 := Lib.hid (((Blk.new' (g := w.heap.size) 25 #[.int .i64 W, .int .i64 H, .slice ad n cap] (by first | rfl | simp)).alloc _).below' hb)
    have KQ1 : Hid (Blk w1 (w.heap.size + 1) 25 #[.int .i64 W', .int .i64 H', .slice ad' n' cap']) := Lib.hid ((Blk.new' (g := w.heap.size + 1) 25 #[.int .i64 W', .int .i64 H', .slice ad' n' cap'] (by simp)).below' hb)
    obtain ⟨l1, c0, c1, c2⟩ := KP1.out.c3
    obtain ⟨m1, d0, d1, d2⟩ := KQ1.out.c3
    clear hb
    rw [hp]
    go_wp2_with fail
    go_loop [14] (fun i => ∃ k : Nat, k ≤ n' ∧ i = .int .i64 k ∧ Hid (∀ i, i < k → ys[i]?.getD 0 ≤ xs[i]?.getD 0)) (fun i => n' - (intOf i).toNat)
    case atStart => exact ⟨0, Nat.zero_le _, rfl, fun i hi => absurd hi (by omega)⟩
    case round =>
      obtain ⟨k, hk, rfl, HR⟩ := hrel
      by_cases hlt : k < n'
      · obtain ⟨ba, oa, hae, hal, hac⟩ := (HA.out.below HB1.out).at (by have := HN.out; have := HNN.out; omega)
        have h1 := hac k (by have := HN.out; have := HNN.out; omega)
        obtain ⟨bb, ob, hbe, hbl, hbc⟩ := (HA'.out.below HB1.out).at (by have := HN'.out; omega)
        have h2 := hbc k (by have := HN'.out; omega)
        subst hae hbe
        clear hac hbc
        have hkn : k < n := by have := HNN.out; omega
        by_cases hv : xs[k]?.getD 0 < ys[k]?.getD 0
        · go_wp2_with fail
          go_ret
          exact ⟨ret_bool (coverB_no (by have := HN'.out; omega) hv).symm, HB1.out⟩
        · go_wp2_with fail
          go_round
          case rel => exact ⟨k + 1, by omega, by go_num, fun i hi => (by by_cases e : i = k; (subst e; omega); exact HR.out i (by omega))⟩
          case measure => simp [intOf]; omega
      · go_wp2_with fail
        go_ret
        obtain rfl : n' = k := by omega
        exact ⟨ret_bool (coverB_yes (by have h := HN'.out; rw [h]; exact HR.out)).symm, HB1.out⟩

end Go.Proofs.Ytkjhpfgcmbigfaa
