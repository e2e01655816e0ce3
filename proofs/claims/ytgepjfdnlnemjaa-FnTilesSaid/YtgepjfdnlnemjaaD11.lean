/-
  Contracts of chapter 4: levels (program and model).
-/
import Derived.Test.YtgepjfdnlnemjaaM12
import Derived.Test.YtgepjfdnlnemjaaD6b
import Derived.Test.YtgepjfdnlnemjaaC10
namespace Go.Proofs.Ytgepjfdnlnemjaa
open Go.RowKit
set_option linter.unusedVariables false
set_option linter.unusedSimpArgs false

set_option maxHeartbeats 400000 in
theorem impl_nearest (n : Nat) (v : Int) (w : World) (h1 : 0 ≤ v) (h2 : v ≤ 255) (h3 : n ≤ 256) :
    Calls Try.prog 65 #[.int .i64 n, .int .i64 v] w fun e w' => e = .returned (.int .i64 (levelG n v)) ∧ w = w' := by
  obtain ⟨b0, b1⟩ := mul_lev h1 h2 h3
  go_enter Try.func65, Try.ntmps65
  go_wp2
  go_ret
  exact ⟨rfl, rfl⟩

set_option maxHeartbeats 800000 in
theorem impl_LevelOf (W H : Int) (ad : Option Addr) (n cap : Nat) (xs : List Int) (v : Int) (w : World) (hn : xs.length = n) (ha : Rd w ad xs) (hl : n ≤ 9223372036854775807) :
    Calls Try.prog 27 #[.agg #[.int .i64 W, .int .i64 H, .slice ad n cap], .int .i64 v] w fun e w' => e = .returned (.int .i64 (levelOfF W H xs v)) ∧ Below w.heap.size w w' := by
  have HN := Lib.hid hn
  have HA := Lib.hid ha
  clear hn ha
  by_cases hp : matOk W H xs = true
  case neg =>
    have hp2 : matOk W H xs = false := by simpa using hp
    rw [levelOfF_no (fun h => hp h.1)]
    clear hp
    go_enter Try.func27, Try.ntmps27
    go_wp2_with fail
    refine (impl_IsMatrix _ _ _ _ _ xs _ HN.out (by exact HA.out.alloc _) hl).mono ?_
    rintro e w1 ⟨rfl, hb⟩
    have HB1 := Lib.hid ((Joins.below_alloc1 _ _).trans (hb.mono (by simp)))
    have KP1 := Lib.hid ((Blk.new w 25 #[.int .i64 W, .int .i64 H, .slice ad n cap]).below' hb)
    obtain ⟨l1, c0, c1, c2⟩ := KP1.out.c3
    clear hb
    rw [hp2]
    go_wp2_with fail
    go_ret
    exact ⟨rfl, HB1.out⟩
  case pos =>
    by_cases hv0 : 0 ≤ v
    case neg =>
      rw [levelOfF_no (fun h => hv0 h.2.1)]
      go_enter Try.func27, Try.ntmps27
      go_wp2_with fail
      refine (impl_IsMatrix _ _ _ _ _ xs _ HN.out (by exact HA.out.alloc _) hl).mono ?_
      rintro e w1 ⟨rfl, hb⟩
      have HB1 := Lib.hid ((Joins.below_alloc1 _ _).trans (hb.mono (by simp)))
      have KP1 := Lib.hid ((Blk.new w 25 #[.int .i64 W, .int .i64 H, .slice ad n cap]).below' hb)
      obtain ⟨l1, c0, c1, c2⟩ := KP1.out.c3
      clear hb
      rw [hp]
      go_wp2_with fail
      go_ret
      exact ⟨rfl, HB1.out⟩
    case pos =>
      by_cases hv1 : v ≤ 255
      case neg =>
        rw [levelOfF_no (fun h => hv1 h.2.2)]
        go_enter Try.func27, Try.ntmps27
        go_wp2_with fail
        refine (impl_IsMatrix _ _ _ _ _ xs _ HN.out (by exact HA.out.alloc _) hl).mono ?_
        rintro e w1 ⟨rfl, hb⟩
        have HB1 := Lib.hid ((Joins.below_alloc1 _ _).trans (hb.mono (by simp)))
        have KP1 := Lib.hid ((Blk.new w 25 #[.int .i64 W, .int .i64 H, .slice ad n cap]).below' hb)
        obtain ⟨l1, c0, c1, c2⟩ := KP1.out.c3
        clear hb
        rw [hp]
        go_wp2_with fail
        go_ret
        exact ⟨rfl, HB1.out⟩
      case pos =>
        rw [levelOfF_yes HN.out hp hv0 hv1]
        obtain ⟨hs, hq, hi, hd⟩ := matOk_bd HN.out hp
        obtain ⟨b1, b2, b3, b4, b5, b6⟩ := matSize_bd hs
        have HQ := Lib.hid hq
        have HI := Lib.hid hi
        have HD := Lib.hid hd
        have HS := Lib.hid hs
        have hn1 : 1 ≤ n := by omega
        have hn2 : n ≤ 256 := by omega
        clear hq hi hs hd
        go_enter Try.func27, Try.ntmps27
        go_wp2_with fail
        refine (impl_IsMatrix _ _ _ _ _ xs _ HN.out (by exact HA.out.alloc _) hl).mono ?_
        rintro e w1 ⟨rfl, hb⟩
        have HB1 := Lib.hid ((Joins.below_alloc1 _ _).trans (hb.mono (by simp)))
        have KP1 := Lib.hid ((Blk.new w 25 #[.int .i64 W, .int .i64 H, .slice ad n cap]).below' hb)
        obtain ⟨l1, c0, c1, c2⟩ := KP1.out.c3
        clear hb
        rw [hp]
        go_wp2_with fail
        refine (impl_nearest n v _ hv0 hv1 hn2).mono ?_
        rintro e w2 ⟨rfl, rfl⟩
        go_wp2_with fail
        go_ret
        exact ⟨rfl, HB1.out⟩

end Go.Proofs.Ytgepjfdnlnemjaa
