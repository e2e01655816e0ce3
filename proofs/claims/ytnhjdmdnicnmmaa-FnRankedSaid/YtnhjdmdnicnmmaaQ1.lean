/-
  Contracts of chapter 7: what a field is; weights, crowds and the best place in the model.
-/
import Derived.Test.YtnhjdmdnicnmmaaM40
import Derived.Test.YtnhjdmdnicnmmaaC4
import Derived.Test.YtnhjdmdnicnmmaaD25
namespace Go.Proofs.Ytnhjdmdnicnmmaa
open Go.RowKit
set_option linter.unusedVariables false
set_option linter.unusedSimpArgs false

set_option maxHeartbeats 400000 in
theorem impl_IsField (W H : Int) (ad : Option Addr) (n cap : Nat) (xs : List Int) (w : World) (hn : xs.length = n) (ha : Rd w ad xs) (hl : n ≤ 9223372036854775807) :
    Calls Try.prog 28 #[.agg #[.int .i64 W, .int .i64 H, .slice ad n cap]] w fun e w' => e = .returned (.bool (fieldOk W H xs)) ∧ Below w.heap.size w w' := by
  have HN := Lib.hid hn
  have HA := Lib.hid ha
  clear hn ha
  go_enter Try.func28, Try.ntmps28
  go_wp2_with fail
  refine (impl_IsPlate _ _ _ _ _ xs _ HN.out (by exact HA.out.alloc _) hl).mono ?_
  rintro e w1 ⟨rfl, hb⟩
  have HB1 := Lib.hid ((Joins.below_alloc1 _ _).trans (hb.mono (by simp)))
  have KP1 := Lib.hid ((Blk.new w 25 #[.int .i64 W, .int .i64 H, .slice ad n cap]).below' hb)
  obtain ⟨l1, c0, c1, c2⟩ := KP1.out.c3
  clear hb
  have E : Hid (fieldOk W H xs = (picOk W H xs 1 && decide (n ≤ 256))) := Lib.hid (by unfold fieldOk; rw [HN.out])
  obtain ⟨P, hP⟩ : ∃ P, picOk W H xs 1 = P := ⟨_, rfl⟩
  rw [hP] at E ⊢
  clear hP
  cases P
  · go_wp2_with fail
    go_ret
    exact ⟨ret_bool (by rw [E.out]; rfl), HB1.out⟩
  · go_wp2_with fail
    go_ret
    exact ⟨ret_bool (by rw [E.out, Bool.true_and]; exact decide_eq_decide.2 (by omega)), HB1.out⟩

theorem far_bd {W H : Int} (hW : 1 ≤ W) (hW2 : W ≤ 256) (hH : 1 ≤ H) (hH2 : H ≤ 256) (i k : Nat) : 0 ≤ farG W H i k ∧ farG W H i k ≤ 131072 := by
  refine ⟨far_nn hW hH i k, ?_⟩
  unfold farG
  obtain ⟨x1, x2⟩ := wayG_bd (d := (i : Int) % W - (k : Int) % W) hW
  obtain ⟨y1, y2⟩ := wayG_bd (d := (i : Int) / W - (k : Int) / W) hH
  have m1 := Int.mul_le_mul (show wayG ((i : Int) % W - (k : Int) % W) W ≤ 256 by omega) (show wayG ((i : Int) % W - (k : Int) % W) W ≤ 256 by omega) x1 (by omega)
  have m2 := Int.mul_le_mul (show wayG ((i : Int) / W - (k : Int) / W) H ≤ 256 by omega) (show wayG ((i : Int) / W - (k : Int) / W) H ≤ 256 by omega) y1 (by omega)
  omega

theorem best_take {xs : List Int} {v : Int} {c : Nat → Int} {k : Nat} (h1 : xs.getD k 0 = v) (h2 : bestTo xs v c k < 0 ∨ c k < c (bestTo xs v c k).toNat) : bestTo xs v c (k + 1) = k := by
  rw [bestTo, if_pos ⟨h1, h2⟩]

theorem best_skip {xs : List Int} {v : Int} {c : Nat → Int} {k : Nat} (h1 : ¬ xs.getD k 0 = v) : bestTo xs v c (k + 1) = bestTo xs v c k := by
  rw [bestTo, if_neg (fun h => h1 h.1)]

theorem best_keep {xs : List Int} {v : Int} {c : Nat → Int} {k : Nat} (h0 : 0 ≤ bestTo xs v c k) (h2 : ¬ c k < c (bestTo xs v c k).toNat) : bestTo xs v c (k + 1) = bestTo xs v c k := by
  rw [bestTo, if_neg (fun h => by rcases h.2 with h | h; omega; exact h2 h)]

end Go.Proofs.Ytnhjdmdnicnmmaa
