/-
  Contracts of the spread's helpers: the way round a side, the distance on a torus.
-/
import Derived.Test.YtnhjdmdnicnmmaaD7b
import Derived.Test.YtnhjdmdnicnmmaaM20
import Derived.Deep.RegionHeld3
namespace Go.Proofs.Ytnhjdmdnicnmmaa
open Go.RowKit
set_option linter.unusedVariables false
set_option linter.unusedSimpArgs false

set_option maxHeartbeats 400000 in
theorem impl_shorterWay (a b n : Int) (w : World) (h1 : 1 ≤ n) (h2 : n ≤ 256) (h3 : 0 ≤ a) (h4 : a ≤ 256) (h5 : 0 ≤ b) (h6 : b ≤ 256) :
    Calls Try.prog 64 #[.int .i64 a, .int .i64 b, .int .i64 n] w fun e w' => e = .returned (.int .i64 (wayG (b - a) n)) ∧ w = w' := by
  have b1 := Int.emod_nonneg (b - a) (show n ≠ 0 by omega)
  have b2 := Int.emod_lt_of_pos (b - a) (show 0 < n by omega)
  go_enter Try.func64, Try.ntmps64
  go_wp2_with fail
  refine (impl_remainder _ _ _ h1 (by omega)).mono ?_
  rintro e w2 ⟨rfl, rfl⟩
  go_wp2_with fail
  all_goals (go_ret; exact ⟨ret_int (by unfold wayG; omega), rfl⟩)

theorem place_bd {W H : Int} {n i : Nat} (hW : 1 ≤ W) (hW2 : W ≤ 256) (hn : (n : Int) = W * H) (hn2 : n ≤ 256) (hi : i < n) : ∃ P Q : Int, (i : Int) % W = P ∧ (i : Int) / W = Q ∧ (i : Int).tmod W = P ∧ (i : Int).tdiv W = Q ∧ 0 ≤ P ∧ P ≤ 255 ∧ 0 ≤ Q ∧ Q ≤ 255 := by
  refine ⟨_, _, rfl, rfl, Int.tmod_eq_emod_of_nonneg (by omega), Int.tdiv_eq_ediv_of_nonneg (by omega), Int.emod_nonneg _ (by omega), ?_, Int.ediv_nonneg (by omega) (by omega), ?_⟩
  · have := Int.emod_lt_of_pos (i : Int) (show 0 < W by omega); omega
  · have := Int.ediv_le_self (b := W) (show 0 ≤ (i : Int) by omega); omega

set_option maxHeartbeats 800000 in
theorem impl_torusSquare (W H : Int) (n i k : Nat) (w : World) (hW : 1 ≤ W) (hW2 : W ≤ 256) (hH : 1 ≤ H) (hH2 : H ≤ 256) (hn : (n : Int) = W * H) (hn2 : n ≤ 256) (hi : i < n) (hk : k < n) :
    Calls Try.prog 60 #[.int .i64 W, .int .i64 H, .agg #[.int .i64 ((i : Int) % W), .int .i64 ((i : Int) / W)], .agg #[.int .i64 ((k : Int) % W), .int .i64 ((k : Int) / W)]] w fun e w' => e = .returned (.int .i64 (farG W H i k)) ∧ Below w.heap.size w w' := by
  rw [farG_symm hW hH]
  obtain ⟨P, Q, hP, hQ, tP, tQ, p0, p1, q0, q1⟩ := place_bd hW hW2 hn hn2 hi
  obtain ⟨P', Q', hP', hQ', tP', tQ', p0', p1', q0', q1'⟩ := place_bd hW hW2 hn hn2 hk
  have HE : Hid (farG W H k i = wayG (P' - P) W * wayG (P' - P) W + wayG (Q' - Q) H * wayG (Q' - Q) H) := Lib.hid (by unfold farG; rw [hP, hQ, hP', hQ'])
  rw [hP, hQ, hP', hQ']
  obtain ⟨x1, x2⟩ := wayG_bd (d := P' - P) hW
  obtain ⟨y1, y2⟩ := wayG_bd (d := Q' - Q) hH
  obtain ⟨X, hX⟩ : ∃ X, wayG (P' - P) W = X := ⟨_, rfl⟩
  obtain ⟨Y, hY⟩ : ∃ Y, wayG (Q' - Q) H = Y := ⟨_, rfl⟩
  rw [hX] at x1 x2
  rw [hY] at y1 y2
  have m1 := Int.mul_le_mul x2 x2 x1 (by omega)
  have m2 := Int.mul_le_mul y2 y2 y1 (by omega)
  have m3 := Int.mul_le_mul hW2 hW2 (by omega) (by omega)
  have m4 := Int.mul_le_mul hH2 hH2 (by omega) (by omega)
  have m5 := sq_nn x1
  have m6 := sq_nn y1
  have u7 : IntKind.i64.wrap (X * X) = X * X := IntWalk.i64_in _ (by omega)
  have u8 : IntKind.i64.wrap (Y * Y) = Y * Y := IntWalk.i64_in _ (by omega)
  have u9 : IntKind.i64.wrap (X * X + Y * Y) = X * X + Y * Y := IntWalk.i64_in _ (by omega)
  rw [hX, hY] at HE
  have HX := Lib.hid hX
  have HY := Lib.hid hY
  clear hP hQ hP' hQ' tP tQ tP' tQ' hX hY m1 m2 m3 m4 m5 m6 hn hi hk
  go_enter Try.func60, Try.ntmps60
  go_wp2_with fail
  have ka := (Blk.new w 74 #[.int .i64 P, .int .i64 Q]).alloc (.cells #[.int .i64 P', .int .i64 Q'] 74)
  have kb := Blk.new' (g := w.heap.size + 1) (w := w.alloc (.cells #[.int .i64 P, .int .i64 Q] 74)) 74 #[.int .i64 P', .int .i64 Q'] (by simp)
  have a0 := ka.cell 0
  have a1 := ka.cell 1
  have b0 := kb.cell 0
  have b1 := kb.cell 1
  simp only [List.getElem?_toArray, List.getElem?_cons_zero, List.getElem?_cons_succ] at a0 a1 b0 b1
  go_region_held3 (fun v => v.cell? ⟨w.heap.size, 0, none⟩ = some (.int .i64 P) ∧ v.cell? ⟨w.heap.size, 1, none⟩ = some (.int .i64 Q) ∧ v.cell? ⟨w.heap.size + 1, 0, none⟩ = some (.int .i64 P') ∧ v.cell? ⟨w.heap.size + 1, 1, none⟩ = some (.int .i64 Q'))
    (first | exact ⟨a0, a1, b0, b1⟩)
    (first
      | (go_at_call 64; ((with_reducible refine (impl_shorterWay _ _ _ _ (by omega) (by omega) (by omega) (by omega) (by omega) (by omega)).mono ?_); rintro e v1 ⟨rfl, rfl⟩; first | rw [HX.out] | rw [HY.out])))
  all_goals (
    go_wp2_with fail
    go_ret
    exact ⟨ret_int HE.out.symm, ((Joins.below_alloc2 w _ _).drew)⟩)

end Go.Proofs.Ytnhjdmdnicnmmaa
