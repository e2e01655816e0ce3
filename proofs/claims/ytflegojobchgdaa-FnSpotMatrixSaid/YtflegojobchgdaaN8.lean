/-
  Contracts of chapter 6: the program's distances, HasPoint and NearOf.
-/
import Derived.Test.YtflegojobchgdaaN7
namespace Go.Proofs.Ytflegojobchgdaa
open Go.RowKit
set_option linter.unusedVariables false
set_option linter.unusedSimpArgs false

set_option maxHeartbeats 400000 in
theorem impl_way5 (a b n : Int) (w : World) (h1 : 1 ≤ n) (h2 : n ≤ 1000) (h3 : -1000000 ≤ a) (h4 : a ≤ 1000000) (h5 : -1000000 ≤ b) (h6 : b ≤ 1000000) :
    Calls Try.prog 63 #[.int .i64 a, .int .i64 b, .int .i64 n] w fun e w' => e = .returned (.int .i64 (wayG (b - a) n)) ∧ w = w' := by
  have b1 := Int.emod_nonneg (b - a) (show n ≠ 0 by omega)
  have b2 := Int.emod_lt_of_pos (b - a) (show 0 < n by omega)
  go_enter Try.func63, Try.ntmps63
  go_wp2_with fail
  refine (rem5 _ _ _ h1 (by omega)).mono ?_
  rintro e w2 ⟨rfl, rfl⟩
  go_wp2_with fail
  all_goals (go_ret; exact ⟨ret_int (by unfold wayG; omega), rfl⟩)

set_option maxHeartbeats 800000 in
theorem impl_torus5 (n X Y : Int) (w : World) (h1 : 1 ≤ n) (h2 : n ≤ 1000) (h3 : -1000000 ≤ X) (h4 : X ≤ 1000000) (h5 : -1000000 ≤ Y) (h6 : Y ≤ 1000000) :
    Calls Try.prog 54 #[.int .i64 n, .int .i64 n, .agg #[.int .i64 0, .int .i64 0], .agg #[.int .i64 X, .int .i64 Y]] w fun e w' => e = .returned (.int .i64 (wayG X n * wayG X n + wayG Y n * wayG Y n)) ∧ Below w.heap.size w w' := by
  obtain ⟨x1, x2⟩ := wayG_bd (d := X) h1
  obtain ⟨y1, y2⟩ := wayG_bd (d := Y) h1
  obtain ⟨S, hS⟩ : ∃ S, wayG X n = S := ⟨_, rfl⟩
  obtain ⟨T, hT⟩ : ∃ T, wayG Y n = T := ⟨_, rfl⟩
  rw [hS] at x1 x2 ⊢
  rw [hT] at y1 y2 ⊢
  obtain ⟨m1, m2⟩ := sq_bd (x := S) (m := 1000) (by omega) (by omega)
  obtain ⟨m3, m4⟩ := sq_bd (x := T) (m := 1000) (by omega) (by omega)
  have HX : Hid (wayG (X - 0) n = S) := Lib.hid (by rw [Int.sub_zero]; exact hS)
  have HY : Hid (wayG (Y - 0) n = T) := Lib.hid (by rw [Int.sub_zero]; exact hT)
  clear hS hT
  go_enter Try.func54, Try.ntmps54
  go_wp2_with fail
  have ka := (Blk.new w 56 #[.int .i64 0, .int .i64 0]).alloc (.cells #[.int .i64 X, .int .i64 Y] 56)
  have kb := Blk.new' (g := w.heap.size + 1) (w := w.alloc (.cells #[.int .i64 0, .int .i64 0] 56)) 56 #[.int .i64 X, .int .i64 Y] (by simp)
  have a0 := ka.cell 0
  have a1 := ka.cell 1
  have b0 := kb.cell 0
  have b1 := kb.cell 1
  simp only [List.getElem?_toArray, List.getElem?_cons_zero, List.getElem?_cons_succ] at a0 a1 b0 b1
  go_region_held3 (fun v => v.cell? ⟨w.heap.size, 0, none⟩ = some (.int .i64 0) ∧ v.cell? ⟨w.heap.size, 1, none⟩ = some (.int .i64 0) ∧ v.cell? ⟨w.heap.size + 1, 0, none⟩ = some (.int .i64 X) ∧ v.cell? ⟨w.heap.size + 1, 1, none⟩ = some (.int .i64 Y))
    (first | exact ⟨a0, a1, b0, b1⟩)
    (first
      | (go_at_call 63; ((with_reducible refine (impl_way5 _ _ _ _ (by omega) (by omega) (by omega) (by omega) (by omega) (by omega)).mono ?_); rintro e v1 ⟨rfl, rfl⟩; first | rw [HX.out] | rw [HY.out])))
  all_goals (
    go_wp2_with fail
    go_ret
    exact ⟨rfl, ((Joins.below_alloc2 w _ _).drew)⟩)

theorem near_mod2 {A B n g d a b p q : Int} (L : Lat A B n g d a b p q) (x y : Int) :
    (wayG (x % n * A + y % n * B) n * wayG (x % n * A + y % n * B) n + wayG (y % n * A - x % n * B) n * wayG (y % n * A - x % n * B) n).tdiv n = nearF A B x y ∧
    0 ≤ wayG (x % n * A + y % n * B) n * wayG (x % n * A + y % n * B) n + wayG (y % n * A - x % n * B) n * wayG (y % n * A - x % n * B) n ∧
    wayG (x % n * A + y % n * B) n * wayG (x % n * A + y % n * B) n + wayG (y % n * A - x % n * B) n * wayG (y % n * A - x % n * B) n ≤ 200000 := by
  have hn := L.n1; have hn2 := L.n2
  have h := L.near_n (x % n) (y % n)
  rw [L.near_mod] at h
  obtain ⟨x1, x2⟩ := wayG_bd (d := x % n * A + y % n * B) hn
  obtain ⟨y1, y2⟩ := wayG_bd (d := y % n * A - x % n * B) hn
  obtain ⟨m1, m2⟩ := sq_bd (x := wayG (x % n * A + y % n * B) n) (m := 288) (by omega) (by omega)
  obtain ⟨m3, m4⟩ := sq_bd (x := wayG (y % n * A - x % n * B) n) (m := 288) (by omega) (by omega)
  refine ⟨?_, by omega, by omega⟩
  rw [← h]
  exact Int.mul_tdiv_cancel_left _ (by omega)

set_option maxHeartbeats 1600000 in
theorem impl_nearSquare {A B n g d a b p q : Int} (L : Lat A B n g d a b p q) (x y R : Int) (hR : nearF A B x y = R) (w : World) :
    Calls Try.prog 34 #[.agg #[.int .i64 A, .int .i64 B], .agg #[.int .i64 x, .int .i64 y]] w fun e w' => e = .returned (.int .i64 R) ∧ Below w.heap.size w w' := by
  have n1 := L.n1; have n2 := L.n2
  have a1 := L.a1; have a2 := L.a2; have b1 := L.b1; have b2 := L.b2
  obtain ⟨q1, q2, q3⟩ := near_mod2 L x y
  rw [hR] at q1
  obtain ⟨U, hU⟩ : ∃ U, x % n = U := ⟨_, rfl⟩
  obtain ⟨V, hV⟩ : ∃ V, y % n = V := ⟨_, rfl⟩
  have u1 := Int.emod_nonneg x (show n ≠ 0 by omega)
  have u2 := Int.emod_lt_of_pos x (show 0 < n by omega)
  have v1 := Int.emod_nonneg y (show n ≠ 0 by omega)
  have v2 := Int.emod_lt_of_pos y (show 0 < n by omega)
  rw [hU] at u1 u2 q1 q2 q3
  rw [hV] at v1 v2 q1 q2 q3
  obtain ⟨p1, p2⟩ := prod_bd (u := U) (m := 288) (A := A) (by omega) (by omega) (by omega) (by omega) a2
  obtain ⟨p3, p4⟩ := prod_bd (u := U) (m := 288) (A := B) (by omega) (by omega) (by omega) b1 b2
  obtain ⟨p5, p6⟩ := prod_bd (u := V) (m := 288) (A := A) (by omega) (by omega) (by omega) (by omega) a2
  obtain ⟨p7, p8⟩ := prod_bd (u := V) (m := 288) (A := B) (by omega) (by omega) (by omega) b1 b2
  obtain ⟨X, hX⟩ : ∃ X, U * A + V * B = X := ⟨_, rfl⟩
  obtain ⟨Y, hY⟩ : ∃ Y, V * A - U * B = Y := ⟨_, rfl⟩
  rw [hX, hY] at q1 q2 q3
  obtain ⟨D, hD⟩ : ∃ D, wayG X n * wayG X n + wayG Y n * wayG Y n = D := ⟨_, rfl⟩
  rw [hD] at q1 q2 q3
  have r0 : 0 ≤ R := by rw [← hR]; exact L.near_nn x y
  have HL := Lib.hid L
  have HU := Lib.hid hU
  have HV := Lib.hid hV
  have HD := Lib.hid hD
  have HQ := Lib.hid q1
  have z1 : ¬ n = 0 := by omega
  have z2 : (n == 0) = false := by simp; omega
  clear L hR hU hV hD q1
  go_enter Try.func34, Try.ntmps34
  go_wp2_with fail
  refine (impl_AreaOf_yes HL.out _).mono ?_
  rintro e w1 ⟨rfl, hb⟩
  have HB1 := Lib.hid (bTrans (Joins.below_alloc2 _ _ _) hb)
  have KA1 := Lib.hid (((Blk.new w 24 #[.int .i64 A, .int .i64 B]).alloc (.cells #[.int .i64 x, .int .i64 y] 56)).below' hb)
  have KC1 := Lib.hid ((Blk.new' (g := w.heap.size + 1) (w := w.alloc (.cells #[.int .i64 A, .int .i64 B] 24)) 56 #[.int .i64 x, .int .i64 y] (by simp)).below' hb)
  obtain ⟨z, c0, c1⟩ := KA1.out.c2
  obtain ⟨y', d0, d1⟩ := KC1.out.c2
  clear hb
  go_wp2_with fail
  go_region_held3 (fun v => v.cell? ⟨w.heap.size + 1, 0, none⟩ = some (.int .i64 x) ∧ v.cell? ⟨w.heap.size + 1, 1, none⟩ = some (.int .i64 y))
    (first | exact ⟨d0, d1⟩)
    (first
      | (go_at_call 33; ((with_reducible refine (rem5 _ _ _ n1 (by omega)).mono ?_); rintro e v1 ⟨rfl, rfl⟩; first | rw [HU.out] | rw [HV.out])))
  have l0 : w1.drew.cell? ⟨w.heap.size, 0, none⟩ = some (.int .i64 A) := c0
  have l1 : w1.drew.cell? ⟨w.heap.size, 1, none⟩ = some (.int .i64 B) := c1
  go_wp2_with fail
  refine (impl_torus5 n X Y _ n1 (by omega) (by omega) (by omega) (by omega) (by omega)).mono ?_
  rw [HD.out]
  rintro e w2 ⟨rfl, hb⟩
  have HB2 := Lib.hid (bTrans (bAlloc HB1.out (.cells #[.int .i64 X, .int .i64 Y] 56)).drew hb)
  clear hb
  have e0 : 0 ≤ D / n := Int.ediv_nonneg q2 (by omega)
  have e1 : D / n ≤ 200000 := Int.le_trans (Int.ediv_le_self _ q2) q3
  have HE : Hid (D / n = R) := Lib.hid (by rw [← Int.tdiv_eq_ediv_of_nonneg q2]; exact HQ.out)
  go_wp2_with fail
  go_ret
  exact ⟨ret_int HE.out, HB2.out⟩

set_option maxHeartbeats 400000 in
theorem impl_HasPoint_yes {A B n g d a b p q : Int} (L : Lat A B n g d a b p q) (x y : Int) (w : World) :
    Calls Try.prog 12 #[.agg #[.int .i64 A, .int .i64 B], .int .i64 x, .int .i64 y] w fun e w' => e = .returned (.bool (decide (HasL A B x y))) ∧ Below w.heap.size w w' := by
  obtain ⟨R, hR⟩ : ∃ R, nearF A B x y = R := ⟨_, rfl⟩
  have hc : decide (HasL A B x y) = (R == 0) := by
    rw [← hR]
    by_cases h : HasL A B x y
    · rw [decide_eq_true h, (L.near_zero x y).2 h]; rfl
    · rw [decide_eq_false h]
      have : ¬ nearF A B x y = 0 := fun e => h ((L.near_zero x y).1 e)
      simp [this]
  have HL := Lib.hid L
  have HR := Lib.hid hR
  rw [hc]
  clear L hR hc
  go_enter Try.func12, Try.ntmps12
  go_wp2_with fail
  refine (impl_IsLattice _ _ _).mono ?_
  rw [lat_ok HL.out]
  rintro e w1 ⟨rfl, hb⟩
  have HB1 := Lib.hid (bTrans (Joins.below_alloc1 _ _) hb)
  obtain ⟨z, c0, c1⟩ := ((Blk.new w 24 #[.int .i64 A, .int .i64 B]).below' hb).c2
  clear hb
  go_wp2_with fail
  refine (impl_nearSquare HL.out _ _ _ HR.out _).mono ?_
  rintro e w2 ⟨rfl, hb⟩
  have HB2 := Lib.hid (bTrans HB1.out hb)
  clear hb
  go_wp2_with fail
  go_ret
  exact ⟨rfl, HB2.out⟩

set_option maxHeartbeats 400000 in
theorem impl_HasPoint_no {A B : Int} (h : latOk A B = false) (x y : Int) (w : World) :
    Calls Try.prog 12 #[.agg #[.int .i64 A, .int .i64 B], .int .i64 x, .int .i64 y] w fun e w' => e = .returned (.bool false) ∧ Below w.heap.size w w' := by
  have HL := Lib.hid h
  clear h
  go_enter Try.func12, Try.ntmps12
  go_wp2_with fail
  refine (impl_IsLattice _ _ _).mono ?_
  rw [HL.out]
  rintro e w1 ⟨rfl, hb⟩
  have HB1 := Lib.hid (bTrans (Joins.below_alloc1 _ _) hb)
  clear hb
  go_wp2_with fail
  go_ret
  exact ⟨rfl, HB1.out⟩

set_option maxHeartbeats 800000 in
theorem impl_NearOf {A B K R : Int} (h : NearR A B K R) (w : World) :
    Calls Try.prog 22 #[.agg #[.int .i64 A, .int .i64 B], .int .i64 K] w fun e w' => e = .returned (.int .i64 R) ∧ Below w.heap.size w w' := by
  rcases h with ⟨hok, ⟨k0, k1⟩, hR⟩ | ⟨hn, rfl⟩
  · obtain ⟨n, g, d, a, b, p, q, L⟩ := lat_of hok
    rw [L.hn] at k1
    rw [L.hw] at hR
    obtain ⟨U, hU⟩ : ∃ U, K % d = U := ⟨_, rfl⟩
    obtain ⟨V, hV⟩ : ∃ V, K / d = V := ⟨_, rfl⟩
    rw [hU, hV] at hR
    have HL := Lib.hid L
    have HR := Lib.hid hR
    have HU := Lib.hid hU
    have HV := Lib.hid hV
    clear L hR hok hU hV
    go_enter Try.func22, Try.ntmps22
    go_wp2_with fail
    refine (impl_PointOf_yes HL.out _ k0 k1 _).mono ?_
    rw [HU.out, HV.out]
    rintro e w1 ⟨rfl, hb⟩
    have HB1 := Lib.hid (bTrans (Joins.below_alloc1 _ _) hb)
    obtain ⟨z, c0, c1⟩ := ((Blk.new w 24 #[.int .i64 A, .int .i64 B]).below' hb).c2
    clear hb
    go_wp2_with fail
    refine (impl_nearSquare HL.out _ _ _ HR.out _).mono ?_
    rintro e w2 ⟨rfl, hb⟩
    have HB2 := Lib.hid (bTrans HB1.out hb)
    clear hb
    go_wp2_with fail
    go_ret
    exact ⟨rfl, HB2.out⟩
  · have H : Hid (∀ w, Calls Try.prog 13 #[.agg #[.int .i64 A, .int .i64 B], .int .i64 K] w fun e w' => e = .returned (.tuple #[.int .i64 0, .int .i64 0, .bool false]) ∧ Below w.heap.size w w') := Lib.hid (by
      intro w
      by_cases hok : latOk A B = true
      · obtain ⟨n, g, d, a, b, p, q, L⟩ := lat_of hok
        exact impl_PointOf_no1 L K (fun h => hn ⟨hok, by rw [L.hn]; exact h⟩) w
      · exact impl_PointOf_no0 (by simpa using hok) K w)
    clear hn
    go_enter Try.func22, Try.ntmps22
    go_wp2_with fail
    refine (H.out _).mono ?_
    rintro e w1 ⟨rfl, hb⟩
    have HB1 := Lib.hid (bTrans (Joins.below_alloc1 _ _) hb)
    clear hb
    go_wp2_with fail
    go_ret
    exact ⟨rfl, HB1.out⟩

end Go.Proofs.Ytflegojobchgdaa
