/-
  Contracts of chapter 6: the points of names (the rest), the model's points and names.
-/
import Derived.Test.YtflegojobchgdaaN3
namespace Go.Proofs.Ytflegojobchgdaa
open Go.RowKit
set_option linter.unusedVariables false
set_option linter.unusedSimpArgs false

set_option maxHeartbeats 400000 in
theorem impl_PointOf_no0 {A B : Int} (h : latOk A B = false) (K : Int) (w : World) :
    Calls Try.prog 13 #[.agg #[.int .i64 A, .int .i64 B], .int .i64 K] w fun e w' => e = .returned (.tuple #[.int .i64 0, .int .i64 0, .bool false]) ∧ Below w.heap.size w w' := by
  have HL := Lib.hid h
  clear h
  go_enter Try.func13, Try.ntmps13
  go_wp2_with fail
  refine (impl_IsLattice _ _ _).mono ?_
  rw [HL.out]
  rintro e w1 ⟨rfl, hb⟩
  have HB1 := Lib.hid (bTrans (Joins.below_alloc1 _ _) hb)
  clear hb
  go_wp2_with fail
  go_ret3
  exact ⟨rfl, HB1.out⟩

set_option maxHeartbeats 400000 in
theorem impl_PointOf_no1 {A B n g d a b p q : Int} (L : Lat A B n g d a b p q) (K : Int) (hK : ¬ (0 ≤ K ∧ K < n)) (w : World) :
    Calls Try.prog 13 #[.agg #[.int .i64 A, .int .i64 B], .int .i64 K] w fun e w' => e = .returned (.tuple #[.int .i64 0, .int .i64 0, .bool false]) ∧ Below w.heap.size w w' := by
  have n1 := L.n1; have n2 := L.n2
  have HL := Lib.hid L
  clear L
  go_enter Try.func13, Try.ntmps13
  go_wp2_with fail
  refine (impl_IsLattice _ _ _).mono ?_
  rw [lat_ok HL.out]
  rintro e w1 ⟨rfl, hb⟩
  have HB1 := Lib.hid (bTrans (Joins.below_alloc1 _ _) hb)
  obtain ⟨z, c0, c1⟩ := ((Blk.new w 24 #[.int .i64 A, .int .i64 B]).below' hb).c2
  clear hb
  by_cases hk : K < 0
  · go_wp2_with fail
    go_ret3
    exact ⟨rfl, HB1.out⟩
  · go_wp2_with fail
    refine (impl_AreaOf_yes HL.out _).mono ?_
    rintro e w2 ⟨rfl, hb⟩
    have HB2 := Lib.hid (bTrans HB1.out hb)
    clear hb z c0 c1
    go_wp2_with fail
    go_ret3
    exact ⟨rfl, HB2.out⟩

set_option maxHeartbeats 800000 in
theorem impl_PointOf_yes {A B n g d a b p q : Int} (L : Lat A B n g d a b p q) (K : Int) (h0 : 0 ≤ K) (h1 : K < n) (w : World) :
    Calls Try.prog 13 #[.agg #[.int .i64 A, .int .i64 B], .int .i64 K] w fun e w' => e = .returned (.tuple #[.int .i64 (K % d), .int .i64 (K / d), .bool true]) ∧ Below w.heap.size w w' := by
  obtain ⟨U, hU⟩ : ∃ U, K % d = U := ⟨_, rfl⟩
  obtain ⟨V, hV⟩ : ∃ V, K / d = V := ⟨_, rfl⟩
  obtain ⟨u1, u2, v1, v2, t1, t2⟩ := div5 L h0 h1
  rw [hU] at u1 u2 t1 ⊢
  rw [hV] at v1 v2 t2 ⊢
  have n1 := L.n1; have n2 := L.n2; have d1 := L.w1; have d2 := L.w2
  have HL := Lib.hid L
  have HT1 := Lib.hid t1
  have HT2 := Lib.hid t2
  clear L t1 t2 hU hV
  go_enter Try.func13, Try.ntmps13
  go_wp2_with fail
  refine (impl_IsLattice _ _ _).mono ?_
  rw [lat_ok HL.out]
  rintro e w1 ⟨rfl, hb⟩
  have HB1 := Lib.hid (bTrans (Joins.below_alloc1 _ _) hb)
  have KB1 := Lib.hid ((Blk.new w 24 #[.int .i64 A, .int .i64 B]).below' hb)
  obtain ⟨z, c0, c1⟩ := KB1.out.c2
  clear hb
  go_wp2_with fail
  refine (impl_AreaOf_yes HL.out _).mono ?_
  rintro e w2 ⟨rfl, hb⟩
  have HB2 := Lib.hid (bTrans HB1.out hb)
  have KB2 := Lib.hid (KB1.out.below' hb)
  clear hb z c0 c1
  obtain ⟨z, c0, c1⟩ := KB2.out.c2
  go_wp2_with fail
  refine (impl_PeriodOf_yes HL.out _).mono ?_
  rintro e w3 ⟨rfl, hb⟩
  have HB3 := Lib.hid (bTrans HB2.out hb)
  clear hb z c0 c1
  have z1 : ¬ d = 0 := by omega
  have z2 : (d == 0) = false := by simp; omega
  have t1 := HT1.out
  have t2 := HT2.out
  have t3 : IntKind.i64.wrap U = U := IntWalk.i64_in _ (by omega)
  have t4 : IntKind.i64.wrap V = V := IntWalk.i64_in _ (by omega)
  go_wp2_with fail
  go_quiet (fail)
  go_wp2_with fail
  go_ret3
  exact ⟨rfl, bDraws HB3.out _⟩

theorem tmod_bd {x n : Int} (hn : 1 ≤ n) : -n < x.tmod n ∧ x.tmod n < n := by
  by_cases h : 0 ≤ x
  · rw [Int.tmod_eq_emod_of_nonneg h]
    have := Int.emod_nonneg x (show n ≠ 0 by omega)
    have := Int.emod_lt_of_pos x (show 0 < n by omega)
    omega
  · have := tmod5 (a := x) (n := n) (by omega) hn
    omega

theorem tmod_dvd {x n : Int} : n ∣ x - x.tmod n := ⟨x.tdiv n, by have := Int.mul_tdiv_add_tmod x n; omega⟩

theorem has_first {x y A B n : Int} (hn : 1 ≤ n) : (x.tmod n * A + y.tmod n * B).tmod n = 0 ↔ n ∣ x * A + y * B := by
  have e : n ∣ (x * A + y * B) - (x.tmod n * A + y.tmod n * B) := by
    rw [show x * A + y * B - (x.tmod n * A + y.tmod n * B) = (x - x.tmod n) * A + (y - y.tmod n) * B by simp only [Int.sub_mul]; omega]
    exact Int.dvd_add (Int.dvd_mul_of_dvd_left tmod_dvd) (Int.dvd_mul_of_dvd_left tmod_dvd)
  rw [← Int.dvd_iff_tmod_eq_zero]
  constructor
  · intro h; have := Int.dvd_add e h; rwa [Int.sub_add_cancel] at this
  · intro h; have := Int.dvd_sub h e; rwa [show x * A + y * B - (x * A + y * B - (x.tmod n * A + y.tmod n * B)) = x.tmod n * A + y.tmod n * B by omega] at this

theorem has_second {x y A B n : Int} (hn : 1 ≤ n) : (y.tmod n * A - x.tmod n * B).tmod n = 0 ↔ n ∣ y * A - x * B := by
  have e : n ∣ (y * A - x * B) - (y.tmod n * A - x.tmod n * B) := by
    rw [show y * A - x * B - (y.tmod n * A - x.tmod n * B) = (y - y.tmod n) * A - (x - x.tmod n) * B by simp only [Int.sub_mul]; omega]
    exact Int.dvd_sub (Int.dvd_mul_of_dvd_left tmod_dvd) (Int.dvd_mul_of_dvd_left tmod_dvd)
  rw [← Int.dvd_iff_tmod_eq_zero]
  constructor
  · intro h; have := Int.dvd_add e h; rwa [Int.sub_add_cancel] at this
  · intro h; have := Int.dvd_sub h e; rwa [show y * A - x * B - (y * A - x * B - (y.tmod n * A - x.tmod n * B)) = y.tmod n * A - x.tmod n * B by omega] at this

theorem prod_bd {u A m : Int} (h1 : -m ≤ u) (h2 : u ≤ m) (hm : 0 ≤ m) (a1 : 0 ≤ A) (a2 : A ≤ 12) : -(m * 12) ≤ u * A ∧ u * A ≤ m * 12 := by
  have e1 : u * A ≤ m * A := Int.mul_le_mul_of_nonneg_right h2 a1
  have e2 : -m * A ≤ u * A := Int.mul_le_mul_of_nonneg_right h1 a1
  have e3 : m * A ≤ m * 12 := Int.mul_le_mul_of_nonneg_left a2 hm
  rw [Int.neg_mul] at e2
  omega

end Go.Proofs.Ytflegojobchgdaa
