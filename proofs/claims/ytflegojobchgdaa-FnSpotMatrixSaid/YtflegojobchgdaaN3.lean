/-
  Contracts of chapter 6: sides, periods, the points of names.
-/
import Derived.Test.YtflegojobchgdaaN2
import Derived.Test.YtflegojobchgdaaN0
namespace Go.Proofs.Ytflegojobchgdaa
open Go.RowKit
set_option linter.unusedVariables false
set_option linter.unusedSimpArgs false

theorem bDraws {B : Nat} {w w' : World} (h : Below B w w') (n : Nat) : Below B w (w'.drewN n) := ⟨h.os, h.tape, h.output, h.size, h.block⟩

theorem quo5 {A B n g d a b p q : Int} (L : Lat A B n g d a b p q) : n.tdiv g = d ∧ n / g = d := by
  have h1 := L.g1; have h2 := L.n1
  have e : n / g = d := by rw [← L.wg]; exact Int.mul_ediv_cancel _ (by omega)
  exact ⟨by rw [Int.tdiv_eq_ediv_of_nonneg (by omega)]; exact e, e⟩

set_option maxHeartbeats 800000 in
theorem spec_l5Sides {A B n g d a b p q : Int} (L : Lat A B n g d a b p q) (w : World) :
    Calls Try.prog 38 #[.agg #[.int .i64 A, .int .i64 B]] w fun e w' => e = .returned (.tuple #[.int .i64 d, .int .i64 g]) ∧ Below w.heap.size w w' := by
  obtain ⟨t1, t2⟩ := quo5 L
  have g1 := L.g1; have g2 := L.g2; have n1 := L.n1; have n2 := L.n2; have d1 := L.w1; have d2 := L.w2
  have HL := Lib.hid L
  have HT := Lib.hid t2
  clear L t1 t2
  go_enter Try.func38, Try.ntmps38
  go_wp2_with fail
  refine (spec_gcdL HL.out _).mono ?_
  rintro e w1 ⟨rfl, hb⟩
  have HB1 := Lib.hid (bTrans (Joins.below_alloc1 _ _) hb)
  obtain ⟨z, c0, c1⟩ := ((Blk.new w 24 #[.int .i64 A, .int .i64 B]).below' hb).c2
  clear hb
  go_wp2_with fail
  refine (spec_l5Area HL.out _).mono ?_
  rintro e w2 ⟨rfl, hb⟩
  have HB2 := Lib.hid (bTrans HB1.out hb)
  clear hb
  have z1 : ¬ g = 0 := by omega
  have z2 : (g == 0) = false := by simp; omega
  have t2 : 0 ≤ n / g := by rw [HT.out]; omega
  have t3 : n / g ≤ 288 := by rw [HT.out]; omega
  go_wp2_with fail
  go_ret2
  exact ⟨by rw [HT.out]; rfl, HB2.out⟩

set_option maxHeartbeats 400000 in
theorem spec_PeriodOf_yes {A B n g d a b p q : Int} (L : Lat A B n g d a b p q) (w : World) :
    Calls Try.prog 17 #[.agg #[.int .i64 A, .int .i64 B]] w fun e w' => e = .returned (.int .i64 d) ∧ Below w.heap.size w w' := by
  have HL := Lib.hid L
  clear L
  go_enter Try.func17, Try.ntmps17
  go_wp2_with fail
  refine (spec_IsLattice _ _ _).mono ?_
  rw [lat_ok HL.out]
  rintro e w1 ⟨rfl, hb⟩
  have HB1 := Lib.hid (bTrans (Joins.below_alloc1 _ _) hb)
  obtain ⟨z, c0, c1⟩ := ((Blk.new w 24 #[.int .i64 A, .int .i64 B]).below' hb).c2
  clear hb
  go_wp2_with fail
  refine (spec_l5Sides HL.out _).mono ?_
  rintro e w2 ⟨rfl, hb⟩
  have HB2 := Lib.hid (bTrans HB1.out hb)
  clear hb
  go_wp2_with fail
  go_ret
  exact ⟨rfl, HB2.out⟩

set_option maxHeartbeats 400000 in
theorem spec_PeriodOf_no {A B : Int} (h : latOk A B = false) (w : World) :
    Calls Try.prog 17 #[.agg #[.int .i64 A, .int .i64 B]] w fun e w' => e = .returned (.int .i64 0) ∧ Below w.heap.size w w' := by
  have HL := Lib.hid h
  clear h
  go_enter Try.func17, Try.ntmps17
  go_wp2_with fail
  refine (spec_IsLattice _ _ _).mono ?_
  rw [HL.out]
  rintro e w1 ⟨rfl, hb⟩
  have HB1 := Lib.hid (bTrans (Joins.below_alloc1 _ _) hb)
  clear hb
  go_wp2_with fail
  go_ret
  exact ⟨rfl, HB1.out⟩

set_option maxHeartbeats 800000 in
theorem impl_PeriodOf_yes {A B n g d a b p q : Int} (L : Lat A B n g d a b p q) (w : World) :
    Calls Try.prog 15 #[.agg #[.int .i64 A, .int .i64 B]] w fun e w' => e = .returned (.int .i64 d) ∧ Below w.heap.size w w' := by
  obtain ⟨t1, t2⟩ := quo5 L
  have g1 := L.g1; have g2 := L.g2; have n1 := L.n1; have n2 := L.n2; have d1 := L.w1; have d2 := L.w2
  have HL := Lib.hid L
  have HT := Lib.hid t1
  clear L t1 t2
  go_enter Try.func15, Try.ntmps15
  go_wp2_with fail
  refine (impl_IsLattice _ _ _).mono ?_
  rw [lat_ok HL.out]
  rintro e w1 ⟨rfl, hb⟩
  have HB1 := Lib.hid (bTrans (Joins.below_alloc1 _ _) hb)
  obtain ⟨z, c0, c1⟩ := ((Blk.new w 24 #[.int .i64 A, .int .i64 B]).below' hb).c2
  clear hb
  go_wp2_with fail
  have z1 : ¬ g = 0 := by omega
  have z2 : (g == 0) = false := by simp; omega
  have t2 := HT.out
  have t3 : IntKind.i64.wrap d = d := IntWalk.i64_in _ (by omega)
  have MK : Hid (∀ v, BelowL w1 v → v.cell? ⟨w.heap.size, 0, none⟩ = some (.int .i64 A) ∧ v.cell? ⟨w.heap.size, 1, none⟩ = some (.int .i64 B) ∧ BelowL w1 v) := Lib.hid (fun v h => ⟨(h.out.cell z).trans c0, (h.out.cell z).trans c1, h⟩)
  go_region_held3 (fun v => v.cell? ⟨w.heap.size, 0, none⟩ = some (.int .i64 A) ∧ v.cell? ⟨w.heap.size, 1, none⟩ = some (.int .i64 B) ∧ BelowL w1 v)
    (first | exact MK.out _ hb2 | exact MK.out _ hb1 | exact MK.out _ (BelowL.start _))
    (first
      | (go_at_call 14; ((with_reducible refine (impl_AreaOf_yes HL.out _).mono ?_); rintro e v1 ⟨rfl, hq1⟩; have hb1 := BelowL.call (limb3 (by assumption)) hq1))
      | (go_at_call 35; ((with_reducible refine (impl_gcdL HL.out _).mono ?_); rintro e v2 ⟨rfl, hq2⟩; have hb2 := BelowL.call (limb3 (by assumption)) hq2)))
  go_wp2_with fail
  go_ret
  exact ⟨rfl, bTrans HB1.out hb2.out⟩

set_option maxHeartbeats 400000 in
theorem impl_PeriodOf_no {A B : Int} (h : latOk A B = false) (w : World) :
    Calls Try.prog 15 #[.agg #[.int .i64 A, .int .i64 B]] w fun e w' => e = .returned (.int .i64 0) ∧ Below w.heap.size w w' := by
  have HL := Lib.hid h
  clear h
  go_enter Try.func15, Try.ntmps15
  go_wp2_with fail
  refine (impl_IsLattice _ _ _).mono ?_
  rw [HL.out]
  rintro e w1 ⟨rfl, hb⟩
  have HB1 := Lib.hid (bTrans (Joins.below_alloc1 _ _) hb)
  clear hb
  go_wp2_with fail
  go_ret
  exact ⟨rfl, HB1.out⟩

theorem div5 {A B n g d a b p q K : Int} (L : Lat A B n g d a b p q) (h0 : 0 ≤ K) (h1 : K < n) : 0 ≤ K % d ∧ K % d ≤ 287 ∧ 0 ≤ K / d ∧ K / d ≤ 11 ∧ K.tmod d = K % d ∧ K.tdiv d = K / d := by
  obtain ⟨a0, a1, a2, a3⟩ := L.name_bd h0 h1
  have := L.w2; have := L.g2
  exact ⟨a0, by omega, a2, by omega, Int.tmod_eq_emod_of_nonneg h0, Int.tdiv_eq_ediv_of_nonneg h0⟩

end Go.Proofs.Ytflegojobchgdaa
