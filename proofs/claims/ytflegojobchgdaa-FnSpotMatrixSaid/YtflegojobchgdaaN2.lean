/-
  Contracts of chapter 6: remainders, divisors, areas, periods.
-/
import Derived.Test.YtflegojobchgdaaN1
namespace Go.Proofs.Ytflegojobchgdaa
open Go.RowKit
set_option linter.unusedVariables false
set_option linter.unusedSimpArgs false

theorem bDrawn (w : World) (k : Nat) : Below w.heap.size w (w.drewN k) := grown_below (row := none) (grown_drewN (grown_refl w none) k) (Nat.le_refl _) (fun _ h => by cases h)

theorem tmod5 {a n : Int} (h : a < 0) (hn : 1 ≤ n) : -n < a.tmod n ∧ a.tmod n ≤ 0 ∧ (a.tmod n < 0 → a.tmod n + n = a % n) ∧ (¬ a.tmod n < 0 → a.tmod n = a % n) := by
  obtain ⟨b, rfl⟩ : ∃ b, a = -b := ⟨-a, by omega⟩
  have e0 : (-b).tmod n = -(b % n) := by rw [Int.neg_tmod, Int.tmod_eq_emod_of_nonneg (by omega)]
  have e1 : 0 ≤ b % n := Int.emod_nonneg _ (by omega)
  have e2 : b % n < n := Int.emod_lt_of_pos _ (by omega)
  rw [e0]
  refine ⟨by omega, by omega, fun h1 => ?_, fun h1 => ?_⟩
  · have e3 : -b = (n - b % n) + n * (-(b / n) - 1) := by
      have := Int.mul_ediv_add_emod b n
      rw [Int.mul_sub, Int.mul_neg]
      omega
    have e4 : (-b) % n = n - b % n := by
      rw [e3, Int.add_mul_emod_self_left, Int.emod_eq_of_lt (by omega) (by omega)]
    rw [e4]; omega
  · have e5 : b % n = 0 := by omega
    have e6 : (-b) % n = 0 := Int.emod_eq_zero_of_dvd (Int.dvd_neg.2 (Int.dvd_of_emod_eq_zero e5))
    omega

set_option maxHeartbeats 400000 in
theorem rem5 (a n : Int) (w : World) (h : 1 ≤ n) (h2 : n ≤ 9223372036854775807) :
    Calls Try.prog 33 #[.int .i64 a, .int .i64 n] w fun e w' => e = .returned (.int .i64 (a % n)) ∧ w = w' := by
  by_cases ha : 0 ≤ a
  · have e1 : 0 ≤ a % n := Int.emod_nonneg _ (by omega)
    have e2 : a % n < n := Int.emod_lt_of_pos _ (by omega)
    go_enter Try.func33, Try.ntmps33
    go_wp2
    go_ret
    exact ⟨rfl, rfl⟩
  · obtain ⟨t1, t2, t3, t4⟩ := tmod5 (a := a) (n := n) (by omega) h
    have H3 := Lib.hid t3
    have H4 := Lib.hid t4
    clear t3 t4
    by_cases hr : a.tmod n < 0
    · go_enter Try.func33, Try.ntmps33
      go_wp2
      go_ret
      exact ⟨ret_int (H3.out hr), rfl⟩
    · go_enter Try.func33, Try.ntmps33
      go_wp2
      go_ret
      exact ⟨ret_int (H4.out hr), rfl⟩

theorem gcd5_go {a b : Nat} (hb : b ≠ 0) : Nat.gcd b (a % b) = Nat.gcd a b := by rw [Nat.gcd_comm b, ← Nat.gcd_rec, Nat.gcd_comm]

theorem cast5_mod (a b : Nat) : ((a % b : Nat) : Int) = (a : Int) % (b : Int) := by simp

set_option maxHeartbeats 800000 in
theorem spec_gcd5 (a b : Nat) (w : World) (ha : a ≤ 1000000) (hb : b ≤ 1000000) :
    Calls Try.prog 56 #[.int .i64 a, .int .i64 b] w fun e w' => e = .returned (.int .i64 (Nat.gcd a b : Nat)) ∧ ∃ q, w' = w.drewN q := by
  go_enter Try.func56, Try.ntmps56
  go_wp2_with fail
  go_loopw [0, 1] (fun x y wr => ∃ a' b' : Nat, a' ≤ 1000000 ∧ b' ≤ 1000000 ∧ x = .int .i64 a' ∧ y = .int .i64 b' ∧ Hid (Nat.gcd a' b' = Nat.gcd a b) ∧ ∃ q, wr = w.drewN q) (fun _ y _ => (intOf y).toNat)
  case atStart => exact ⟨a, b, ha, hb, rfl, rfl, Lib.hid rfl, 0, rfl⟩
  case round =>
    obtain ⟨a', b', ha', hb', rfl, rfl, HG, q, rfl⟩ := hrel
    by_cases h0 : b' = 0
    · subst h0
      go_wp2_with fail
      go_ret
      exact ⟨ret_int (by have := HG.out; rw [Nat.gcd_zero_right] at this; rw [this]), q, rfl⟩
    · have h1 : ((b' : Int) != 0) = true := by simpa using h0
      have h2 : ((b' : Int) == 0) = false := by simpa using h0
      have h3 : ¬ (b' : Int) = 0 := by omega
      have HR := Lib.hid (gcd5_go (a := a') h0)
      have m1 := Nat.mod_lt a' (show 0 < b' by omega)
      have HM := Lib.hid (cast5_mod a' b')
      have m2 : 0 ≤ (a' : Int) % (b' : Int) := Int.emod_nonneg _ (by omega)
      have m3 : (a' : Int) % (b' : Int) < b' := Int.emod_lt_of_pos _ (by omega)
      clear h0
      go_wp2_with fail
      go_roundw
      case rel => exact ⟨b', a' % b', hb', by omega, rfl, by rw [HM.out], Lib.hid (by rw [HR.out]; exact HG.out), q, rfl⟩
      case measure => simp [intOf]; omega

set_option maxHeartbeats 800000 in
theorem impl_gcd5 (a b : Nat) (w : World) (ha : a ≤ 1000000) (hb : b ≤ 1000000) :
    Calls Try.prog 35 #[.int .i64 a, .int .i64 b] w fun e w' => e = .returned (.int .i64 (Nat.gcd a b : Nat)) ∧ ∃ q, w' = w.drewN q := by
  go_enter Try.func35, Try.ntmps35
  go_wp2_with fail
  go_loopw [0, 1] (fun x y wr => ∃ a' b' : Nat, a' ≤ 1000000 ∧ b' ≤ 1000000 ∧ x = .int .i64 a' ∧ y = .int .i64 b' ∧ Hid (Nat.gcd a' b' = Nat.gcd a b) ∧ ∃ q, wr = w.drewN q) (fun _ y _ => (intOf y).toNat)
  case atStart => exact ⟨a, b, ha, hb, rfl, rfl, Lib.hid rfl, 0, rfl⟩
  case round =>
    obtain ⟨a', b', ha', hb', rfl, rfl, HG, q, rfl⟩ := hrel
    by_cases h0 : b' = 0
    · subst h0
      go_wp2_with fail
      go_ret
      exact ⟨ret_int (by have := HG.out; rw [Nat.gcd_zero_right] at this; rw [this]), q, rfl⟩
    · have h1 : ((b' : Int) != 0) = true := by simpa using h0
      have h2 : ((b' : Int) == 0) = false := by simpa using h0
      have h3 : ¬ (b' : Int) = 0 := by omega
      have HR := Lib.hid (gcd5_go (a := a') h0)
      have m1 := Nat.mod_lt a' (show 0 < b' by omega)
      obtain ⟨M, hM⟩ : ∃ M : Nat, a' % b' = M := ⟨_, rfl⟩
      rw [hM] at m1 HR
      have t1 : (a' : Int).tmod (b' : Int) = (M : Int) := by rw [Int.tmod_eq_emod_of_nonneg (by omega), ← cast5_mod, hM]
      have t2 : IntKind.i64.wrap (M : Int) = (M : Int) := IntWalk.i64_in _ (by omega)
      clear h0 hM
      go_wp2_with fail
      go_quiet (fail)
      clear t1 t2
      go_wp2_with fail
      go_roundw
      case rel => exact ⟨b', M, hb', by omega, rfl, rfl, Lib.hid (by rw [HR.out]; exact HG.out), by first | exact draws1 _ _ | exact draws2 _ _ _⟩
      case measure => simp [intOf]; omega

theorem gcd5_of {A B n g d a b p q : Int} (L : Lat A B n g d a b p q) : ∃ x y : Nat, A = (x : Int) ∧ B = (y : Int) ∧ x ≤ 12 ∧ y ≤ 12 ∧ ((Nat.gcd x y : Nat) : Int) = g := by
  have h1 := L.a1; have h2 := L.a2; have h3 := L.b1; have h4 := L.b2
  refine ⟨A.toNat, B.toNat, by omega, by omega, by omega, by omega, ?_⟩
  exact L.hg

theorem spec_gcdL {A B n g d a b p q : Int} (L : Lat A B n g d a b p q) (w : World) :
    Calls Try.prog 56 #[.int .i64 A, .int .i64 B] w fun e w' => e = .returned (.int .i64 g) ∧ Below w.heap.size w w' := by
  obtain ⟨x, y, rfl, rfl, h1, h2, hg⟩ := gcd5_of L
  rw [← hg]
  exact (spec_gcd5 x y w (by omega) (by omega)).mono (fun e w' ⟨h, k, hk⟩ => ⟨h, by rw [hk]; exact bDrawn _ k⟩)

theorem impl_gcdL {A B n g d a b p q : Int} (L : Lat A B n g d a b p q) (w : World) :
    Calls Try.prog 35 #[.int .i64 A, .int .i64 B] w fun e w' => e = .returned (.int .i64 g) ∧ Below w.heap.size w w' := by
  obtain ⟨x, y, rfl, rfl, h1, h2, hg⟩ := gcd5_of L
  rw [← hg]
  exact (impl_gcd5 x y w (by omega) (by omega)).mono (fun e w' ⟨h, k, hk⟩ => ⟨h, by rw [hk]; exact bDrawn _ k⟩)

theorem lat_bd {A B n g d a b p q : Int} (L : Lat A B n g d a b p q) : 0 ≤ A * A ∧ A * A ≤ 144 ∧ 0 ≤ B * B ∧ B * B ≤ 144 := by
  obtain ⟨h1, h2⟩ := sq_le12 (A := A) (by have := L.a1; omega) L.a2
  obtain ⟨h3, h4⟩ := sq_le12 L.b1 L.b2
  exact ⟨h1, h2, h3, h4⟩

theorem lat_ok {A B n g d a b p q : Int} (L : Lat A B n g d a b p q) : latOk A B = true := latOk_yes L.a1 L.a2 L.b1 L.b2

set_option maxHeartbeats 400000 in
theorem spec_l5Area {A B n g d a b p q : Int} (L : Lat A B n g d a b p q) (w : World) :
    Calls Try.prog 37 #[.agg #[.int .i64 A, .int .i64 B]] w fun e w' => e = .returned (.int .i64 n) ∧ Below w.heap.size w w' := by
  obtain ⟨s1, s2, s3, s4⟩ := lat_bd L
  have HL := Lib.hid L
  clear L
  go_enter Try.func37, Try.ntmps37
  go_wp2_with fail
  go_ret
  exact ⟨ret_int HL.out.area, Joins.below_alloc1 _ _⟩

set_option maxHeartbeats 400000 in
theorem spec_AreaOf_yes {A B n g d a b p q : Int} (L : Lat A B n g d a b p q) (w : World) :
    Calls Try.prog 16 #[.agg #[.int .i64 A, .int .i64 B]] w fun e w' => e = .returned (.int .i64 n) ∧ Below w.heap.size w w' := by
  have HL := Lib.hid L
  clear L
  go_enter Try.func16, Try.ntmps16
  go_wp2_with fail
  refine (spec_IsLattice _ _ _).mono ?_
  rw [lat_ok HL.out]
  rintro e w1 ⟨rfl, hb⟩
  have HB1 := Lib.hid (bTrans (Joins.below_alloc1 _ _) hb)
  obtain ⟨z, c0, c1⟩ := ((Blk.new w 24 #[.int .i64 A, .int .i64 B]).below' hb).c2
  clear hb
  go_wp2_with fail
  refine (spec_l5Area HL.out _).mono ?_
  rintro e w2 ⟨rfl, hb⟩
  have HB2 := Lib.hid (bTrans HB1.out hb)
  clear hb
  go_wp2_with fail
  go_ret
  exact ⟨rfl, HB2.out⟩

set_option maxHeartbeats 400000 in
theorem spec_AreaOf_no {A B : Int} (h : latOk A B = false) (w : World) :
    Calls Try.prog 16 #[.agg #[.int .i64 A, .int .i64 B]] w fun e w' => e = .returned (.int .i64 0) ∧ Below w.heap.size w w' := by
  have HL := Lib.hid h
  clear h
  go_enter Try.func16, Try.ntmps16
  go_wp2_with fail
  refine (spec_IsLattice _ _ _).mono ?_
  rw [HL.out]
  rintro e w1 ⟨rfl, hb⟩
  have HB1 := Lib.hid (bTrans (Joins.below_alloc1 _ _) hb)
  clear hb
  go_wp2_with fail
  go_ret
  exact ⟨rfl, HB1.out⟩

set_option maxHeartbeats 400000 in
theorem impl_AreaOf_yes {A B n g d a b p q : Int} (L : Lat A B n g d a b p q) (w : World) :
    Calls Try.prog 14 #[.agg #[.int .i64 A, .int .i64 B]] w fun e w' => e = .returned (.int .i64 n) ∧ Below w.heap.size w w' := by
  obtain ⟨s1, s2, s3, s4⟩ := lat_bd L
  have HL := Lib.hid L
  clear L
  go_enter Try.func14, Try.ntmps14
  go_wp2_with fail
  refine (impl_IsLattice _ _ _).mono ?_
  rw [lat_ok HL.out]
  rintro e w1 ⟨rfl, hb⟩
  have HB1 := Lib.hid (bTrans (Joins.below_alloc1 _ _) hb)
  obtain ⟨z, c0, c1⟩ := ((Blk.new w 24 #[.int .i64 A, .int .i64 B]).below' hb).c2
  clear hb
  go_wp2_with fail
  go_ret
  exact ⟨ret_int HL.out.area, HB1.out⟩

set_option maxHeartbeats 400000 in
theorem impl_AreaOf_no {A B : Int} (h : latOk A B = false) (w : World) :
    Calls Try.prog 14 #[.agg #[.int .i64 A, .int .i64 B]] w fun e w' => e = .returned (.int .i64 0) ∧ Below w.heap.size w w' := by
  have HL := Lib.hid h
  clear h
  go_enter Try.func14, Try.ntmps14
  go_wp2_with fail
  refine (impl_IsLattice _ _ _).mono ?_
  rw [HL.out]
  rintro e w1 ⟨rfl, hb⟩
  have HB1 := Lib.hid (bTrans (Joins.below_alloc1 _ _) hb)
  clear hb
  go_wp2_with fail
  go_ret
  exact ⟨rfl, HB1.out⟩

end Go.Proofs.Ytflegojobchgdaa
