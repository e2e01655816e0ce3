/-
  Contracts of chapter 6: the model's NearOf.
-/
import Derived.Test.YtdpmapgeacnheaaN6
import Derived.Test.YtdpmapgeacnheaaM31
namespace Go.Proofs.Ytdpmapgeacnheaa
open Go.RowKit
set_option linter.unusedVariables false
set_option linter.unusedSimpArgs false

theorem prod_bd2 {u A m : Int} (h1 : -m ≤ u) (h2 : u ≤ m) (hm : 0 ≤ m) (a1 : 0 ≤ A) (a2 : A ≤ 12) : -(m * 12) ≤ u * A ∧ u * A ≤ m * 12 := prod_bd h1 h2 hm a1 a2

theorem sq_bd {x m : Int} (h1 : -m ≤ x) (h2 : x ≤ m) : 0 ≤ x * x ∧ x * x ≤ m * m := by
  refine ⟨sq_ge x, ?_⟩
  rcases Int.le_total 0 x with h | h
  · exact Int.mul_le_mul h2 h2 h (by omega)
  · have := Int.mul_le_mul (show -x ≤ m by omega) (show -x ≤ m by omega) (by omega) (by omega)
    rwa [Int.neg_mul_neg] at this

theorem near_start {A B n g d a b p q U V : Int} (L : Lat A B n g d a b p q) (u1 : 0 ≤ U) (u2 : U ≤ 287) (v1 : 0 ≤ V) (v2 : V ≤ 11) :
    0 ≤ U * A ∧ U * A ≤ 3444 ∧ 0 ≤ U * B ∧ U * B ≤ 3444 ∧ 0 ≤ V * A ∧ V * A ≤ 132 ∧ 0 ≤ V * B ∧ V * B ≤ 132 ∧ 0 ≤ (U * A + V * B) / n ∧ (U * A + V * B) / n ≤ 4000 ∧ -4000 ≤ (V * A - U * B).tdiv n ∧ (V * A - U * B).tdiv n ≤ 4000 := by
  have a1 := L.a1; have a2 := L.a2; have b1 := L.b1; have b2 := L.b2; have n1 := L.n1
  have h1 : 0 ≤ U * A := Int.mul_nonneg u1 (by omega)
  have h2 := Int.mul_le_mul u2 a2 (by omega) (by omega)
  have h3 : 0 ≤ U * B := Int.mul_nonneg u1 b1
  have h4 := Int.mul_le_mul u2 b2 b1 (by omega)
  have h5 : 0 ≤ V * A := Int.mul_nonneg v1 (by omega)
  have h6 := Int.mul_le_mul v2 a2 (by omega) (by omega)
  have h7 : 0 ≤ V * B := Int.mul_nonneg v1 b1
  have h8 := Int.mul_le_mul v2 b2 b1 (by omega)
  have q1 : 0 ≤ (U * A + V * B) / n := Int.ediv_nonneg (by omega) (by omega)
  have q2 : (U * A + V * B) / n ≤ U * A + V * B := Int.ediv_le_self _ (by omega)
  have q3 : -4000 ≤ (V * A - U * B).tdiv n ∧ (V * A - U * B).tdiv n ≤ 4000 := by
    rcases tdiv_near (Y := V * A - U * B) n1 with e | e
    all_goals (
      rw [e]
      have hlo : -3444 ≤ (V * A - U * B) / n := by
        apply Int.le_ediv_of_mul_le (by omega)
        have : -3444 * n ≤ -3444 * 1 := Int.mul_le_mul_of_nonpos_left (by omega) n1
        omega
      have hhi : (V * A - U * B) / n < 133 := by
        apply Int.ediv_lt_of_lt_mul (by omega)
        have : 133 * 1 ≤ 133 * n := Int.mul_le_mul_of_nonneg_left n1 (by omega)
        omega
      omega)
  omega

theorem round_bd {A B U V I J : Int} (k : Nat) (hk : k < 25) (a1 : 0 ≤ A) (a2 : A ≤ 12) (b1 : 0 ≤ B) (b2 : B ≤ 12) (u1 : 0 ≤ U) (u2 : U ≤ 287) (v1 : 0 ≤ V) (v2 : V ≤ 11) (i1 : -4000 ≤ I) (i2 : I ≤ 4000) (j1 : -4000 ≤ J) (j2 : J ≤ 4000) :
    -60120 ≤ (I + (k : Int) % 5 - 2) * A ∧ (I + (k : Int) % 5 - 2) * A ≤ 60120 ∧ -60120 ≤ (J + (k : Int) / 5 - 2) * B ∧ (J + (k : Int) / 5 - 2) * B ≤ 60120 ∧
    -60120 ≤ (I + (k : Int) % 5 - 2) * B ∧ (I + (k : Int) % 5 - 2) * B ≤ 60120 ∧ -60120 ≤ (J + (k : Int) / 5 - 2) * A ∧ (J + (k : Int) / 5 - 2) * A ≤ 60120 ∧
    0 ≤ (U - (I + (k : Int) % 5 - 2) * A + (J + (k : Int) / 5 - 2) * B) * (U - (I + (k : Int) % 5 - 2) * A + (J + (k : Int) / 5 - 2) * B) ∧ (U - (I + (k : Int) % 5 - 2) * A + (J + (k : Int) / 5 - 2) * B) * (U - (I + (k : Int) % 5 - 2) * A + (J + (k : Int) / 5 - 2) * B) ≤ 40000000000 ∧
    0 ≤ (V - (I + (k : Int) % 5 - 2) * B - (J + (k : Int) / 5 - 2) * A) * (V - (I + (k : Int) % 5 - 2) * B - (J + (k : Int) / 5 - 2) * A) ∧ (V - (I + (k : Int) % 5 - 2) * B - (J + (k : Int) / 5 - 2) * A) * (V - (I + (k : Int) % 5 - 2) * B - (J + (k : Int) / 5 - 2) * A) ≤ 40000000000 := by
  obtain ⟨P, hP⟩ : ∃ P, I + (k : Int) % 5 - 2 = P := ⟨_, rfl⟩
  obtain ⟨Q, hQ⟩ : ∃ Q, J + (k : Int) / 5 - 2 = Q := ⟨_, rfl⟩
  rw [hP, hQ]
  have p1 : -5010 ≤ P := by omega
  have p2 : P ≤ 5010 := by omega
  have q1 : -5010 ≤ Q := by omega
  have q2 : Q ≤ 5010 := by omega
  obtain ⟨e1, e2⟩ := prod_bd p1 p2 (by omega) a1 a2
  obtain ⟨e3, e4⟩ := prod_bd q1 q2 (by omega) b1 b2
  obtain ⟨e5, e6⟩ := prod_bd p1 p2 (by omega) b1 b2
  obtain ⟨e7, e8⟩ := prod_bd q1 q2 (by omega) a1 a2
  obtain ⟨f1, f2⟩ := sq_bd (x := U - P * A + Q * B) (m := 200000) (by omega) (by omega)
  obtain ⟨f3, f4⟩ := sq_bd (x := V - P * B - Q * A) (m := 200000) (by omega) (by omega)
  refine ⟨by omega, by omega, by omega, by omega, by omega, by omega, by omega, by omega, f1, by omega, f3, by omega⟩

set_option maxHeartbeats 3200000 in
theorem spec_l5Near {A B n g d a b p q : Int} (L : Lat A B n g d a b p q) (K R : Int) (h0 : 0 ≤ K) (h1 : K < n) (hR : nearF A B (K % d) (K / d) = R) (w : World) :
    Calls Try.prog 60 #[.agg #[.int .i64 A, .int .i64 B], .int .i64 K] w fun e w' => e = .returned (.int .i64 R) ∧ Below w.heap.size w w' := by
  obtain ⟨U, hU⟩ : ∃ U, K % d = U := ⟨_, rfl⟩
  obtain ⟨V, hV⟩ : ∃ V, K / d = V := ⟨_, rfl⟩
  obtain ⟨u1, u2, v1, v2, t1, t2⟩ := div5 L h0 h1
  rw [hU, hV] at hR
  have n1 := L.n1; have n2 := L.n2; have d1 := L.w1; have d2 := L.w2
  have a1 := L.a1; have a2 := L.a2; have b1 := L.b1; have b2 := L.b2
  have z1 : ¬ d = 0 := by omega
  have z2 : (d == 0) = false := by simp; omega
  have z3 : ¬ n = 0 := by omega
  have z4 : (n == 0) = false := by simp; omega
  obtain ⟨s1, s2, s3, s4, s5, s6, s7, s8, s9, s10, s11, s12⟩ := near_start L (U := U) (V := V) (by omega) (by omega) (by omega) (by omega)
  have HL := Lib.hid L
  have HR := Lib.hid hR
  clear L hR t1 t2
  go_enter Try.func60, Try.ntmps60
  go_wp2_with fail
  refine (spec_l5Sides HL.out _).mono ?_
  rintro e w1 ⟨rfl, hb⟩
  have HB1 := Lib.hid (bTrans (Joins.below_alloc1 _ _) hb)
  have KB1 := Lib.hid ((Blk.new w 25 #[.int .i64 A, .int .i64 B]).below' hb)
  obtain ⟨z, c0, c1⟩ := KB1.out.c2
  clear hb
  go_wp2_with fail
  refine (spec_l5Area HL.out _).mono ?_
  rintro e w2 ⟨rfl, hb⟩
  have HB2 := Lib.hid (bTrans HB1.out hb)
  have KB2 := Lib.hid (KB1.out.below' hb)
  clear hb z c0 c1
  obtain ⟨z, c0, c1⟩ := KB2.out.c2
  go_wp2_with fail
  rw [hU] at u1 u2
  rw [hV] at v1 v2
  clear hU hV
  obtain ⟨I, hI⟩ : ∃ I, (U * A + V * B) / n = I := ⟨_, rfl⟩
  obtain ⟨J, hJ⟩ : ∃ J, (V * A - U * B).tdiv n = J := ⟨_, rfl⟩
  rw [hI] at s9 s10 ⊢
  rw [hJ] at s11 s12 ⊢
  have HI := Lib.hid hI
  have HJ := Lib.hid hJ
  have HNN := Lib.hid (cand_nn A B U V I J)
  clear hI hJ
  clear s1 s2 s3 s4 s5 s6 s7 s8 z1 z2 z3 z4
  go_loopw [12, 13] (fun b i wr => ∃ (k : Nat) (best : Int), k ≤ 25 ∧ i = .int .i64 k ∧ b = .int .i64 best ∧ Hid (BestAt (cand A B U V I J) k best) ∧ wr = w2) (fun _ i _ => 25 - (intOf i).toNat)
  case atStart => exact ⟨0, -1, by omega, rfl, rfl, Lib.hid (best_start _), rfl⟩
  case round =>
    obtain ⟨k, best, hk, rfl, rfl, HT, rfl⟩ := hrel
    by_cases hlt : k < 25
    · obtain ⟨r1, r2, r3, r4, r5, r6, r7, r8, r9, r10, r11, r12⟩ := round_bd (A := A) (B := B) (U := U) (V := V) (I := I) (J := J) k hlt (by omega) a2 b1 b2 u1 u2 v1 v2 (by omega) s10 s11 s12
      have q0 := best_bd HT.out HNN.out
      have HU : Hid (cand A B U V I J k = (U - (I + (k : Int) % 5 - 2) * A + (J + (k : Int) / 5 - 2) * B) * (U - (I + (k : Int) % 5 - 2) * A + (J + (k : Int) / 5 - 2) * B) + (V - (I + (k : Int) % 5 - 2) * B - (J + (k : Int) / 5 - 2) * A) * (V - (I + (k : Int) % 5 - 2) * B - (J + (k : Int) / 5 - 2) * A)) := Lib.hid rfl
      by_cases hb0 : best < 0
      · have HNW := Lib.hid (best_new HT.out HNN.out (Or.inl hb0))
        go_wp2_with fail
        go_roundw
        case rel => exact ⟨k + 1, _, by omega, by go_num, rfl, Lib.hid (by rw [← HU.out]; exact HNW.out), by first | trivial | rfl⟩
        case measure => simp [intOf]; omega
      · by_cases hc : cand A B U V I J k < best
        · have HNW := Lib.hid (best_new HT.out HNN.out (Or.inr hc))
          rw [HU.out] at hc
          go_wp2_with fail
          go_roundw
          case rel => exact ⟨k + 1, _, by omega, by go_num, rfl, Lib.hid (by rw [← HU.out]; exact HNW.out), by first | trivial | rfl⟩
          case measure => simp [intOf]; omega
        · have HNW := Lib.hid (best_old HT.out hb0 hc)
          rw [HU.out] at hc
          go_wp2_with fail
          go_roundw
          case rel => exact ⟨k + 1, best, by omega, by go_num, rfl, Lib.hid HNW.out, by first | trivial | rfl⟩
          case measure => simp [intOf]; omega
    · obtain rfl : k = 25 := by omega
      have HF := Lib.hid (best_near HL.out HI.out.symm HJ.out.symm HT.out)
      go_wp2_with fail
      go_ret
      exact ⟨ret_int (by rw [HF.out, HR.out]), HB2.out⟩

set_option maxHeartbeats 800000 in
theorem spec_NearOf {A B K R : Int} (h : NearR A B K R) (w : World) :
    Calls Try.prog 28 #[.agg #[.int .i64 A, .int .i64 B], .int .i64 K] w fun e w' => e = .returned (.int .i64 R) ∧ Below w.heap.size w w' := by
  by_cases hok : latOk A B = true
  · obtain ⟨n, g, d, a, b, p, q, L⟩ := lat_of hok
    have n1 := L.n1; have n2 := L.n2
    by_cases hk : 0 ≤ K ∧ K < n
    · obtain ⟨k0, k1⟩ := hk
      have hR : nearF A B (K % d) (K / d) = R := by
        rcases h with ⟨_, _, hR⟩ | ⟨hn, _⟩
        · rwa [L.hw] at hR
        · exact absurd ⟨hok, k0, by rw [L.hn]; exact k1⟩ hn
      have HL := Lib.hid L
      have HR := Lib.hid hR
      clear L hR h hok
      go_enter Try.func28, Try.ntmps28
      go_wp2_with fail
      refine (spec_IsLattice _ _ _).mono ?_
      rw [lat_ok HL.out]
      rintro e w1 ⟨rfl, hb⟩
      have HB1 := Lib.hid (bTrans (Joins.below_alloc1 _ _) hb)
      have KB1 := Lib.hid ((Blk.new w 25 #[.int .i64 A, .int .i64 B]).below' hb)
      obtain ⟨z, c0, c1⟩ := KB1.out.c2
      clear hb
      go_wp2_with fail
      refine (spec_l5Area HL.out _).mono ?_
      rintro e w2 ⟨rfl, hb⟩
      have HB2 := Lib.hid (bTrans HB1.out hb)
      have KB2 := Lib.hid (KB1.out.below' hb)
      clear hb z c0 c1
      obtain ⟨z, c0, c1⟩ := KB2.out.c2
      go_wp2_with fail
      refine (in5 _ _ _ _).mono ?_
      rw [decide_eq_true (show 0 ≤ K ∧ K ≤ n - 1 by omega)]
      rintro e w3 ⟨rfl, rfl⟩
      go_wp2_with fail
      refine (spec_l5Near HL.out _ _ k0 k1 HR.out _).mono ?_
      rintro e w3 ⟨rfl, hb⟩
      have HB3 := Lib.hid (bTrans HB2.out hb)
      clear hb
      go_wp2_with fail
      go_ret
      exact ⟨rfl, HB3.out⟩
    · have hR : R = -1 := by
        rcases h with ⟨_, hb, _⟩ | ⟨_, hR⟩
        · rw [L.hn] at hb; exact absurd hb hk
        · exact hR
      subst hR
      have HL := Lib.hid L
      clear L h hok
      go_enter Try.func28, Try.ntmps28
      go_wp2_with fail
      refine (spec_IsLattice _ _ _).mono ?_
      rw [lat_ok HL.out]
      rintro e w1 ⟨rfl, hb⟩
      have HB1 := Lib.hid (bTrans (Joins.below_alloc1 _ _) hb)
      obtain ⟨z, c0, c1⟩ := ((Blk.new w 25 #[.int .i64 A, .int .i64 B]).below' hb).c2
      clear hb
      go_wp2_with fail
      refine (spec_l5Area HL.out _).mono ?_
      rintro e w2 ⟨rfl, hb⟩
      have HB2 := Lib.hid (bTrans HB1.out hb)
      clear hb z c0 c1
      go_wp2_with fail
      refine (in5 _ _ _ _).mono ?_
      rw [decide_eq_false (show ¬ (0 ≤ K ∧ K ≤ n - 1) by omega)]
      rintro e w3 ⟨rfl, rfl⟩
      go_wp2_with fail
      go_ret
      exact ⟨rfl, HB2.out⟩
  · have ho2 : latOk A B = false := by simpa using hok
    have hR : R = -1 := by
      rcases h with ⟨h1, _⟩ | ⟨_, hR⟩
      · exact absurd h1 hok
      · exact hR
    subst hR
    have HO := Lib.hid ho2
    clear h hok ho2
    go_enter Try.func28, Try.ntmps28
    go_wp2_with fail
    refine (spec_IsLattice _ _ _).mono ?_
    rw [HO.out]
    rintro e w1 ⟨rfl, hb⟩
    have HB1 := Lib.hid (bTrans (Joins.below_alloc1 _ _) hb)
    clear hb
    go_wp2_with fail
    go_ret
    exact ⟨rfl, HB1.out⟩

end Go.Proofs.Ytdpmapgeacnheaa
