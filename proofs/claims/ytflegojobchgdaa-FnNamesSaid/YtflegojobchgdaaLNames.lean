/-
  FnNames: there are as many names as the area says, each of its own point, and the period is the least one: the law returns true for every code. No conditions.
-/
import Derived.Test.YtflegojobchgdaaN10
import Derived.Test.YtflegojobchgdaaRL
import Derived.Test.YtflegojobchgdaaFrameB
namespace Go.Proofs.Ytflegojobchgdaa.lNames
open Go.ChangeShapes Go.WideShapes Go.ChangeAt Go.RowKit
set_option linter.unusedVariables false
set_option linter.unusedSimpArgs false

theorem row_no {A B n g d a b p q : Int} (L : Lat A B n g d a b p q) {k : Int} (h0 : 1 ≤ k) (h1 : k < d) : decide (HasL A B k 0) = false := by
  rw [decide_eq_false_iff_not]
  intro h
  have := Int.le_of_dvd (by omega) (L.has_row.1 h)
  omega

set_option maxRecDepth 100000 in
set_option maxHeartbeats 3200000 in
theorem ok (ad0 : Option Addr) (n0 cap0 : Nat) (bs0 : List Int) (w : World) (hn0 : bs0.length = n0) (hr0 : RdU w.heap.size w ad0 bs0) (hs0 : n0 ≤ 1048576) :
    Calls Try.prog 4 #[.slice ad0 n0 cap0] w fun e w' => e = .returned (.bool true) ∧ Below w.heap.size w w' := by
  have HL := Lib.hid hn0
  have HC := Lib.hid hr0
  clear hn0 hr0
  go_enter Try.func4, Try.ntmps4
  go_wp2_with fail
  refine (lat_call ad0 n0 cap0 bs0 _ HL.out (by exact HC.out) (by omega)).mono ?_
  rintro e w1 ⟨A, B, rfl, hm, hb⟩
  obtain ⟨a1, a2, b1, b2, hok⟩ := lat_list hm
  obtain ⟨n, g, d, a, b, p, q, hLat⟩ := lat_of hok
  have T := Lib.hid hLat
  have HM := Lib.hid hm
  have n1 := hLat.n1
  have n2 := hLat.n2
  have g1 := hLat.g1
  have d1 := hLat.w1
  have d2 := hLat.w2
  have KP1 := Lib.hid (Blk.new w1 24 #[.int .i64 A, .int .i64 B])
  have HB1 := Lib.hid (bAlloc hb (.cells #[.int .i64 A, .int .i64 B] 24))
  clear hb hLat hok hm
  have har : A * A + B * B = n := T.out.area
  obtain ⟨s1, s2, s3, s4⟩ := lat_bd T.out
  have hdn : d ≤ n := by
    have h1 : d * 1 ≤ d * g := Int.mul_le_mul_of_nonneg_left g1 (by omega)
    have := T.out.wg
    omega
  have HR := Lib.hid (T.out.has_row.2 (Int.dvd_refl d))
  have HCc := Lib.hid (T.out.has_turn HR.out)
  rw [Int.neg_zero] at HCc
  obtain ⟨N, hN⟩ : ∃ N : Nat, n = N := ⟨n.toNat, by omega⟩
  obtain ⟨D, hD⟩ : ∃ D : Nat, d = D := ⟨d.toNat, by omega⟩
  subst hN hD
  have nn : ((N : Int) != (N : Int)) = false := by simp
  go_wp2_with fail
  refine (impl_AreaOf_yes T.out _).mono ?_
  rintro e w2 ⟨rfl, hb⟩
  have HB2 := Lib.hid (bTrans HB1.out hb)
  have KP2 := Lib.hid (KP1.out.below' hb)
  try clear z c0 c1
  clear hb
  obtain ⟨z, c0, c1⟩ := KP2.out.c2
  go_wp2_with fail
  obtain ⟨w2', hw2⟩ : ∃ w2' : World, w2' = w2 := ⟨_, rfl⟩
  clear z c0 c1
  go_loopw [5] (fun i wr => ∃ k : Nat, k ≤ N ∧ i = .int .i64 k ∧ Below w2.heap.size w2 wr) (fun i _ => N - (intOf i).toNat)
  case atStart => exact ⟨0, Nat.zero_le _, rfl, Below.refl _ _⟩
  case round =>
    obtain ⟨k, hk, rfl, hg⟩ := hrel
    have HG := Lib.hid hg
    have KR := Lib.hid (KP2.out.below' hg)
    clear hg
    obtain ⟨z, c0, c1⟩ := KR.out.c2
    by_cases hlt : k < N
    · obtain ⟨U, hU⟩ : ∃ U, (k : Int) % (D : Int) = U := ⟨_, rfl⟩
      obtain ⟨V, hV⟩ : ∃ V, (k : Int) / (D : Int) = V := ⟨_, rfl⟩
      obtain ⟨u1, u2, v1, v2, t1, t2⟩ := div5 T.out (K := (k : Int)) (by omega) (by omega)
      have HNS := Lib.hid (T.out.name_self (K := (k : Int)) (by omega) (by omega))
      rw [hU] at u1 u2 HNS
      rw [hV] at v1 v2 HNS
      have HU := Lib.hid hU
      have HV := Lib.hid hV
      have nk : ((k : Int) != (k : Int)) = false := by simp
      clear hU hV t1 t2
      go_wp2_with fail
      refine (impl_PointOf_yes T.out _ (by omega) (by omega) _).mono ?_
      rw [HU.out, HV.out]
      rintro e w3 ⟨rfl, hb⟩
      have HG3 := Lib.hid (bTrans HG.out hb)
      have KR3 := Lib.hid (KR.out.below' hb)
      clear z c0 c1 hb
      obtain ⟨z, c0, c1⟩ := KR3.out.c2
      go_wp2_with fail
      refine (impl_NameOf_yes T.out _ _ _ (by omega) (by omega) (by omega) (by omega) HNS.out _).mono ?_
      rintro e w4 ⟨rfl, hb⟩
      have HG4 := Lib.hid (bTrans HG3.out hb)
      clear z c0 c1 hb
      go_wp2_with fail
      go_roundw
      case rel => exact ⟨k + 1, by omega, by go_num, HG4.out⟩
      case measure => simp [intOf]; omega
    · obtain rfl : k = N := by omega
      have HBr := Lib.hid (bTrans HB2.out HG.out)
      go_wp2_with fail
      refine (impl_PointOf_no1 T.out _ (by omega) _).mono ?_
      rintro e w3 ⟨rfl, hb⟩
      have HB3 := Lib.hid (bTrans HBr.out hb)
      have KP3 := Lib.hid (KR.out.below' hb)
      clear z c0 c1 hb
      obtain ⟨z, c0, c1⟩ := KP3.out.c2
      go_wp2_with fail
      refine (impl_PeriodOf_yes T.out _).mono ?_
      rintro e w4 ⟨rfl, hb⟩
      have HB4 := Lib.hid (bTrans HB3.out hb)
      have KP4 := Lib.hid (KP3.out.below' hb)
      try clear z c0 c1
      clear hb
      obtain ⟨z, c0, c1⟩ := KP4.out.c2
      go_wp2_with fail
      refine (impl_HasPoint_yes T.out _ _ _).mono ?_
      rw [decide_eq_true HR.out]
      rintro e w5 ⟨rfl, hb⟩
      have HB5 := Lib.hid (bTrans HB4.out hb)
      have KP5 := Lib.hid (KP4.out.below' hb)
      try clear z c0 c1
      clear hb
      obtain ⟨z, c0, c1⟩ := KP5.out.c2
      go_wp2_with fail
      refine (impl_HasPoint_yes T.out _ _ _).mono ?_
      rw [decide_eq_true HCc.out]
      rintro e w6 ⟨rfl, hb⟩
      have HB6 := Lib.hid (bTrans HB5.out hb)
      have KP6 := Lib.hid (KP5.out.below' hb)
      try clear z c0 c1
      clear hb
      obtain ⟨z, c0, c1⟩ := KP6.out.c2
      go_wp2_with fail
      clear z c0 c1
      go_loopw [13] (fun i wr => ∃ j : Nat, 1 ≤ j ∧ j ≤ D ∧ i = .int .i64 j ∧ Below w6.heap.size w6 wr) (fun i _ => D - (intOf i).toNat)
      case atStart => exact ⟨1, by omega, by omega, rfl, Below.refl _ _⟩
      case round =>
        obtain ⟨j, hj1, hj, rfl, hg⟩ := hrel
        have HG2 := Lib.hid hg
        have KR2 := Lib.hid (KP6.out.below' hg)
        clear hg
        obtain ⟨z, c0, c1⟩ := KR2.out.c2
        by_cases hlt2 : j < D
        · have HNO := Lib.hid (row_no T.out (k := (j : Int)) (by omega) (by omega))
          go_wp2_with fail
          refine (impl_HasPoint_yes T.out _ _ _).mono ?_
          rw [HNO.out]
          rintro e w7 ⟨rfl, hb⟩
          have HG7 := Lib.hid (bTrans HG2.out hb)
          clear z c0 c1 hb
          go_wp2_with fail
          go_roundw
          case rel => exact ⟨j + 1, by omega, by omega, by go_num, HG7.out⟩
          case measure => simp [intOf]; omega
        · obtain rfl : j = D := by omega
          go_wp2_with fail
          go_ret
          exact ⟨rfl, bTrans HB6.out HG2.out⟩

set_option maxHeartbeats 400000 in
theorem big (ad0 : Option Addr) (n0 cap0 : Nat) (w : World) (h : 1048576 < n0) (hl : n0 ≤ 9223372036854775807) :
    Calls Try.prog 4 #[.slice ad0 n0 cap0] w fun e w' => e = .returned (.bool true) ∧ Below w.heap.size w w' := by
  have h2 : (1048576 : Int) < (n0 : Int) := by omega
  go_enter Try.func4, Try.ntmps4
  go_wp2_with fail
  go_ret
  exact ⟨rfl, Below.refl _ _⟩

set_option maxRecDepth 100000 in
theorem lifted (os : Os) (started : os.Started) (H : Type) (enc : TypeId × Value → H) :
    ReturnsInHanded {} Try.checked os 4 .any (Rows.fnNamesSpec.pre6 enc Try.prog Try.f4 Rows.fnNamesRow.domain false) (Rows.fnNamesSpec.post enc Try.prog Try.f4 false true false false) := by
  refine returnsInHanded_of_change (C := Try.checked) own started (by kernel_rfl) Try.func4
    (ChangeSpec.witness6 (enc := enc) (C := Try.checked) false ⟨#[], #[.slice none 0 0], []⟩ 8 (by kernel_rfl) (by kernel_rfl) (by kernel_rfl) (by kernel_rfl)) ?_
  intro W base args ds gs before hval0 hW hcnd _
  have hval : ∀ (j : Nat) t v, Try.f4.params[j]? = some t → args[j]? = some v → Value.okWide Try.prog W .any base t v := hval0
  have hW' := hW
  have hlt := hW.lt
  obtain ⟨p, q, hA0, hV, rfl, hfz, hnd⟩ := hW
  have hA : DataW.TrodAll enc Try.prog W 0 (fun _ => true) true Try.f4.params.toList args.toList ds p := hA0
  rw [Try.params4] at hA hval
  obtain ⟨v0, vs0, d0, ds0, p0, q0, hargs, rfl, rfl, h0, r0⟩ := trodAll_cons hA
  obtain ⟨rfl, rfl, rfl⟩ := trodAll_nil r0
  obtain rfl : args = #[v0] := by cases args; simp_all
  obtain ⟨rfl, rfl⟩ := trodVars_none hV
  clear hA0 hval0
  obtain ⟨ad0, n0, cap0, bs0, rfl, hn0, hr0, hl0⟩ := open_code (hval 0 22 v0 rfl rfl) h0 (fun x hx => hlt x (by simp [hx]))
  have fin : ∀ (e : Ending) W', (e = .returned (.bool true) ∧ Below W.heap.size W W') → ∃ v, e = .returned v ∧ Rows.fnNamesSpec.post enc Try.prog Try.f4 false true false false W #[.slice ad0 n0 cap0] v W' := by
    rintro e W' ⟨rfl, hb⟩
    exact ⟨_, rfl, law_post rfl rfl hW' (by kernel_rfl) rfl hb⟩
  by_cases hs0 : n0 ≤ 1048576
  case neg => exact (big ad0 n0 cap0 W (by omega) hl0).mono fin
  case pos => exact (ok ad0 n0 cap0 bs0 W hn0 hr0 hs0).mono fin

theorem proved : Rows.FnNamesSaid :=
  OpenClaim.holds_of_wide 4 Try.f4 rfl rfl rfl rfl rfl rfl rfl ⟨rfl, rfl, rfl, rfl, rfl⟩ rfl rfl rfl rfl rfl (by kernel_rfl) Try.func4 (by kernel_rfl)
    (of_decide_eq_true (by kernel_rfl)) (by unfold Func.isWrapper; first | (rw [if_pos (by decide +kernel)]; kernel_rfl) | (rw [if_neg (by decide +kernel)]; exact ⟨rfl, rfl⟩))
    (fun os started H enc _ => lifted os started H enc)
end Go.Proofs.Ytflegojobchgdaa.lNames
