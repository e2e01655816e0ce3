/-
  FnShares: the shares of an error come to the error, and each is its part rounded down but the first, that takes what is missing: the law returns true for every code. No conditions.
-/
import Derived.Test.YtepaklcobkdfdaaR17
import Derived.Test.YtepaklcobkdfdaaR18
import Derived.Test.YtepaklcobkdfdaaK7b
import Derived.Test.YtepaklcobkdfdaaM26
import Derived.Test.YtepaklcobkdfdaaFrameB
namespace Go.Proofs.Ytepaklcobkdfdaa.lShares
open Go.ChangeShapes Go.WideShapes Go.ChangeAt Go.RowKit
set_option linter.unusedVariables false
set_option linter.unusedSimpArgs false

theorem err_bd {a b c : Nat} (ha : a ≤ 255) (hb : b ≤ 255) : 
    -32768 ≤ ((a : Int) - 128) * ((b : Int) + 1) ∧ ((a : Int) - 128) * ((b : Int) + 1) ≤ 32768 ∧ -983040 ≤ ((a : Int) - 128) * ((b : Int) + 1) * ((c : Int) % 30 + 1) ∧ ((a : Int) - 128) * ((b : Int) + 1) * ((c : Int) % 30 + 1) ≤ 983040 := by
  have h1 : -(128 * 256) ≤ ((a : Int) - 128) * ((b : Int) + 1) ∧ ((a : Int) - 128) * ((b : Int) + 1) ≤ 128 * 256 := by
    have e1 : 0 ≤ (a : Int) * ((b : Int) + 1) := Int.mul_nonneg (by omega) (by omega)
    have e2 : (a : Int) * ((b : Int) + 1) ≤ 255 * ((b : Int) + 1) := Int.mul_le_mul_of_nonneg_right (by omega) (by omega)
    have e3 : ((a : Int) - 128) * ((b : Int) + 1) = (a : Int) * ((b : Int) + 1) - 128 * ((b : Int) + 1) := Int.sub_mul _ _ _
    omega
  obtain ⟨P, hP⟩ : ∃ P, ((a : Int) - 128) * ((b : Int) + 1) = P := ⟨_, rfl⟩
  rw [hP] at h1 ⊢
  obtain ⟨Q, hQ⟩ : ∃ Q, (c : Int) % 30 + 1 = Q := ⟨_, rfl⟩
  rw [hQ]
  have q1 : 1 ≤ Q ∧ Q ≤ 30 := by omega
  have e1 : 0 ≤ (P + 32768) * Q := Int.mul_nonneg (by omega) (by omega)
  have e2 : (P + 32768) * Q ≤ (P + 32768) * 30 := Int.mul_le_mul_of_nonneg_left q1.2 (by omega)
  have e3 : (P + 32768) * Q = P * Q + 32768 * Q := Int.add_mul _ _ _
  have e4 : 0 ≤ (32768 - P) * Q := Int.mul_nonneg (by omega) (by omega)
  have e5 : (32768 - P) * Q ≤ (32768 - P) * 30 := Int.mul_le_mul_of_nonneg_left q1.2 (by omega)
  have e6 : (32768 - P) * Q = 32768 * Q - P * Q := Int.sub_mul _ _ _
  omega

set_option maxRecDepth 100000 in
set_option maxHeartbeats 3200000 in
theorem ok (ad0 : Option Addr) (n0 cap0 : Nat) (bs0 : List Int) (w : World) (hn0 : bs0.length = n0) (hr0 : RdU w.heap.size w ad0 bs0) (hs0 : n0 ≤ 1048576) :
    Calls Try.prog 3 #[.slice ad0 n0 cap0] w fun e w' => e = .returned (.bool true) ∧ Below w.heap.size w w' := by
  have HL := Lib.hid hn0
  have HC := Lib.hid hr0
  clear hn0 hr0
  go_enter Try.func3, Try.ntmps3
  go_wp2_with fail
  refine (spec_MakeKernel ad0 n0 cap0 bs0 _ HL.out (by exact HC.out) (by omega)).mono ?_
  rintro e w1 ⟨a, n, cp, ks, rfl, hl, hk, ho, hb⟩
  have HK := Lib.hid hk
  have HKL := Lib.hid hl
  obtain ⟨k1, k2, k3⟩ := kernOk_bd hl hk
  have HKT := Lib.hid k3
  have hcap := rowA_cap ho
  have HB1 := Lib.hid hb
  have HQ1 := Lib.hid (HC.out.below hb)
  have RK1 := Lib.hid ho.rd
  clear hl hk k3 ho hb
  go_wp2_with fail
  refine (at_callB w.heap.size ad0 n0 cap0 bs0 1 _ HL.out (by exact HQ1.out) (by omega) (by omega) (by omega)).mono ?_
  rintro e w2 ⟨v1, rfl, hv1, rfl⟩
  go_wp2_with fail
  refine (at_callB w.heap.size ad0 n0 cap0 bs0 2 _ HL.out (by exact HQ1.out) (by omega) (by omega) (by omega)).mono ?_
  rintro e w2 ⟨v2, rfl, hv2, rfl⟩
  obtain ⟨f1, f2, _⟩ := err_bd (c := 0) hv1 hv2
  go_wp2_with fail
  refine (at_callB w.heap.size ad0 n0 cap0 bs0 3 _ HL.out (by exact HQ1.out) (by omega) (by omega) (by omega)).mono ?_
  rintro e w2 ⟨v3, rfl, hv3, rfl⟩
  obtain ⟨_, _, f3, f4⟩ := err_bd (c := v3) hv1 hv2
  have f5 := tmod_small (m := 1000001) (X := ((v1 : Int) - 128) * ((v2 : Int) + 1) * ((v3 : Int) % 30 + 1)) (by omega) (by omega)
  go_wp2_with fail
  obtain ⟨E, hE⟩ : ∃ E, ((v1 : Int) - 128) * ((v2 : Int) + 1) * ((v3 : Int) % 30 + 1) = E := ⟨_, rfl⟩
  rw [hE] at f3 f4 ⊢
  clear f5 hE f1 f2 hv1 hv2 hv3
  have q1 : -1000000 ≤ E := by omega
  have q2 : E ≤ 1000000 := by omega
  refine (impl_SharesOf a n cp ks E _ HKL.out (by exact RK1.out) (by omega) hcap).mono ?_
  rintro e w2 ⟨a2, n2, c2, rfl, ho2, hn2, hb2⟩
  rw [sharesF_yes HKL.out HK.out q1 q2] at ho2
  have en : n2 = n := by rw [← ho2.len, sharesG_len]; exact HKL.out
  subst en
  have HB2 := Lib.hid (bTrans HB1.out hb2)
  have RK2 := Lib.hid (RK1.out.below hb2)
  have RS2 := Lib.hid ho2.rd
  clear ho2 hb2
  go_wp2_with fail
  refine (impl_WeightOf _ _ _ ks _ HKL.out (by exact RK2.out) (by omega) hcap).mono ?_
  rintro e w3 ⟨rfl, hb3⟩
  rw [weightF_yes HKL.out HK.out]
  have HB3 := Lib.hid (bTrans HB2.out hb3)
  have RK3 := Lib.hid (RK2.out.below hb3)
  have RS3 := Lib.hid (RS2.out.below hb3)
  obtain ⟨w1', w2'⟩ := wt_range k1 k2 HKT.out
  obtain ⟨W, hW⟩ : ∃ W, wtTo ks n2 = W := ⟨_, rfl⟩
  rw [hW] at w1' w2' RS3 ⊢
  have HW := Lib.hid hW
  clear hb3 hW
  have SL : Hid ((sharesG ks W E).length = n2) := Lib.hid (by rw [sharesG_len]; exact HKL.out)
  have SI : Hid (isum (sharesG ks W E) = E) := Lib.hid (by
    have h := shTo_all (ks := ks) (W := W) (e := E) HKL.out k1
    rw [← isum_shTo _ _ (by have := SL.out; omega), List.take_of_length_le (by have := SL.out; omega)] at h
    exact h)
  have SB : Hid (∀ k, k ≤ n2 → -1000000000 ≤ isum ((sharesG ks W E).take k) ∧ isum ((sharesG ks W E).take k) ≤ 1000000000) := Lib.hid (by
    intro k hk
    have h1 := absTo_all (e := E) HKL.out k1 k2 HKT.out
    rw [HW.out] at h1
    have h2 := absTo_mono (sharesG ks W E) hk
    have h3 := absTo_shTo (sharesG ks W E) k
    rw [isum_shTo _ _ (by have := SL.out; omega)]
    omega)
  go_wp2_with fail
  refine (laws_totalB _ _ _ (sharesG ks W E) _ SL.out (by exact RS3.out) SB.out (by omega)).mono ?_
  rintro e w4 ⟨rfl, rfl⟩
  rw [SI.out]
  go_wp2_with fail
  go_loopw [50] (fun i wr => ∃ k : Nat, k ≤ n2 ∧ i = .int .i64 k ∧ Below w.heap.size w wr ∧ w3.heap.size ≤ wr.heap.size ∧ Below w3.heap.size w3 wr) (fun i _ => n2 - (intOf i).toNat)
  case atStart => exact ⟨0, Nat.zero_le _, rfl, HB3.out, Nat.le_refl _, Below.refl _ _⟩
  case round =>
    obtain ⟨k, hk, rfl, hbr, hzr, hw3⟩ := hrel
    have HBr := Lib.hid hbr
    have HZr := Lib.hid hzr
    have HWr := Lib.hid hw3
    have RKr := Lib.hid (RK3.out.below hw3)
    have RSr := Lib.hid (RS3.out.below hw3)
    clear hbr hzr hw3
    by_cases hlt : k < n2
    · obtain ⟨ba, oa, hae, hal, c0, c1, c2'⟩ := rd_part RKr.out (k := k) (by have := HKL.out; omega)
      obtain ⟨bs, os, hse, hsl, hsc⟩ := RSr.out.at (by have := SL.out; omega)
      have h1 := hsc k (by have := SL.out; omega)
      subst hae hse
      obtain ⟨T, hT⟩ : ∃ T, (prt ks k).wt = T := ⟨_, rfl⟩
      obtain ⟨s, hs⟩ : ∃ s, (sharesG ks W E).getD k 0 = s := ⟨_, rfl⟩
      obtain ⟨X, hX⟩ : ∃ X, (prt ks k).dx = X := ⟨_, rfl⟩
      obtain ⟨Y, hY⟩ : ∃ Y, (prt ks k).dy = Y := ⟨_, rfl⟩
      obtain ⟨g1, g2, g3, g4, g5, g6, g7, g8, g9⟩ := share_facts HKL.out k1 k2 HKT.out q1 q2 k hlt HW.out hT hs
      rw [hX] at c0
      rw [hY] at c1
      rw [hT] at c2'
      rw [hs] at h1
      clear hsc hT hs hX hY
      have KB := Lib.hid (Blk.new wr 31 #[.int .i64 X, .int .i64 Y, .int .i64 T])
      have HBx := Lib.hid (bAlloc HBr.out (.cells #[.int .i64 X, .int .i64 Y, .int .i64 T] 31))
      have HWx := Lib.hid (bAlloc HWr.out (.cells #[.int .i64 X, .int .i64 Y, .int .i64 T] 31))
      obtain ⟨D, hD⟩ : ∃ D, E * T - s * W = D := ⟨_, rfl⟩
      obtain ⟨M, hM⟩ : ∃ M, -W * (n2 : Int) = M := ⟨_, rfl⟩
      rw [hD] at g5 g6 g7
      rw [hM] at g7 g8 g9
      by_cases hk0 : 0 < k
      · have g6' := g6 hk0
        have z1 : ((k : Int) == 0) = false := by simp; omega
        have z2 : decide (0 < (k : Int)) = true := by simp; omega
        have z3 : decide (D < 0) = false := by simp; omega
        have z4 : decide (W ≤ D) = false := by simp; omega
        clear g6 g7 g8 g9 hM
        go_wp2_with fail
        go_region
        go_wp2_with fail
        go_roundw
        case rel => exact ⟨k + 1, by omega, by go_num, by first | exact HBx.out.drew | exact HBx.out | exact (HBx.out).drewN _, by have := HWx.out.size; first | exact this | (simp at this ⊢; omega), by first | exact HWx.out.drew | exact HWx.out⟩
        case measure => simp [intOf]; omega
      · have z1 : ((k : Int) == 0) = true := by simp; omega
        have z2 : decide (0 < (k : Int)) = false := by simp; omega
        have z4 : decide (W ≤ D) = false := by simp; omega
        have z5 : decide (D < M) = false := by simp; omega
        clear g6
        go_wp2_with fail
        go_region
        go_wp2_with fail
        go_roundw
        case rel => exact ⟨k + 1, by omega, by go_num, by first | exact HBx.out.drew | exact HBx.out, by have := HWx.out.size; first | exact this | (simp at this ⊢; omega), by first | exact HWx.out.drew | exact HWx.out⟩
        case measure => simp [intOf]; omega
    · go_wp2_with fail
      go_ret
      exact ⟨rfl, HBr.out⟩

set_option maxHeartbeats 400000 in
theorem big (ad0 : Option Addr) (n0 cap0 : Nat) (w : World) (h : 1048576 < n0) (hl : n0 ≤ 9223372036854775807) :
    Calls Try.prog 3 #[.slice ad0 n0 cap0] w fun e w' => e = .returned (.bool true) ∧ Below w.heap.size w w' := by
  have h2 : (1048576 : Int) < (n0 : Int) := by omega
  go_enter Try.func3, Try.ntmps3
  go_wp2_with fail
  go_ret
  exact ⟨rfl, Below.refl _ _⟩

set_option maxRecDepth 100000 in
theorem lifted (os : Os) (started : os.Started) (H : Type) (enc : TypeId × Value → H) :
    ReturnsInHanded {} Try.checked os 3 .any (Rows.fnSharesSpec.pre6 enc Try.prog Try.f3 Rows.fnSharesRow.domain false) (Rows.fnSharesSpec.post enc Try.prog Try.f3 false true false false) := by
  refine returnsInHanded_of_change (C := Try.checked) own started (by kernel_rfl) Try.func3
    (ChangeSpec.witness6 (enc := enc) (C := Try.checked) false ⟨#[], #[.slice none 0 0], []⟩ 8 (by kernel_rfl) (by kernel_rfl) (by kernel_rfl) (by kernel_rfl)) ?_
  intro W base args ds gs before hval0 hW hcnd _
  have hval : ∀ (j : Nat) t v, Try.f3.params[j]? = some t → args[j]? = some v → Value.okWide Try.prog W .any base t v := hval0
  have hW' := hW
  have hlt := hW.lt
  obtain ⟨p, q, hA0, hV, rfl, hfz, hnd⟩ := hW
  have hA : DataW.TrodAll enc Try.prog W 0 (fun _ => true) true Try.f3.params.toList args.toList ds p := hA0
  rw [Try.params3] at hA hval
  obtain ⟨v0, vs0, d0, ds0, p0, q0, hargs, rfl, rfl, h0, r0⟩ := trodAll_cons hA
  obtain ⟨rfl, rfl, rfl⟩ := trodAll_nil r0
  obtain rfl : args = #[v0] := by cases args; simp_all
  obtain ⟨rfl, rfl⟩ := trodVars_none hV
  clear hA0 hval0
  obtain ⟨ad0, n0, cap0, bs0, rfl, hn0, hr0, hl0⟩ := open_code (hval 0 22 v0 rfl rfl) h0 (fun x hx => hlt x (by simp [hx]))
  have fin : ∀ (e : Ending) W', (e = .returned (.bool true) ∧ Below W.heap.size W W') → ∃ v, e = .returned v ∧ Rows.fnSharesSpec.post enc Try.prog Try.f3 false true false false W #[.slice ad0 n0 cap0] v W' := by
    rintro e W' ⟨rfl, hb⟩
    exact ⟨_, rfl, law_post rfl rfl hW' (by kernel_rfl) rfl hb⟩
  by_cases hs0 : n0 ≤ 1048576
  case neg => exact (big ad0 n0 cap0 W (by omega) hl0).mono fin
  case pos => exact (ok ad0 n0 cap0 bs0 W hn0 hr0 hs0).mono fin

theorem proved : Rows.FnSharesSaid :=
  OpenClaim.holds_of_wide 3 Try.f3 rfl rfl rfl rfl rfl rfl rfl ⟨rfl, rfl, rfl, rfl, rfl⟩ rfl rfl rfl rfl rfl (by kernel_rfl) Try.func3 (by kernel_rfl)
    (of_decide_eq_true (by kernel_rfl)) (by unfold Func.isWrapper; first | (rw [if_pos (by decide +kernel)]; kernel_rfl) | (rw [if_neg (by decide +kernel)]; exact ⟨rfl, rfl⟩))
    (fun os started H enc _ => lifted os started H enc)

end Go.Proofs.Ytepaklcobkdfdaa.lShares
