/-
  FnMean: the mean of any picture that is drawn is the sum of its amounts by the number of points, in lowest terms: the law returns true for every code. No conditions.
-/
import Derived.Test.YtepaklcobkdfdaaR11
import Derived.Test.YtepaklcobkdfdaaK9
import Derived.Test.YtepaklcobkdfdaaFrameB
import Derived.Deep.RegionHeld3
namespace Go.Proofs.Ytepaklcobkdfdaa.lMean
open Go.ChangeShapes Go.WideShapes Go.ChangeAt Go.RowKit
set_option linter.unusedVariables false
set_option linter.unusedSimpArgs false

/-- The sum by a divisor. -/
theorem mean_facts {S n G : Nat} (hn : 1 ≤ n) (hG : Nat.gcd S n = G) (hn2 : n ≤ 81) (hS : S ≤ 20655) :
    ∃ A B g : Int, (S : Int) / (G : Int) = A ∧ (n : Int) / (G : Int) = B ∧ 1 ≤ B ∧ B ≤ 81 ∧ 0 ≤ A ∧ A ≤ 20655 ∧ (n : Int).tmod B = 0 ∧ (n : Int).tdiv B = g ∧ A * g = S ∧ 1 ≤ g ∧ g ≤ 81 ∧ ∀ d : Nat, 2 ≤ d → ¬ (A % (d : Int) = 0 ∧ B % (d : Int) = 0) := by
  have g1 := Nat.gcd_pos_of_pos_right S (show 0 < n by omega)
  have g2 := Nat.gcd_le_right S (show 0 < n by omega)
  rw [hG] at g1 g2
  obtain ⟨A, hA⟩ : G ∣ S := hG ▸ Nat.gcd_dvd_left S n
  obtain ⟨B, hB⟩ : G ∣ n := hG ▸ Nat.gcd_dvd_right S n
  have hB1 : 1 ≤ B := by
    rcases Nat.eq_zero_or_pos B with e | e
    · subst e; simp at hB; omega
    · exact e
  have c1 : Nat.gcd A B = 1 := by
    have := Nat.gcd_mul_left G A B
    rw [← hA, ← hB, hG] at this
    exact Nat.eq_of_mul_eq_mul_left g1 (by omega)
  have eB : B ≤ n := by rw [hB]; exact Nat.le_mul_of_pos_left _ g1
  have eA : A ≤ S := by rw [hA]; exact Nat.le_mul_of_pos_left _ g1
  refine ⟨A, B, G, ?_, ?_, by omega, by omega, by omega, by omega, ?_, ?_, ?_, by omega, by omega, fun d hd h => ?_⟩
  · rw [hA, Int.natCast_mul]; exact Int.mul_ediv_cancel_left _ (by omega)
  · rw [hB, Int.natCast_mul]; exact Int.mul_ediv_cancel_left _ (by omega)
  · rw [hB, Int.natCast_mul]; exact Int.mul_tmod_left _ _
  · rw [hB, Int.natCast_mul]; exact Int.mul_tdiv_cancel _ (by omega)
  · rw [hA, Int.natCast_mul, Int.mul_comm]
  · have d1 : d ∣ A := Nat.dvd_of_mod_eq_zero (by have := h.1; rw [← cast_mod] at this; omega)
    have d2 : d ∣ B := Nat.dvd_of_mod_eq_zero (by have := h.2; rw [← cast_mod] at this; omega)
    have := Nat.le_of_dvd (by omega) (Nat.dvd_gcd d1 d2)
    omega

set_option maxRecDepth 100000 in
set_option maxHeartbeats 3200000 in
theorem ok (ad0 : Option Addr) (n0 cap0 : Nat) (bs0 : List Int) (w : World) (hn0 : bs0.length = n0) (hr0 : RdU w.heap.size w ad0 bs0) (hs0 : n0 ≤ 1048576) :
    Calls Try.prog 9 #[.slice ad0 n0 cap0] w fun e w' => e = .returned (.bool true) ∧ Below w.heap.size w w' := by
  have HL := Lib.hid hn0
  have HC := Lib.hid hr0
  clear hn0 hr0
  go_enter Try.func9, Try.ntmps9
  go_wp2_with fail
  refine (pic_call ad0 n0 cap0 bs0 9 _ HL.out (by exact HC.out) (by omega) (by omega) (by omega)).mono ?_
  rintro e w1 ⟨W, H, a, n, c, xs, rfl, b1, b3, hq, hn1, hn2, hx, hr, hp, hw, hb⟩
  have HX := Lib.hid hx
  have HP := Lib.hid hp
  have HW := Lib.hid hw
  have RP1 := Lib.hid hr
  have KP1 := Lib.hid (Blk.new w1 34 #[.int .i64 W, .int .i64 H, .slice a n c])
  have HB1 := Lib.hid (bAlloc hb (.cells #[.int .i64 W, .int .i64 H, .slice a n c] 34))
  obtain ⟨S, hS, hS2⟩ : ∃ S : Nat, isum xs = (S : Int) ∧ S ≤ 20655 := by
    have h := isum_take_bd hw n
    rw [List.take_of_length_le (by omega)] at h
    exact ⟨(isum xs).toNat, by omega, by omega⟩
  obtain ⟨G, hG⟩ : ∃ G, Nat.gcd S n = G := ⟨_, rfl⟩
  obtain ⟨A, B, g, hA, hB, hB1, hB2, hA1, hA2, t1, t2, hAG, hG1, hG2, hLT⟩ := mean_facts hn1 hG hn2 hS2
  have HME := Lib.hid (meanF_yes hx hp hS hG)
  have HAE := Lib.hid hA
  have HBE := Lib.hid hB
  have HT1 := Lib.hid t1
  have HT2 := Lib.hid t2
  have HAG := Lib.hid hAG
  have HLT := Lib.hid hLT
  have HS := Lib.hid hS
  clear hx hp hw hr hb hq hS hG hA hB t1 t2 hAG hLT
  go_wp2_with fail
  refine (impl_MeanOf _ _ _ _ _ xs _ HX.out (by exact RP1.out.alloc _) (by omega)).mono ?_
  rw [HME.out, HAE.out, HBE.out]
  rintro e w2 ⟨rfl, hb⟩
  have HB2 := Lib.hid (bTrans HB1.out hb)
  have KP2 := Lib.hid (KP1.out.below' hb)
  have RP2 := Lib.hid ((RP1.out.alloc (.cells #[.int .i64 W, .int .i64 H, .slice a n c] 34)).below hb)
  clear hb
  obtain ⟨l0, o0, o1, o2⟩ := KP2.out.c3
  have z1 : ¬ B = 0 := by omega
  have z2 : (B == 0) = false := by simp; omega
  have z3 : decide (B < 1) = false := by simp; omega
  have t1 := HT1.out
  have t2 := HT2.out
  have t3 := HAG.out
  have u1 : IntKind.i64.wrap (0 : Int) = 0 := IntWalk.i64_in _ (by omega)
  have u2 : IntKind.i64.wrap g = g := IntWalk.i64_in _ (by omega)
  have u3 : IntKind.i64.wrap (S : Int) = S := IntWalk.i64_in _ (by omega)
  go_wp2_with fail
  go_region_held3 (fun v => v.cell? ⟨w1.heap.size, 0, none⟩ = some (.int .i64 W) ∧ v.cell? ⟨w1.heap.size, 1, none⟩ = some (.int .i64 H) ∧ v.cell? ⟨w1.heap.size, 2, none⟩ = some (.slice a n c))
    (first | exact ⟨o0, o1, o2⟩ | exact ⟨(hb.cell l0).trans o0, (hb.cell l0).trans o1, (hb.cell l0).trans o2⟩)
    (first
      | (go_at_call 15; ((with_reducible refine (total_call _ _ _ xs S _ HX.out (by exact (RP2.out.of_heap rfl)) HW.out (by omega) HS.out).mono ?_); rintro e v1 ⟨rfl, hb⟩)))
  have HB3 := Lib.hid (bTrans HB2.out.drew hb)
  clear hb o0 o1 o2 l0 t1 t2 t3 u1 u2 u3
  go_wp2_with fail
  go_loopw [6] (fun i wr => ∃ d : Nat, 2 ≤ d ∧ d ≤ 82 ∧ (d : Int) ≤ B + 1 + 1 ∧ i = .int .i64 d ∧ Below w.heap.size w wr) (fun i _ => 100 - (intOf i).toNat)
  case atStart => exact ⟨2, by omega, by omega, by omega, rfl, HB3.out⟩
  case round =>
    obtain ⟨d, hd1, hd2, hd3, rfl, hwr⟩ := hrel
    have HWR := Lib.hid hwr
    clear hwr
    by_cases hlt : (d : Int) ≤ B
    · have y1 : ¬ (d : Int) = 0 := by omega
      have y2 : ((d : Int) == 0) = false := by simp; omega
      have no := HLT.out d hd1
      by_cases hA0 : A % (d : Int) = 0
      · have hB0 : ¬ B % (d : Int) = 0 := fun h => no ⟨hA0, h⟩
        have q1 : (A % (d : Int) == 0) = true := by simpa using hA0
        have q2 : (B % (d : Int) == 0) = false := by simpa using hB0
        clear no hA0 hB0
        go_wp2_with fail
        go_roundw
        case rel => exact ⟨d + 1, by omega, by omega, by omega, by go_num, HWR.out⟩
        case measure => simp [intOf]; omega
      · have q1 : (A % (d : Int) == 0) = false := by simpa using hA0
        clear no hA0
        go_wp2_with fail
        go_roundw
        case rel => exact ⟨d + 1, by omega, by omega, by omega, by go_num, HWR.out⟩
        case measure => simp [intOf]; omega
    · go_wp2_with fail
      go_ret
      exact ⟨rfl, HWR.out⟩

set_option maxHeartbeats 400000 in
theorem big (ad0 : Option Addr) (n0 cap0 : Nat) (w : World) (h : 1048576 < n0) (hl : n0 ≤ 9223372036854775807) :
    Calls Try.prog 9 #[.slice ad0 n0 cap0] w fun e w' => e = .returned (.bool true) ∧ Below w.heap.size w w' := by
  have h2 : (1048576 : Int) < (n0 : Int) := by omega
  go_enter Try.func9, Try.ntmps9
  go_wp2_with fail
  go_ret
  exact ⟨rfl, Below.refl _ _⟩

set_option maxRecDepth 100000 in
theorem lifted (os : Os) (started : os.Started) (H : Type) (enc : TypeId × Value → H) :
    ReturnsInHanded {} Try.checked os 9 .any (Rows.fnMeanSpec.pre6 enc Try.prog Try.f9 Rows.fnMeanRow.domain false) (Rows.fnMeanSpec.post enc Try.prog Try.f9 false true false false) := by
  refine returnsInHanded_of_change (C := Try.checked) own started (by kernel_rfl) Try.func9
    (ChangeSpec.witness6 (enc := enc) (C := Try.checked) false ⟨#[], #[.slice none 0 0], []⟩ 8 (by kernel_rfl) (by kernel_rfl) (by kernel_rfl) (by kernel_rfl)) ?_
  intro W base args ds gs before hval0 hW hcnd _
  have hval : ∀ (j : Nat) t v, Try.f9.params[j]? = some t → args[j]? = some v → Value.okWide Try.prog W .any base t v := hval0
  have hW' := hW
  have hlt := hW.lt
  obtain ⟨p, q, hA0, hV, rfl, hfz, hnd⟩ := hW
  have hA : DataW.TrodAll enc Try.prog W 0 (fun _ => true) true Try.f9.params.toList args.toList ds p := hA0
  rw [Try.params9] at hA hval
  obtain ⟨v0, vs0, d0, ds0, p0, q0, hargs, rfl, rfl, h0, r0⟩ := trodAll_cons hA
  obtain ⟨rfl, rfl, rfl⟩ := trodAll_nil r0
  obtain rfl : args = #[v0] := by cases args; simp_all
  obtain ⟨rfl, rfl⟩ := trodVars_none hV
  clear hA0 hval0
  obtain ⟨ad0, n0, cap0, bs0, rfl, hn0, hr0, hl0⟩ := open_code (hval 0 22 v0 rfl rfl) h0 (fun x hx => hlt x (by simp [hx]))
  have fin : ∀ (e : Ending) W', (e = .returned (.bool true) ∧ Below W.heap.size W W') → ∃ v, e = .returned v ∧ Rows.fnMeanSpec.post enc Try.prog Try.f9 false true false false W #[.slice ad0 n0 cap0] v W' := by
    rintro e W' ⟨rfl, hb⟩
    exact ⟨_, rfl, law_post rfl rfl hW' (by kernel_rfl) rfl hb⟩
  by_cases hs0 : n0 ≤ 1048576
  case neg => exact (big ad0 n0 cap0 W (by omega) hl0).mono fin
  case pos => exact (ok ad0 n0 cap0 bs0 W hn0 hr0 hs0).mono fin

theorem proved : Rows.FnMeanSaid :=
  OpenClaim.holds_of_wide 9 Try.f9 rfl rfl rfl rfl rfl rfl rfl ⟨rfl, rfl, rfl, rfl, rfl⟩ rfl rfl rfl rfl rfl (by kernel_rfl) Try.func9 (by kernel_rfl)
    (of_decide_eq_true (by kernel_rfl)) (by unfold Func.isWrapper; first | (rw [if_pos (by decide +kernel)]; kernel_rfl) | (rw [if_neg (by decide +kernel)]; exact ⟨rfl, rfl⟩))
    (fun os started H enc _ => lifted os started H enc)

end Go.Proofs.Ytepaklcobkdfdaa.lMean
