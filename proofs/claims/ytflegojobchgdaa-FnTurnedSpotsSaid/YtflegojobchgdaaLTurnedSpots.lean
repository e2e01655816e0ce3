/-
  FnTurnedSpots: four turns of a name give it back, a turned name is as near to the lattice, and only the name 0 is in it: the law returns true for every code. No conditions.
-/
import Derived.Test.YtflegojobchgdaaN10
import Derived.Test.YtflegojobchgdaaRL
import Derived.Test.YtflegojobchgdaaFrameB
namespace Go.Proofs.Ytflegojobchgdaa.lTurnedSpots
open Go.ChangeShapes Go.WideShapes Go.ChangeAt Go.RowKit
set_option linter.unusedVariables false
set_option linter.unusedSimpArgs false

theorem mod_of (v : Nat) {n : Int} (h1 : 1 ≤ n) (h2 : n ≤ 288) : ∃ k : Int, (v : Int).tmod n = k ∧ IntKind.i64.wrap k = k ∧ 0 ≤ k ∧ k < n := by
  have e := Int.tmod_eq_emod_of_nonneg (b := n) (show 0 ≤ (v : Int) by omega)
  have m1 := Int.emod_nonneg (v : Int) (show n ≠ 0 by omega)
  have m2 := Int.emod_lt_of_pos (v : Int) (show 0 < n by omega)
  exact ⟨_, e, IntWalk.i64_in _ (by omega), m1, m2⟩

theorem turn_step {A B n g d a b p q x y R R' : Int} (L : Lat A B n g d a b p q) (h : IsName A B x y R) (h' : IsName A B (-(R / d)) (R % d) R') : IsName A B (-y) x R' := by
  obtain ⟨h0, h1, h2⟩ := L.isName.1 h
  have h3 := L.has_turn h2
  have h4 := L.name_shift h' h3
  rwa [show -(R / d) + -(y - R / d) = -y by omega, show R % d + (x - R % d) = x by omega] at h4

theorem turns {A B n g d a b p q k : Int} (L : Lat A B n g d a b p q) (k0 : 0 ≤ k) (k1 : k < n) : ∃ R1 R2 R3 E : Int, TurnR A B k R1 ∧ TurnR A B R1 R2 ∧ TurnR A B R2 R3 ∧ TurnR A B R3 k ∧ NearR A B R1 E ∧ NearR A B k E ∧ (E == 0) = (k == 0) ∧ NearR A B 0 0 := by
  obtain ⟨R1, t1⟩ := L.name_ex (-(k / d)) (k % d)
  obtain ⟨R2, t2⟩ := L.name_ex (-(R1 / d)) (R1 % d)
  obtain ⟨R3, t3⟩ := L.name_ex (-(R2 / d)) (R2 % d)
  obtain ⟨R4, t4⟩ := L.name_ex (-(R3 / d)) (R3 % d)
  have ok := latOk_yes L.a1 L.a2 L.b1 L.b2
  have s2 := turn_step L t1 t2
  have s3 := turn_step L s2 t3
  have s4 := turn_step L s3 t4
  rw [Int.neg_neg, Int.neg_neg] at s4
  have e4 : R4 = k := L.name_one s4 (L.name_self k0 k1)
  subst e4
  have i1 := L.isName.1 t1
  have i2 := L.isName.1 t2
  have i3 := L.isName.1 t3
  have n1 := L.near_name t1
  rw [L.near_turn] at n1
  have z := L.near_zero (R4 % d) (R4 / d)
  have hz : HasL A B (R4 % d) (R4 / d) ↔ R4 = 0 := by
    rw [← L.name_zero]
    exact ⟨fun h => L.name_one (L.name_self k0 k1) h, fun h => by rw [h]; exact L.name_zero.2 (by simp only [Int.zero_emod, Int.zero_ediv]; exact L.has_zero)⟩
  have z0 : nearF A B 0 0 = 0 := (L.near_zero 0 0).2 L.has_zero
  have n0 := L.n1
  refine ⟨R1, R2, R3, nearF A B (R4 % d) (R4 / d), .inl ⟨ok, ?_, ?_⟩, .inl ⟨ok, ?_, ?_⟩, .inl ⟨ok, ?_, ?_⟩, .inl ⟨ok, ?_, ?_⟩, .inl ⟨ok, ?_, ?_⟩, .inl ⟨ok, ?_, ?_⟩, ?_, .inl ⟨ok, ?_, ?_⟩⟩
  · rw [L.hn]; exact ⟨k0, k1⟩
  · rw [L.hw]; exact t1
  · rw [L.hn]; exact ⟨i1.1, i1.2.1⟩
  · rw [L.hw]; exact t2
  · rw [L.hn]; exact ⟨i2.1, i2.2.1⟩
  · rw [L.hw]; exact t3
  · rw [L.hn]; exact ⟨i3.1, i3.2.1⟩
  · rw [L.hw]; exact t4
  · rw [L.hn]; exact ⟨i1.1, i1.2.1⟩
  · rw [L.hw]; exact n1
  · rw [L.hn]; exact ⟨k0, k1⟩
  · rw [L.hw]
  · by_cases h : R4 = 0
    · rw [z.2 (hz.2 h), h]
    · have h5 : ¬ nearF A B (R4 % d) (R4 / d) = 0 := fun e => h (hz.1 (z.1 e))
      rw [beq_eq_false_iff_ne.2 h5, beq_eq_false_iff_ne.2 h]
  · rw [L.hn]; omega
  · simp only [Int.zero_emod, Int.zero_ediv]; exact z0

set_option maxRecDepth 100000 in
set_option maxHeartbeats 3200000 in
theorem ok (ad0 : Option Addr) (n0 cap0 : Nat) (bs0 : List Int) (w : World) (hn0 : bs0.length = n0) (hr0 : RdU w.heap.size w ad0 bs0) (hs0 : n0 ≤ 1048576) :
    Calls Try.prog 6 #[.slice ad0 n0 cap0] w fun e w' => e = .returned (.bool true) ∧ Below w.heap.size w w' := by
  have HL := Lib.hid hn0
  have HC := Lib.hid hr0
  clear hn0 hr0
  go_enter Try.func6, Try.ntmps6
  go_wp2_with fail
  refine (lat_call ad0 n0 cap0 bs0 _ HL.out (by exact HC.out) (by omega)).mono ?_
  rintro e w1 ⟨A, B, rfl, hm, hb⟩
  obtain ⟨a1, a2, b1, b2, hok⟩ := lat_list hm
  obtain ⟨n, g, d, a, b, p, q, hLat⟩ := lat_of hok
  have T := Lib.hid hLat
  have HM := Lib.hid hm
  have n1 := hLat.n1
  have n2 := hLat.n2
  have g1 := hLat.g1
  have d1 := hLat.w1
  have d2 := hLat.w2
  have KP1 := Lib.hid (Blk.new w1 24 #[.int .i64 A, .int .i64 B])
  have HB1 := Lib.hid (bAlloc hb (.cells #[.int .i64 A, .int .i64 B] 24))
  clear hb hLat hok hm
  have AT : Hid (∀ v, BelowL (w1.alloc (.cells #[.int .i64 A, .int .i64 B] 24)) v → Calls Try.prog 10 #[.slice ad0 n0 cap0, .int .i64 1] v fun e w' => ∃ u : Nat, e = .returned (.int .i64 (u : Int)) ∧ u ≤ 255 ∧ v = w') := Lib.hid (fun v hv => at_callL _ ad0 n0 cap0 bs0 1 v HL.out (by exact HC.out.below (bTrans HB1.out hv.out)) (by omega) (by omega))
  go_wp2_with fail
  have hz := KP1.out.lt
  obtain ⟨wo, hwo⟩ : ∃ wo : World, wo = w1.alloc (.cells #[.int .i64 A, .int .i64 B] 24) := ⟨_, rfl⟩
  rw [← hwo] at KP1 HB1 AT ⊢
  clear hwo
  obtain ⟨z, c0, c1⟩ := KP1.out.c2
  have z1 : ¬ n = 0 := by omega
  have z2 : (n == 0) = false := by simp; omega
  have MK : Hid (∀ v, BelowL wo v → v.cell? ⟨w1.heap.size, 0, none⟩ = some (.int .i64 A) ∧ v.cell? ⟨w1.heap.size, 1, none⟩ = some (.int .i64 B) ∧ BelowL wo v) := Lib.hid (fun v h => ⟨(h.out.cell z).trans c0, (h.out.cell z).trans c1, h⟩)
  go_region_held3 (fun v => v.cell? ⟨w1.heap.size, 0, none⟩ = some (.int .i64 A) ∧ v.cell? ⟨w1.heap.size, 1, none⟩ = some (.int .i64 B) ∧ BelowL wo v)
    (first | exact MK.out _ hb2 | exact MK.out _ hb1 | exact MK.out _ (BelowL.start _))
    (first
      | (go_at_call 10; ((with_reducible refine (AT.out _ (limb3 (by assumption))).mono ?_); rintro e v1 ⟨u, rfl, hu, rfl⟩; have hb1 := limb3 (by assumption); obtain ⟨k, t1, t2, k0, k1⟩ := mod_of u n1 n2))
      | (go_at_call 16; ((with_reducible refine (spec_AreaOf_yes T.out _).mono ?_); rintro e v2 ⟨rfl, hq2⟩; have hb2 := BelowL.call (limb3 (by assumption)) hq2)))
  clear t1 t2 MK
  obtain ⟨R1, R2, R3, E, h1, h2, h3, h4, m1, m2, m3, m4⟩ := turns T.out k0 k1
  have H1 := Lib.hid h1
  have H2 := Lib.hid h2
  have H3 := Lib.hid h3
  have H4 := Lib.hid h4
  have M1 := Lib.hid m1
  have M2 := Lib.hid m2
  have M3 := Lib.hid m3
  have M4 := Lib.hid m4
  have HB2 := Lib.hid (bTrans HB1.out hb2.out)
  have KP2 := Lib.hid (KP1.out.below' hb2.out)
  clear z c0 c1 h1 h2 h3 h4 m1 m2 m3 m4
  clear hb1 hb2 hq2
  obtain ⟨z, c0, c1⟩ := KP2.out.c2
  go_wp2_with fail
  refine (impl_TurnName H1.out _).mono ?_
  rintro e w3 ⟨rfl, hb⟩
  have HB3 := Lib.hid (bTrans HB2.out hb)
  have KP3 := Lib.hid (KP2.out.below' hb)
  clear z c0 c1 hb
  obtain ⟨z, c0, c1⟩ := KP3.out.c2
  go_wp2_with fail
  refine (impl_TurnName H2.out _).mono ?_
  rintro e w4 ⟨rfl, hb⟩
  have HB4 := Lib.hid (bTrans HB3.out hb)
  have KP4 := Lib.hid (KP3.out.below' hb)
  try clear z c0 c1
  clear hb
  obtain ⟨z, c0, c1⟩ := KP4.out.c2
  go_wp2_with fail
  have nk : (k != k) = false := by simp
  have ne : (E != E) = false := by simp
  have MK : Hid (∀ v, BelowL w4 v → v.cell? ⟨w1.heap.size, 0, none⟩ = some (.int .i64 A) ∧ v.cell? ⟨w1.heap.size, 1, none⟩ = some (.int .i64 B) ∧ BelowL w4 v) := Lib.hid (fun v h => ⟨(h.out.cell z).trans c0, (h.out.cell z).trans c1, h⟩)
  go_region_held3 (fun v => v.cell? ⟨w1.heap.size, 0, none⟩ = some (.int .i64 A) ∧ v.cell? ⟨w1.heap.size, 1, none⟩ = some (.int .i64 B) ∧ BelowL w4 v)
    (first | exact MK.out _ hb4 | exact MK.out _ hb3 | exact MK.out _ hb2 | exact MK.out _ hb1 | exact MK.out _ (BelowL.start _))
    (first
      | (go_at_call 21; ((with_reducible refine (impl_TurnName H3.out _).mono ?_); rintro e v1 ⟨rfl, hq1⟩; have hb1 := BelowL.call (limb3 (by assumption)) hq1))
      | (go_at_call 21; ((with_reducible refine (impl_TurnName H4.out _).mono ?_); rintro e v2 ⟨rfl, hq2⟩; have hb2 := BelowL.call (limb3 (by assumption)) hq2))
      | (go_at_call 22; ((with_reducible refine (impl_NearOf M1.out _).mono ?_); rintro e v3 ⟨rfl, hq3⟩; have hb3 := BelowL.call (limb3 (by assumption)) hq3))
      | (go_at_call 22; ((with_reducible refine (impl_NearOf M2.out _).mono ?_); rintro e v4 ⟨rfl, hq4⟩; have hb4 := BelowL.call (limb3 (by assumption)) hq4)))
  have HB5 := Lib.hid (bTrans HB4.out hb4.out)
  have KP5 := Lib.hid (KP4.out.below' hb4.out)
  clear z c0 c1 MK hb1 hb2 hb3 hb4
  obtain ⟨z, c0, c1⟩ := KP5.out.c2
  go_wp2_with fail
  refine (impl_NearOf M4.out _).mono ?_
  rintro e w6 ⟨rfl, hb⟩
  have HB6 := Lib.hid (bTrans HB5.out hb)
  have KP6 := Lib.hid (KP5.out.below' hb)
  try clear z c0 c1
  clear hb
  obtain ⟨z, c0, c1⟩ := KP6.out.c2
  go_wp2_with fail
  refine (impl_NearOf M2.out _).mono ?_
  rintro e w7 ⟨rfl, hb⟩
  have HB7 := Lib.hid (bTrans HB6.out hb)
  have KP7 := Lib.hid (KP6.out.below' hb)
  try clear z c0 c1
  clear hb
  obtain ⟨z, c0, c1⟩ := KP7.out.c2
  go_wp2_with fail
  go_ret
  exact ⟨ret_bool (by rw [M3.out]; simp), HB7.out⟩

set_option maxHeartbeats 400000 in
theorem big (ad0 : Option Addr) (n0 cap0 : Nat) (w : World) (h : 1048576 < n0) (hl : n0 ≤ 9223372036854775807) :
    Calls Try.prog 6 #[.slice ad0 n0 cap0] w fun e w' => e = .returned (.bool true) ∧ Below w.heap.size w w' := by
  have h2 : (1048576 : Int) < (n0 : Int) := by omega
  go_enter Try.func6, Try.ntmps6
  go_wp2_with fail
  go_ret
  exact ⟨rfl, Below.refl _ _⟩

set_option maxRecDepth 100000 in
theorem lifted (os : Os) (started : os.Started) (H : Type) (enc : TypeId × Value → H) :
    ReturnsInHanded {} Try.checked os 6 .any (Rows.fnTurnedSpotsSpec.pre6 enc Try.prog Try.f6 Rows.fnTurnedSpotsRow.domain false) (Rows.fnTurnedSpotsSpec.post enc Try.prog Try.f6 false true false false) := by
  refine returnsInHanded_of_change (C := Try.checked) own started (by kernel_rfl) Try.func6
    (ChangeSpec.witness6 (enc := enc) (C := Try.checked) false ⟨#[], #[.slice none 0 0], []⟩ 8 (by kernel_rfl) (by kernel_rfl) (by kernel_rfl) (by kernel_rfl)) ?_
  intro W base args ds gs before hval0 hW hcnd _
  have hval : ∀ (j : Nat) t v, Try.f6.params[j]? = some t → args[j]? = some v → Value.okWide Try.prog W .any base t v := hval0
  have hW' := hW
  have hlt := hW.lt
  obtain ⟨p, q, hA0, hV, rfl, hfz, hnd⟩ := hW
  have hA : DataW.TrodAll enc Try.prog W 0 (fun _ => true) true Try.f6.params.toList args.toList ds p := hA0
  rw [Try.params6] at hA hval
  obtain ⟨v0, vs0, d0, ds0, p0, q0, hargs, rfl, rfl, h0, r0⟩ := trodAll_cons hA
  obtain ⟨rfl, rfl, rfl⟩ := trodAll_nil r0
  obtain rfl : args = #[v0] := by cases args; simp_all
  obtain ⟨rfl, rfl⟩ := trodVars_none hV
  clear hA0 hval0
  obtain ⟨ad0, n0, cap0, bs0, rfl, hn0, hr0, hl0⟩ := open_code (hval 0 22 v0 rfl rfl) h0 (fun x hx => hlt x (by simp [hx]))
  have fin : ∀ (e : Ending) W', (e = .returned (.bool true) ∧ Below W.heap.size W W') → ∃ v, e = .returned v ∧ Rows.fnTurnedSpotsSpec.post enc Try.prog Try.f6 false true false false W #[.slice ad0 n0 cap0] v W' := by
    rintro e W' ⟨rfl, hb⟩
    exact ⟨_, rfl, law_post rfl rfl hW' (by kernel_rfl) rfl hb⟩
  by_cases hs0 : n0 ≤ 1048576
  case neg => exact (big ad0 n0 cap0 W (by omega) hl0).mono fin
  case pos => exact (ok ad0 n0 cap0 bs0 W hn0 hr0 hs0).mono fin

theorem proved : Rows.FnTurnedSpotsSaid :=
  OpenClaim.holds_of_wide 6 Try.f6 rfl rfl rfl rfl rfl rfl rfl ⟨rfl, rfl, rfl, rfl, rfl⟩ rfl rfl rfl rfl rfl (by kernel_rfl) Try.func6 (by kernel_rfl)
    (of_decide_eq_true (by kernel_rfl)) (by unfold Func.isWrapper; first | (rw [if_pos (by decide +kernel)]; kernel_rfl) | (rw [if_neg (by decide +kernel)]; exact ⟨rfl, rfl⟩))
    (fun os started H enc _ => lifted os started H enc)
end Go.Proofs.Ytflegojobchgdaa.lTurnedSpots
