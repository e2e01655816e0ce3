/-
  FnExchanged: the lattice with exchanged numbers has the points with exchanged coordinates: the law returns true for every code. No conditions.
-/
import Derived.Test.YtflegojobchgdaaN10
import Derived.Test.YtflegojobchgdaaN11
import Derived.Test.YtflegojobchgdaaRL
import Derived.Test.YtflegojobchgdaaFrameB
namespace Go.Proofs.Ytflegojobchgdaa.lExchanged
open Go.ChangeShapes Go.WideShapes Go.ChangeAt Go.RowKit
set_option linter.unusedVariables false
set_option linter.unusedSimpArgs false

theorem swapped {A B n g d a b p q : Int} (L : Lat A B n g d a b p q) (hB : 1 ≤ B) : ∃ a' b' p' q' : Int, Lat B A n g d a' b' p' q' := by
  obtain ⟨n', g', d', a', b', p', q', L'⟩ := lat_of (latOk_yes hB L.b2 (show 0 ≤ A by have := L.a1; omega) L.a2)
  have e1 : n' = n := by rw [← L'.hn, ← L.hn]; unfold areaI; omega
  have e2 : g' = g := by rw [← L'.hg, ← L.hg]; unfold gI; rw [Nat.gcd_comm]
  have e3 : d' = d := by
    rw [← L'.hw, ← L.hw]; unfold perI
    rw [L'.hn, L.hn, L'.hg, L.hg, e1, e2]
  subst e1 e2 e3
  exact ⟨a', b', p', q', L'⟩

theorem swap_has {A B n g d a b p q : Int} (L : Lat A B n g d a b p q) {a' b' p' q' : Int} (L' : Lat B A n g d a' b' p' q') (x y : Int) : decide (HasL B A y x) = decide (HasL A B x y) := by
  have h : HasL B A y x ↔ HasL A B x y := by
    rw [L.has, L'.has, show y * B + x * A = x * A + y * B by omega, show x * B - y * A = -(y * A - x * B) by omega, Int.dvd_neg]
  by_cases c : HasL A B x y
  · rw [decide_eq_true c, decide_eq_true (h.2 c)]
  · rw [decide_eq_false c, decide_eq_false (fun k => c (h.1 k))]

set_option maxRecDepth 100000 in
set_option maxHeartbeats 6400000 in
theorem ok (ad0 : Option Addr) (n0 cap0 : Nat) (bs0 : List Int) (w : World) (hn0 : bs0.length = n0) (hr0 : RdU w.heap.size w ad0 bs0) (hs0 : n0 ≤ 1048576) :
    Calls Try.prog 8 #[.slice ad0 n0 cap0] w fun e w' => e = .returned (.bool true) ∧ Below w.heap.size w w' := by
  have HL := Lib.hid hn0
  have HC := Lib.hid hr0
  clear hn0 hr0
  go_enter Try.func8, Try.ntmps8
  go_wp2_with fail
  refine (lat_call ad0 n0 cap0 bs0 _ HL.out (by exact HC.out) (by omega)).mono ?_
  rintro e w1 ⟨A, B, rfl, hm, hb⟩
  obtain ⟨a1, a2, b1, b2, hok⟩ := lat_list hm
  obtain ⟨n, g, d, a, b, p, q, hLat⟩ := lat_of hok
  have T := Lib.hid hLat
  have HM := Lib.hid hm
  have n1 := hLat.n1
  have n2 := hLat.n2
  have g1 := hLat.g1
  have d1 := hLat.w1
  have d2 := hLat.w2
  have KP1 := Lib.hid (Blk.new w1 24 #[.int .i64 A, .int .i64 B])
  have HB1 := Lib.hid (bAlloc hb (.cells #[.int .i64 A, .int .i64 B] 24))
  clear hb hLat hok hm
  by_cases hB0 : B = 0
  · subst hB0
    have HT : Hid (turnedV A 0 = (0, 0, false)) := Lib.hid (by unfold turnedV; rw [if_neg]; rintro ⟨_, h⟩; exact absurd (latOk_bd h).1 (by decide))
    go_wp2_with fail
    refine (impl_TurnedLattice _ _ _).mono ?_
    rw [HT.out]
    rintro e w2 ⟨rfl, hb⟩
    have HB2 := Lib.hid (bAlloc (bTrans HB1.out hb) (.cells #[.int .i64 0, .int .i64 0] 24))
    have KP2 := Lib.hid ((KP1.out.below' hb).alloc (.cells #[.int .i64 0, .int .i64 0] 24))
    have kk := KP1.out.below' hb
    obtain ⟨z, c0, c1⟩ := kk.c2
    clear hb kk
    go_wp2_with fail
    go_ret
    exact ⟨rfl, HB2.out⟩
  · have hB1 : 1 ≤ B := by omega
    have HT : Hid (turnedV A B = (B, A, true)) := Lib.hid (by unfold turnedV; rw [if_pos ⟨latOk_yes a1 (by omega) b1 (by omega), latOk_yes hB1 (by omega) (by omega) (by omega)⟩])
    obtain ⟨a', b', p', q', hT2⟩ := swapped T.out hB1
    have T2 := Lib.hid hT2
    clear hT2 hB0
    have hbq : decide (0 < B) = true := decide_eq_true (by omega)
    go_wp2_with fail
    refine (impl_TurnedLattice _ _ _).mono ?_
    rw [HT.out]
    rintro e w2 ⟨rfl, hb⟩
    have HB2 := Lib.hid (bAlloc (bTrans HB1.out hb) (.cells #[.int .i64 B, .int .i64 A] 24))
    have KP2 := Lib.hid ((KP1.out.below' hb).alloc (.cells #[.int .i64 B, .int .i64 A] 24))
    have KT2 := Lib.hid (Blk.new w2 24 #[.int .i64 B, .int .i64 A])
    have kk := KP1.out.below' hb
    obtain ⟨z, c0, c1⟩ := kk.c2
    clear hb kk
    go_wp2_with fail
    refine (at_callL _ ad0 n0 cap0 bs0 1 _ HL.out (by exact HC.out.below HB2.out) (by omega) (by omega)).mono ?_
    rintro e wv ⟨v1, rfl, hv1, rfl⟩
    go_wp2_with fail
    refine (at_callL _ ad0 n0 cap0 bs0 2 _ HL.out (by exact HC.out.below HB2.out) (by omega) (by omega)).mono ?_
    rintro e wv ⟨v2, rfl, hv2, rfl⟩
    obtain ⟨X, hX⟩ : ∃ X : Int, (v1 : Int) % 30 - 15 = X := ⟨_, rfl⟩
    obtain ⟨Y, hY⟩ : ∃ Y : Int, (v2 : Int) % 30 - 15 = Y := ⟨_, rfl⟩
    obtain ⟨h, hh⟩ : ∃ h, decide (HasL A B X Y) = h := ⟨_, rfl⟩
    have HH := Lib.hid hh
    have HH2 := Lib.hid (swap_has T.out T2.out X Y)
    rw [hh] at HH2
    clear hh z c0 c1
    obtain ⟨wo, hwo⟩ : ∃ wo : World, wo = w2.alloc (.cells #[.int .i64 B, .int .i64 A] 24) := ⟨_, rfl⟩
    rw [← hwo] at KP2 KT2 HB2 ⊢
    clear hwo
    obtain ⟨z, c0, c1⟩ := KP2.out.c2
    obtain ⟨z2, t0, t1⟩ := KT2.out.c2
    have na : (n == n) = true := by simp
    have nd : (d == d) = true := by simp
    have nh : (h == h) = true := by simp
    have nA : (A == A) = true := by simp
    have nB : (B == B) = true := by simp
    go_upto_region 11 with fail
    have MK : Hid (∀ v, BelowL wo v → v.cell? ⟨w1.heap.size, 0, none⟩ = some (.int .i64 A) ∧ v.cell? ⟨w1.heap.size, 1, none⟩ = some (.int .i64 B) ∧ v.cell? ⟨w2.heap.size, 0, none⟩ = some (.int .i64 B) ∧ v.cell? ⟨w2.heap.size, 1, none⟩ = some (.int .i64 A) ∧ BelowL wo v) := Lib.hid (fun v h => ⟨(h.out.cell z).trans c0, (h.out.cell z).trans c1, (h.out.cell z2).trans t0, (h.out.cell z2).trans t1, h⟩)
    go_region_held3 (fun v => v.cell? ⟨w1.heap.size, 0, none⟩ = some (.int .i64 A) ∧ v.cell? ⟨w1.heap.size, 1, none⟩ = some (.int .i64 B) ∧ v.cell? ⟨w2.heap.size, 0, none⟩ = some (.int .i64 B) ∧ v.cell? ⟨w2.heap.size, 1, none⟩ = some (.int .i64 A) ∧ BelowL wo v)
      (first | exact MK.out _ hb6 | exact MK.out _ hb5 | exact MK.out _ hb4 | exact MK.out _ hb3 | exact MK.out _ hb2 | exact MK.out _ hb1 | exact MK.out _ (BelowL.start _))
      (first
        | (go_at_call 14; ((with_reducible refine (impl_AreaOf_yes T2.out _).mono ?_); rintro e v1' ⟨rfl, hq1⟩; have hb1 := BelowL.call (limb5 (by assumption)) hq1))
        | (go_at_call 14; ((with_reducible refine (impl_AreaOf_yes T.out _).mono ?_); rintro e v2' ⟨rfl, hq2⟩; have hb2 := BelowL.call (limb5 (by assumption)) hq2))
        | (go_at_call 12; ((with_reducible refine (impl_HasPoint_yes T2.out _ _ _).mono ?_); rw [HH2.out]; rintro e v3' ⟨rfl, hq3⟩; have hb3 := BelowL.call (limb5 (by assumption)) hq3))
        | (go_at_call 12; ((with_reducible refine (impl_HasPoint_yes T.out _ _ _).mono ?_); rw [HH.out]; rintro e v4' ⟨rfl, hq4⟩; have hb4 := BelowL.call (limb5 (by assumption)) hq4))
        | (go_at_call 15; ((with_reducible refine (impl_PeriodOf_yes T2.out _).mono ?_); rintro e v5' ⟨rfl, hq5⟩; have hb5 := BelowL.call (limb5 (by assumption)) hq5))
        | (go_at_call 15; ((with_reducible refine (impl_PeriodOf_yes T.out _).mono ?_); rintro e v6' ⟨rfl, hq6⟩; have hb6 := BelowL.call (limb5 (by assumption)) hq6)))
    have HB9 := Lib.hid (bTrans HB2.out hb6.out)
    go_wp2_with fail
    go_ret
    exact ⟨rfl, HB9.out⟩

set_option maxHeartbeats 400000 in
theorem big (ad0 : Option Addr) (n0 cap0 : Nat) (w : World) (h : 1048576 < n0) (hl : n0 ≤ 9223372036854775807) :
    Calls Try.prog 8 #[.slice ad0 n0 cap0] w fun e w' => e = .returned (.bool true) ∧ Below w.heap.size w w' := by
  have h2 : (1048576 : Int) < (n0 : Int) := by omega
  go_enter Try.func8, Try.ntmps8
  go_wp2_with fail
  go_ret
  exact ⟨rfl, Below.refl _ _⟩

set_option maxRecDepth 100000 in
theorem lifted (os : Os) (started : os.Started) (H : Type) (enc : TypeId × Value → H) :
    ReturnsInHanded {} Try.checked os 8 .any (Rows.fnExchangedSpec.pre6 enc Try.prog Try.f8 Rows.fnExchangedRow.domain false) (Rows.fnExchangedSpec.post enc Try.prog Try.f8 false true false false) := by
  refine returnsInHanded_of_change (C := Try.checked) own started (by kernel_rfl) Try.func8
    (ChangeSpec.witness6 (enc := enc) (C := Try.checked) false ⟨#[], #[.slice none 0 0], []⟩ 8 (by kernel_rfl) (by kernel_rfl) (by kernel_rfl) (by kernel_rfl)) ?_
  intro W base args ds gs before hval0 hW hcnd _
  have hval : ∀ (j : Nat) t v, Try.f8.params[j]? = some t → args[j]? = some v → Value.okWide Try.prog W .any base t v := hval0
  have hW' := hW
  have hlt := hW.lt
  obtain ⟨p, q, hA0, hV, rfl, hfz, hnd⟩ := hW
  have hA : DataW.TrodAll enc Try.prog W 0 (fun _ => true) true Try.f8.params.toList args.toList ds p := hA0
  rw [Try.params8] at hA hval
  obtain ⟨v0, vs0, d0, ds0, p0, q0, hargs, rfl, rfl, h0, r0⟩ := trodAll_cons hA
  obtain ⟨rfl, rfl, rfl⟩ := trodAll_nil r0
  obtain rfl : args = #[v0] := by cases args; simp_all
  obtain ⟨rfl, rfl⟩ := trodVars_none hV
  clear hA0 hval0
  obtain ⟨ad0, n0, cap0, bs0, rfl, hn0, hr0, hl0⟩ := open_code (hval 0 22 v0 rfl rfl) h0 (fun x hx => hlt x (by simp [hx]))
  have fin : ∀ (e : Ending) W', (e = .returned (.bool true) ∧ Below W.heap.size W W') → ∃ v, e = .returned v ∧ Rows.fnExchangedSpec.post enc Try.prog Try.f8 false true false false W #[.slice ad0 n0 cap0] v W' := by
    rintro e W' ⟨rfl, hb⟩
    exact ⟨_, rfl, law_post rfl rfl hW' (by kernel_rfl) rfl hb⟩
  by_cases hs0 : n0 ≤ 1048576
  case neg => exact (big ad0 n0 cap0 W (by omega) hl0).mono fin
  case pos => exact (ok ad0 n0 cap0 bs0 W hn0 hr0 hs0).mono fin

theorem proved : Rows.FnExchangedSaid :=
  OpenClaim.holds_of_wide 8 Try.f8 rfl rfl rfl rfl rfl rfl rfl ⟨rfl, rfl, rfl, rfl, rfl⟩ rfl rfl rfl rfl rfl (by kernel_rfl) Try.func8 (by kernel_rfl)
    (of_decide_eq_true (by kernel_rfl)) (by unfold Func.isWrapper; first | (rw [if_pos (by decide +kernel)]; kernel_rfl) | (rw [if_neg (by decide +kernel)]; exact ⟨rfl, rfl⟩))
    (fun os started H enc _ => lifted os started H enc)
end Go.Proofs.Ytflegojobchgdaa.lExchanged
