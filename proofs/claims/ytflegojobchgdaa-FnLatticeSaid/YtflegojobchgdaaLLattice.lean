/-
  FnLattice: points that differ by a point of a lattice have one name, and the points of the lattice have the name 0: the law returns true for every code. No conditions.
-/
import Derived.Test.YtflegojobchgdaaN10
import Derived.Test.YtflegojobchgdaaRL
import Derived.Test.YtflegojobchgdaaFrameB
namespace Go.Proofs.Ytflegojobchgdaa.lLattice
open Go.ChangeShapes Go.WideShapes Go.ChangeAt Go.RowKit
set_option linter.unusedVariables false
set_option linter.unusedSimpArgs false

set_option maxRecDepth 100000 in
set_option maxHeartbeats 1600000 in
theorem ok (ad0 : Option Addr) (n0 cap0 : Nat) (bs0 : List Int) (w : World) (hn0 : bs0.length = n0) (hr0 : RdU w.heap.size w ad0 bs0) (hs0 : n0 ≤ 1048576) :
    Calls Try.prog 3 #[.slice ad0 n0 cap0] w fun e w' => e = .returned (.bool true) ∧ Below w.heap.size w w' := by
  have HL := Lib.hid hn0
  have HC := Lib.hid hr0
  clear hn0 hr0
  go_enter Try.func3, Try.ntmps3
  go_wp2_with fail
  refine (lat_call ad0 n0 cap0 bs0 _ HL.out (by exact HC.out) (by omega)).mono ?_
  rintro e w1 ⟨A, B, rfl, hm, hb⟩
  obtain ⟨a1, a2, b1, b2, hok⟩ := lat_list hm
  obtain ⟨n, g, d, a, b, p, q, hLat⟩ := lat_of hok
  have T := Lib.hid hLat
  have HM := Lib.hid hm
  have n1 := hLat.n1
  have n2 := hLat.n2
  have g1 := hLat.g1
  have d1 := hLat.w1
  have d2 := hLat.w2
  have KP1 := Lib.hid (Blk.new w1 24 #[.int .i64 A, .int .i64 B])
  have HB1 := Lib.hid (bAlloc hb (.cells #[.int .i64 A, .int .i64 B] 24))
  clear hb hLat hok hm
  go_wp2_with fail
  refine (at_callL _ ad0 n0 cap0 bs0 1 _ HL.out (by exact HC.out.below HB1.out) (by omega) (by omega)).mono ?_
  rintro e wv ⟨v1, rfl, hv1, rfl⟩
  go_wp2_with fail
  refine (at_callL _ ad0 n0 cap0 bs0 2 _ HL.out (by exact HC.out.below HB1.out) (by omega) (by omega)).mono ?_
  rintro e wv ⟨v2, rfl, hv2, rfl⟩
  go_wp2_with fail
  refine (at_callL _ ad0 n0 cap0 bs0 3 _ HL.out (by exact HC.out.below HB1.out) (by omega) (by omega)).mono ?_
  rintro e wv ⟨v3, rfl, hv3, rfl⟩
  go_wp2_with fail
  refine (at_callL _ ad0 n0 cap0 bs0 4 _ HL.out (by exact HC.out.below HB1.out) (by omega) (by omega)).mono ?_
  rintro e wv ⟨v4, rfl, hv4, rfl⟩
  obtain ⟨I, hI⟩ : ∃ I : Int, (v3 : Int) % 20 - 10 = I := ⟨_, rfl⟩
  obtain ⟨J, hJ⟩ : ∃ J : Int, (v4 : Int) % 20 - 10 = J := ⟨_, rfl⟩
  have i1 : -10 ≤ I ∧ I ≤ 10 := by omega
  have j1 : -10 ≤ J ∧ J ≤ 10 := by omega
  obtain ⟨e1, e2⟩ := prod_bd (u := I) (m := 10) (A := A) (by omega) (by omega) (by omega) (by omega) (by omega)
  obtain ⟨e3, e4⟩ := prod_bd (u := J) (m := 10) (A := B) (by omega) (by omega) (by omega) (by omega) (by omega)
  obtain ⟨e5, e6⟩ := prod_bd (u := I) (m := 10) (A := B) (by omega) (by omega) (by omega) (by omega) (by omega)
  obtain ⟨e7, e8⟩ := prod_bd (u := J) (m := 10) (A := A) (by omega) (by omega) (by omega) (by omega) (by omega)
  obtain ⟨X, hX⟩ : ∃ X, I * A - J * B = X := ⟨_, rfl⟩
  obtain ⟨Y, hY⟩ : ∃ Y, I * B + J * A = Y := ⟨_, rfl⟩
  have x1 : -240 ≤ X ∧ X ≤ 240 := by omega
  have y1 : -240 ≤ Y ∧ Y ≤ 240 := by omega
  obtain ⟨x1, x2⟩ := x1
  obtain ⟨y1, y2⟩ := y1
  have HXY : Hid (HasL A B X Y) := Lib.hid (by rw [← hX, ← hY]; exact T.out.has_ij I J)
  obtain ⟨K, hK⟩ := T.out.name_ex ((v1 : Int) - 128) ((v2 : Int) - 128)
  have HK := Lib.hid hK
  have HK2 := Lib.hid (T.out.name_shift hK HXY.out)
  have HZ := Lib.hid (T.out.name_zero.2 HXY.out)
  obtain ⟨k0, k1, k2⟩ := T.out.isName.1 hK
  have HK3 := Lib.hid k2
  have k3 := T.out.name_bd k0 k1
  obtain ⟨U, hU⟩ : ∃ U, K % d = U := ⟨_, rfl⟩
  obtain ⟨V, hV⟩ : ∃ V, K / d = V := ⟨_, rfl⟩
  rw [hU, hV] at k3 HK3
  obtain ⟨u1, u2, w3, w4⟩ := k3
  have HU := Lib.hid hU
  have HV := Lib.hid hV
  have gg := T.out.g2
  have HE : Hid (decide (HasL A B ((v1 : Int) - 128) ((v2 : Int) - 128)) = (K == 0)) := Lib.hid (by
    by_cases h : K = 0
    · subst h
      rw [decide_eq_true (T.out.name_zero.1 HK.out)]; rfl
    · rw [decide_eq_false]
      · simpa using h
      · exact fun hh => h (T.out.name_one HK.out (T.out.name_zero.2 hh)))
  have nk : (K != K) = false := by simp
  clear hK k2 hU hV
  go_wp2_with fail
  refine (impl_NameOf_yes T.out _ _ K (by omega) (by omega) (by omega) (by omega) HK.out _).mono ?_
  rintro e w2 ⟨rfl, hb⟩
  have HB2 := Lib.hid (bTrans HB1.out hb)
  have KP2 := Lib.hid (KP1.out.below' hb)
  try clear z c0 c1
  clear hb
  obtain ⟨z, c0, c1⟩ := KP2.out.c2
  go_wp2_with fail
  refine (impl_NameOf_yes T.out _ _ K (by omega) (by omega) (by omega) (by omega) HK2.out _).mono ?_
  rintro e w3 ⟨rfl, hb⟩
  have HB3 := Lib.hid (bTrans HB2.out hb)
  have KP3 := Lib.hid (KP2.out.below' hb)
  try clear z c0 c1
  clear hb
  obtain ⟨z, c0, c1⟩ := KP3.out.c2
  go_wp2_with fail
  refine (impl_HasPoint_yes T.out _ _ _).mono ?_
  rw [decide_eq_true HXY.out]
  rintro e w4 ⟨rfl, hb⟩
  have HB4 := Lib.hid (bTrans HB3.out hb)
  have KP4 := Lib.hid (KP3.out.below' hb)
  try clear z c0 c1
  clear hb
  obtain ⟨z, c0, c1⟩ := KP4.out.c2
  go_wp2_with fail
  refine (impl_NameOf_yes T.out _ _ 0 (by omega) (by omega) (by omega) (by omega) HZ.out _).mono ?_
  rintro e w5 ⟨rfl, hb⟩
  have HB5 := Lib.hid (bTrans HB4.out hb)
  have KP5 := Lib.hid (KP4.out.below' hb)
  try clear z c0 c1
  clear hb
  obtain ⟨z, c0, c1⟩ := KP5.out.c2
  go_wp2_with fail
  refine (impl_PointOf_yes T.out K k0 k1 _).mono ?_
  rw [HU.out, HV.out]
  rintro e w6 ⟨rfl, hb⟩
  have HB6 := Lib.hid (bTrans HB5.out hb)
  have KP6 := Lib.hid (KP5.out.below' hb)
  try clear z c0 c1
  clear hb
  obtain ⟨z, c0, c1⟩ := KP6.out.c2
  go_wp2_with fail
  refine (impl_HasPoint_yes T.out _ _ _).mono ?_
  rw [decide_eq_true HK3.out]
  rintro e w7 ⟨rfl, hb⟩
  have HB7 := Lib.hid (bTrans HB6.out hb)
  have KP7 := Lib.hid (KP6.out.below' hb)
  try clear z c0 c1
  clear hb
  obtain ⟨z, c0, c1⟩ := KP7.out.c2
  go_wp2_with fail
  refine (impl_HasPoint_yes T.out _ _ _).mono ?_
  rw [HE.out]
  rintro e w8 ⟨rfl, hb⟩
  have HB8 := Lib.hid (bTrans HB7.out hb)
  have KP8 := Lib.hid (KP7.out.below' hb)
  try clear z c0 c1
  clear hb
  obtain ⟨z, c0, c1⟩ := KP8.out.c2
  go_wp2_with fail
  go_ret
  exact ⟨ret_bool (by simp), HB8.out⟩

set_option maxHeartbeats 400000 in
theorem big (ad0 : Option Addr) (n0 cap0 : Nat) (w : World) (h : 1048576 < n0) (hl : n0 ≤ 9223372036854775807) :
    Calls Try.prog 3 #[.slice ad0 n0 cap0] w fun e w' => e = .returned (.bool true) ∧ Below w.heap.size w w' := by
  have h2 : (1048576 : Int) < (n0 : Int) := by omega
  go_enter Try.func3, Try.ntmps3
  go_wp2_with fail
  go_ret
  exact ⟨rfl, Below.refl _ _⟩

set_option maxRecDepth 100000 in
theorem lifted (os : Os) (started : os.Started) (H : Type) (enc : TypeId × Value → H) :
    ReturnsInHanded {} Try.checked os 3 .any (Rows.fnLatticeSpec.pre6 enc Try.prog Try.f3 Rows.fnLatticeRow.domain false) (Rows.fnLatticeSpec.post enc Try.prog Try.f3 false true false false) := by
  refine returnsInHanded_of_change (C := Try.checked) own started (by kernel_rfl) Try.func3
    (ChangeSpec.witness6 (enc := enc) (C := Try.checked) false ⟨#[], #[.slice none 0 0], []⟩ 8 (by kernel_rfl) (by kernel_rfl) (by kernel_rfl) (by kernel_rfl)) ?_
  intro W base args ds gs before hval0 hW hcnd _
  have hval : ∀ (j : Nat) t v, Try.f3.params[j]? = some t → args[j]? = some v → Value.okWide Try.prog W .any base t v := hval0
  have hW' := hW
  have hlt := hW.lt
  obtain ⟨p, q, hA0, hV, rfl, hfz, hnd⟩ := hW
  have hA : DataW.TrodAll enc Try.prog W 0 (fun _ => true) true Try.f3.params.toList args.toList ds p := hA0
  rw [Try.params3] at hA hval
  obtain ⟨v0, vs0, d0, ds0, p0, q0, hargs, rfl, rfl, h0, r0⟩ := trodAll_cons hA
  obtain ⟨rfl, rfl, rfl⟩ := trodAll_nil r0
  obtain rfl : args = #[v0] := by cases args; simp_all
  obtain ⟨rfl, rfl⟩ := trodVars_none hV
  clear hA0 hval0
  obtain ⟨ad0, n0, cap0, bs0, rfl, hn0, hr0, hl0⟩ := open_code (hval 0 22 v0 rfl rfl) h0 (fun x hx => hlt x (by simp [hx]))
  have fin : ∀ (e : Ending) W', (e = .returned (.bool true) ∧ Below W.heap.size W W') → ∃ v, e = .returned v ∧ Rows.fnLatticeSpec.post enc Try.prog Try.f3 false true false false W #[.slice ad0 n0 cap0] v W' := by
    rintro e W' ⟨rfl, hb⟩
    exact ⟨_, rfl, law_post rfl rfl hW' (by kernel_rfl) rfl hb⟩
  by_cases hs0 : n0 ≤ 1048576
  case neg => exact (big ad0 n0 cap0 W (by omega) hl0).mono fin
  case pos => exact (ok ad0 n0 cap0 bs0 W hn0 hr0 hs0).mono fin

theorem proved : Rows.FnLatticeSaid :=
  OpenClaim.holds_of_wide 3 Try.f3 rfl rfl rfl rfl rfl rfl rfl ⟨rfl, rfl, rfl, rfl, rfl⟩ rfl rfl rfl rfl rfl (by kernel_rfl) Try.func3 (by kernel_rfl)
    (of_decide_eq_true (by kernel_rfl)) (by unfold Func.isWrapper; first | (rw [if_pos (by decide +kernel)]; kernel_rfl) | (rw [if_neg (by decide +kernel)]; exact ⟨rfl, rfl⟩))
    (fun os started H enc _ => lifted os started H enc)
end Go.Proofs.Ytflegojobchgdaa.lLattice
