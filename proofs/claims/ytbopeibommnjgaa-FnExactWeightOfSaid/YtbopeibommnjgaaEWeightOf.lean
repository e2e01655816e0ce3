/-
  The exact law of WeightOf: the walk, and the row. laws.FnExactWeightOf returns true for every input: the program answers as the model does, writes into no argument, and its answer owns its memory. No conditions.
-/
import Derived.Test.YtbopeibommnjgaaK5
import Derived.Test.YtbopeibommnjgaaFrameK
namespace Go.Proofs.Ytbopeibommnjgaa.xWeightOf
open Go.ChangeShapes Go.WideShapes Go.ChangeAt Go.RowKit
set_option linter.unusedVariables false
set_option linter.unusedSimpArgs false

set_option maxHeartbeats 400000 in
theorem no0 (ad0 : Option Addr) (n0 cap0 : Nat) (ks0 : List Prt) (w : World) (h1 : 1048576 < (n0 : Int)) (h3 : n0 ≤ 9223372036854775807) :
    Calls Try.prog 4 #[.slice ad0 n0 cap0] w fun e w' => e = .returned (.bool true) ∧ Below w.heap.size w w' := by
  go_enter Try.func4, Try.ntmps4
  go_wp2_with (go_at_call 14; refine (szPart_no _ _ _ _ _ (by omega) (by omega) (by omega) h3).mono ?_; rintro e w1 ⟨rfl, rfl⟩)
  go_ret
  exact ⟨rfl, Below.refl _ _⟩

set_option maxRecDepth 100000 in
set_option maxHeartbeats 2000000 in
theorem ok (ad0 : Option Addr) (n0 cap0 : Nat) (ks0 : List Prt) (w : World) (hn0 : ks0.length = n0) (ha0 : Rd w ad0 (flat ks0)) (hc0 : n0 ≤ cap0) (hsz : (n0 : Int) ≤ 1048576) :
    Calls Try.prog 4 #[.slice ad0 n0 cap0] w fun e w' => e = .returned (.bool true) ∧ Below w.heap.size w w' := by
  have HN0 := Lib.hid hn0
  have HA0 := Lib.hid ha0
  clear hn0 ha0
  go_enter Try.func4, Try.ntmps4
  go_wp2_with fail
  refine (szPart_ok _ _ _ _ _ (by omega) (by omega)).mono ?_
  rintro e wz ⟨rfl, rfl⟩
  go_wp2_with fail
  refine (toParts _ _ _ ks0 _ HN0.out (by exact HA0.out) (by omega)).mono ?_
  rintro e w1 ⟨gs0, rfl, hg, ho, hb⟩
  have HB1 := Lib.hid (bTrans (Below.refl _ _) hb)
  have HZ1 : Hid (w.heap.size ≤ w1.heap.size) := Lib.hid hb.size
  have K1_s0 := Lib.hid (RowA.mk ho hg)
  have R1_s0 := Lib.hid K1_s0.out.bd
  clear hb hg ho
  go_wp2_with fail
  refine (spec_WeightOf _ _ _ ks0 _ HN0.out (by exact K1_s0.out.rd) (by omega) (by omega)).mono ?_
  rintro e w2 ⟨rfl, hb⟩
  have HB2 := Lib.hid (bTrans HB1.out hb)
  have HZ2 : Hid (w1.heap.size ≤ w2.heap.size) := Lib.hid hb.size
  clear K1_s0
  clear hb
  go_wp2_with fail
  refine (toParts _ _ _ ks0 _ HN0.out (by exact HA0.out.below HB2.out) (by omega)).mono ?_
  rintro e w3 ⟨gx0, rfl, hg, ho, hb⟩
  have HB3 := Lib.hid (bTrans HB2.out hb)
  have HZ3 : Hid (w2.heap.size ≤ w3.heap.size) := Lib.hid hb.size
  have K3_x0 := Lib.hid (RowA.mk ho hg)
  have R3_x0 := Lib.hid K3_x0.out.bd
  clear hb hg ho
  go_wp2_with fail
  refine (impl_WeightOf _ _ _ ks0 _ HN0.out (by exact K3_x0.out.rd) (by omega) (by omega)).mono ?_
  rintro e w4 ⟨rfl, hb⟩
  have HB4 := Lib.hid (bTrans HB3.out hb)
  have HZ4 : Hid (w3.heap.size ≤ w4.heap.size) := Lib.hid hb.size
  have K4_x0 := Lib.hid (K3_x0.out.below' hb)
  clear K3_x0
  clear hb
  go_wp2_with fail
  refine (toParts _ _ _ ks0 _ HN0.out (by exact HA0.out.below HB4.out) (by omega)).mono ?_
  rintro e w5 ⟨gt0, rfl, hg, ho, hb⟩
  have HB5 := Lib.hid (bTrans HB4.out hb)
  have HZ5 : Hid (w4.heap.size ≤ w5.heap.size) := Lib.hid hb.size
  have K5_x0 := Lib.hid (K4_x0.out.below' hb)
  clear K4_x0
  have K5_t0 := Lib.hid (RowA.mk ho hg)
  have R5_t0 := Lib.hid K5_t0.out.bd
  clear hb hg ho
  go_wp2_with fail
  refine (eqParts _ _ _ _ _ _ _ _ _ K5_x0.out.len K5_t0.out.len (by exact K5_x0.out.rd) (by exact K5_t0.out.rd) (by omega) (by omega)).mono ?_
  rintro e w6 ⟨rfl, hb⟩
  have HB6 := Lib.hid (bTrans HB5.out hb)
  have HZ6 : Hid (w5.heap.size ≤ w6.heap.size) := Lib.hid hb.size
  have K6_x0 := Lib.hid (K5_x0.out.below' hb)
  clear K5_x0
  have K6_t0 := Lib.hid (K5_t0.out.below' hb)
  clear K5_t0
  clear hb
  go_wp2_with fail
  clear K6_t0
  go_ret
  exact ⟨rfl, HB6.out⟩

set_option maxRecDepth 100000 in
theorem lifted (os : Os) (started : os.Started) (H : Type) (enc : TypeId × Value → H) :
    ReturnsInHanded {} Try.checked os 4 .any (Rows.fnExactWeightOfSpec.pre6 enc Try.prog Try.f4 Rows.fnExactWeightOfRow.domain false) (Rows.fnExactWeightOfSpec.post enc Try.prog Try.f4 false true false false) := by
  refine returnsInHanded_of_change (C := Try.checked) own started (by kernel_rfl) Try.func4
    (ChangeSpec.witness6 (enc := enc) (C := Try.checked) false ⟨#[], #[.slice none 0 0], []⟩ 8 (by kernel_rfl) (by kernel_rfl) (by kernel_rfl) (by kernel_rfl)) ?_
  intro W base args ds gs before hval0 hW hcnd _
  have hval : ∀ (j : Nat) t v, Try.f4.params[j]? = some t → args[j]? = some v → Value.okWide Try.prog W .any base t v := hval0
  have hW' := hW
  have hlt := hW.lt
  obtain ⟨p, q, hA0, hV, rfl, hfz, hnd⟩ := hW
  have hA : DataW.TrodAll enc Try.prog W 0 (fun _ => true) true Try.f4.params.toList args.toList ds p := hA0
  rw [Try.params4] at hA hval
  obtain ⟨v0, vs0, d0, ds0, p0, q0, hargs, rfl, rfl, h0, r0⟩ := trodAll_cons hA
  obtain ⟨rfl, rfl, rfl⟩ := trodAll_nil r0
  obtain rfl : args = #[v0] := by cases args; simp_all
  obtain ⟨rfl, rfl⟩ := trodVars_none hV
  clear hA0 hval0
  obtain ⟨ad0, n0, cap0, ks0, rfl, hn0, hr0, hl0, hc0⟩ := open_lparts (hval 0 22 v0 rfl rfl) h0 (fun x hx => hlt x (by simp [hx]))
  have fin : ∀ (e : Ending) W', (e = .returned (.bool true) ∧ Below W.heap.size W W') → ∃ v, e = .returned v ∧ Rows.fnExactWeightOfSpec.post enc Try.prog Try.f4 false true false false W #[.slice ad0 n0 cap0] v W' := by
    rintro e W' ⟨rfl, hb⟩
    exact ⟨_, rfl, law_post rfl rfl hW' (by kernel_rfl) rfl hb⟩
  by_cases hs0 : (n0 : Int) ≤ 1048576
  case neg => exact (no0 ad0 n0 cap0 ks0 W (by omega) hl0).mono fin
  case pos =>
    exact (ok ad0 n0 cap0 ks0 W hn0 hr0 hc0 hs0).mono fin

theorem proved : Rows.FnExactWeightOfSaid :=
  OpenClaim.holds_of_wide 4 Try.f4 rfl rfl rfl rfl rfl rfl rfl ⟨rfl, rfl, rfl, rfl, rfl⟩ rfl rfl rfl rfl rfl (by kernel_rfl) Try.func4 (by kernel_rfl)
    (of_decide_eq_true (by kernel_rfl)) (by unfold Func.isWrapper; first | (rw [if_pos (by decide +kernel)]; kernel_rfl) | (rw [if_neg (by decide +kernel)]; exact ⟨rfl, rfl⟩))
    (fun os started H enc _ => lifted os started H enc)
end Go.Proofs.Ytbopeibommnjgaa.xWeightOf
