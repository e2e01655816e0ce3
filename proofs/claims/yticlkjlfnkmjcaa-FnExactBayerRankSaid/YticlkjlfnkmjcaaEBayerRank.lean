/-
  The exact law of BayerRank: the walk, and the row. laws.FnExactBayerRank returns true for every input: the program answers as the model does, writes into no argument, and its answer owns its memory. No conditions.
-/
import Derived.Test.YticlkjlfnkmjcaaD8
import Derived.Test.YticlkjlfnkmjcaaMat
import Derived.Test.YticlkjlfnkmjcaaFrame
import Derived.Deep.RegionHeld3
namespace Go.Proofs.Yticlkjlfnkmjcaa.xBayerRank
open Go.ChangeShapes Go.WideShapes Go.ChangeAt Go.RowKit
set_option linter.unusedVariables false
set_option linter.unusedSimpArgs false

set_option maxHeartbeats 2000000 in
theorem ok (x0 : Int) (x1 : Int) (x2 : Int) (w : World) (hx0 : InI x0) (hx1 : InI x1) (hx2 : InI x2) :
    Calls Try.prog 7 #[.int .i64 x0, .int .i64 x1, .int .i64 x2] w fun e w' => e = .returned (.bool true) ∧ Below w.heap.size w w' := by
  have hxb0 : -9223372036854775808 ≤ x0 ∧ x0 ≤ 9223372036854775807 := hx0
  obtain ⟨hxl0, hxh0⟩ := hxb0
  clear hx0
  have hxb1 : -9223372036854775808 ≤ x1 ∧ x1 ≤ 9223372036854775807 := hx1
  obtain ⟨hxl1, hxh1⟩ := hxb1
  clear hx1
  have hxb2 : -9223372036854775808 ≤ x2 ∧ x2 ≤ 9223372036854775807 := hx2
  obtain ⟨hxl2, hxh2⟩ := hxb2
  clear hx2
  go_enter Try.func7, Try.ntmps7
  go_wp2_with fail
  refine (spec_BayerRank _ _ _ _ ).mono ?_
  rintro e w1 ⟨rfl, hb⟩
  have HB1 := Lib.hid (bTrans (Below.refl _ _) hb)
  have HZ1 : Hid (w.heap.size + 0 ≤ w1.heap.size) := Lib.hid (by have := hb.size; (try simp at this); omega)
  try clear hb
  go_wp2_with fail
  refine (impl_BayerRank _ _ _ _ ).mono ?_
  rintro e w2 ⟨rfl, hb⟩
  have HB2 := Lib.hid (bTrans HB1.out hb)
  have HZ2 : Hid (w1.heap.size + 0 ≤ w2.heap.size) := Lib.hid (by have := hb.size; (try simp at this); omega)
  try clear hb
  go_wp2_with fail
  go_ret
  exact ⟨rfl, HB2.out⟩

set_option maxRecDepth 100000 in
theorem lifted (os : Os) (started : os.Started) (H : Type) (enc : TypeId × Value → H) :
    ReturnsInHanded {} Try.checked os 7 .any (Rows.fnExactBayerRankSpec.pre6 enc Try.prog Try.f7 Rows.fnExactBayerRankRow.domain false) (Rows.fnExactBayerRankSpec.post enc Try.prog Try.f7 false true false false) := by
  refine returnsInHanded_of_change (C := Try.checked) own started (by kernel_rfl) Try.func7
    (ChangeSpec.witness6 (enc := enc) (C := Try.checked) false ⟨#[], #[.int .i64 0, .int .i64 0, .int .i64 0], []⟩ 8 (by kernel_rfl) (by kernel_rfl) (by kernel_rfl) (by kernel_rfl)) ?_
  intro W base args ds gs before hval0 hW hcnd _
  have hval : ∀ (j : Nat) t v, Try.f7.params[j]? = some t → args[j]? = some v → Value.okWide Try.prog W .any base t v := hval0
  have hW' := hW
  have hlt := hW.lt
  obtain ⟨p, q, hA0, hV, rfl, hfz, hnd⟩ := hW
  have hA : DataW.TrodAll enc Try.prog W 0 (fun _ => true) true Try.f7.params.toList args.toList ds p := hA0
  rw [Try.params7] at hA hval
  obtain ⟨v0, vs0, d0, ds0, p0, q0, hargs, rfl, rfl, h0, r0⟩ := trodAll_cons hA
  obtain ⟨v1, vs1, d1, ds1, p1, q1, rfl, rfl, rfl, h1, r1⟩ := trodAll_cons r0
  obtain ⟨v2, vs2, d2, ds2, p2, q2, rfl, rfl, rfl, h2, r2⟩ := trodAll_cons r1
  obtain ⟨rfl, rfl, rfl⟩ := trodAll_nil r2
  obtain rfl : args = #[v0, v1, v2] := by cases args; simp_all
  obtain ⟨rfl, rfl⟩ := trodVars_none hV
  clear hA0 hval0
  obtain ⟨x0, rfl, rfl, rfl, wx0⟩ := open_int Try.underlying3 (hval 0 3 v0 rfl rfl) h0
  obtain ⟨x1, rfl, rfl, rfl, wx1⟩ := open_int Try.underlying3 (hval 1 3 v1 rfl rfl) h1
  obtain ⟨x2, rfl, rfl, rfl, wx2⟩ := open_int Try.underlying3 (hval 2 3 v2 rfl rfl) h2
  have fin : ∀ (e : Ending) W', (e = .returned (.bool true) ∧ Below W.heap.size W W') → ∃ v, e = .returned v ∧ Rows.fnExactBayerRankSpec.post enc Try.prog Try.f7 false true false false W #[.int .i64 x0, .int .i64 x1, .int .i64 x2] v W' := by
    rintro e W' ⟨rfl, hb⟩
    exact ⟨_, rfl, law_post rfl rfl hW' (by kernel_rfl) rfl hb⟩
  exact (ok x0 x1 x2 W (inI_of_wf wx0) (inI_of_wf wx1) (inI_of_wf wx2)).mono fin

theorem proved : Rows.FnExactBayerRankSaid :=
  OpenClaim.holds_of_wide 7 Try.f7 rfl rfl rfl rfl rfl rfl rfl ⟨rfl, rfl, rfl, rfl, rfl⟩ rfl rfl rfl rfl rfl (by kernel_rfl) Try.func7 (by kernel_rfl)
    (of_decide_eq_true (by kernel_rfl)) (by unfold Func.isWrapper; first | (rw [if_pos (by decide +kernel)]; kernel_rfl) | (rw [if_neg (by decide +kernel)]; exact ⟨rfl, rfl⟩))
    (fun os started H enc _ => lifted os started H enc)
end Go.Proofs.Yticlkjlfnkmjcaa.xBayerRank
