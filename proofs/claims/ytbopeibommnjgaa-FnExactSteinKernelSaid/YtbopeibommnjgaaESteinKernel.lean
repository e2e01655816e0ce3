/-
  The exact law of SteinKernel: the walk, and the row. laws.FnExactSteinKernel returns true for every input: the program answers as the model does, writes into no argument, and its answer owns its memory. No conditions.
-/
import Derived.Test.YtbopeibommnjgaaK5
import Derived.Test.YtbopeibommnjgaaK6
import Derived.Test.YtbopeibommnjgaaFrameK
namespace Go.Proofs.Ytbopeibommnjgaa.xSteinKernel
open Go.ChangeShapes Go.WideShapes Go.ChangeAt Go.RowKit
set_option linter.unusedVariables false
set_option linter.unusedSimpArgs false

set_option maxRecDepth 100000 in
set_option maxHeartbeats 2000000 in
theorem ok  (w : World)  :
    Calls Try.prog 5 #[] w fun e w' => e = .returned (.bool true) ∧ Below w.heap.size w w' := by
  go_enter Try.func5, Try.ntmps5
  go_wp2_with fail
  refine (spec_SteinKernelA  _ ).mono ?_
  rintro e w1 ⟨aw0, nw0, cw0, rfl, ho, hnw0, hb⟩
  have HB1 := Lib.hid (bTrans (Below.refl _ _) hb)
  have HZ1 : Hid (w.heap.size ≤ w1.heap.size) := Lib.hid hb.size
  have K1_w0 := Lib.hid (ho)
  have R1_w0 := Lib.hid K1_w0.out.bd
  clear hb ho
  go_wp2_with fail
  refine (impl_SteinKernelA  _ ).mono ?_
  rintro e w2 ⟨ag0, ng0, cg0, rfl, ho, hng0, hb⟩
  have HB2 := Lib.hid (bTrans HB1.out hb)
  have HZ2 : Hid (w1.heap.size ≤ w2.heap.size) := Lib.hid hb.size
  have K2_w0 := Lib.hid (K1_w0.out.below' hb)
  clear K1_w0
  have K2_g0 := Lib.hid (ho)
  have R2_g0 := Lib.hid K2_g0.out.bd
  clear hb ho
  go_wp2_with fail
  refine (eqParts _ _ _ _ _ _ _ _ _ K2_g0.out.len K2_w0.out.len (by exact K2_g0.out.rd) (by exact K2_w0.out.rd) (by omega) (by omega)).mono ?_
  rintro e w3 ⟨rfl, hb⟩
  have HB3 := Lib.hid (bTrans HB2.out hb)
  have HZ3 : Hid (w2.heap.size ≤ w3.heap.size) := Lib.hid hb.size
  have K3_w0 := Lib.hid (K2_w0.out.below' hb)
  clear K2_w0
  have K3_g0 := Lib.hid (K2_g0.out.below' hb)
  clear K2_g0
  clear hb
  go_wp2_with fail
  refine (markParts _ _ _ _ (1) _ _ (by exact K3_g0.out) (by omega) (by omega)).mono ?_
  rintro e w4 ⟨rfl, ho, hb⟩
  have HB4 := Lib.hid (Below.grown HB3.out hb HB3.out.size (by intro b hb1; have := R2_g0.out b hb1; have := HZ1.out; have := HZ2.out; have := HZ3.out; omega))
  have HZ4 : Hid (w3.heap.size ≤ w4.heap.size) := Lib.hid hb.size
  have K4_w0 := Lib.hid (K3_w0.out.grownS hb (by intro b hb1 hb2; have := R2_g0.out b hb1; have := R1_w0.out b hb2; have := HZ1.out; have := HZ2.out; have := HZ3.out; omega))
  clear K3_w0
  have K4_g0 := Lib.hid ho
  clear K3_g0
  clear ho hb
  go_wp2_with fail
  refine (heldParts _ _ _ 1 _ (by exact K4_g0.out.rd) (by omega) (by omega)).mono ?_
  rintro e w5 ⟨rfl, hb⟩
  have HB5 := Lib.hid (bTrans HB4.out hb)
  have HZ5 : Hid (w4.heap.size ≤ w5.heap.size) := Lib.hid hb.size
  have K5_w0 := Lib.hid (K4_w0.out.below' hb)
  clear K4_w0
  have K5_g0 := Lib.hid (K4_g0.out.below' hb)
  clear K4_g0
  clear hb
  go_wp2_with fail
  refine (impl_SteinKernelA  _ ).mono ?_
  rintro e w6 ⟨ah0, nh0, ch0, rfl, ho, hnh0, hb⟩
  have HB6 := Lib.hid (bTrans HB5.out hb)
  have HZ6 : Hid (w5.heap.size ≤ w6.heap.size) := Lib.hid hb.size
  have K6_w0 := Lib.hid (K5_w0.out.below' hb)
  clear K5_w0
  have K6_g0 := Lib.hid (K5_g0.out.below' hb)
  clear K5_g0
  have K6_h0 := Lib.hid (ho)
  have R6_h0 := Lib.hid K6_h0.out.bd
  clear hb ho
  go_wp2_with fail
  refine (eqParts _ _ _ _ _ _ _ _ _ K6_h0.out.len K6_w0.out.len (by exact K6_h0.out.rd) (by exact K6_w0.out.rd) (by omega) (by omega)).mono ?_
  rintro e w7 ⟨rfl, hb⟩
  have HB7 := Lib.hid (bTrans HB6.out hb)
  have HZ7 : Hid (w6.heap.size ≤ w7.heap.size) := Lib.hid hb.size
  have K7_w0 := Lib.hid (K6_w0.out.below' hb)
  clear K6_w0
  have K7_g0 := Lib.hid (K6_g0.out.below' hb)
  clear K6_g0
  have K7_h0 := Lib.hid (K6_h0.out.below' hb)
  clear K6_h0
  clear hb
  go_wp2_with fail
  refine (heldParts _ _ _ 1 _ (by exact K7_g0.out.rd) (by omega) (by omega)).mono ?_
  rintro e w8 ⟨rfl, hb⟩
  have HB8 := Lib.hid (bTrans HB7.out hb)
  have HZ8 : Hid (w7.heap.size ≤ w8.heap.size) := Lib.hid hb.size
  have K8_w0 := Lib.hid (K7_w0.out.below' hb)
  clear K7_w0
  have K8_g0 := Lib.hid (K7_g0.out.below' hb)
  clear K7_g0
  have K8_h0 := Lib.hid (K7_h0.out.below' hb)
  clear K7_h0
  clear hb
  go_wp2_with fail
  go_ret
  exact ⟨rfl, HB8.out⟩

set_option maxRecDepth 100000 in
theorem lifted (os : Os) (started : os.Started) (H : Type) (enc : TypeId × Value → H) :
    ReturnsInHanded {} Try.checked os 5 .any (Rows.fnExactSteinKernelSpec.pre6 enc Try.prog Try.f5 Rows.fnExactSteinKernelRow.domain false) (Rows.fnExactSteinKernelSpec.post enc Try.prog Try.f5 false true false false) := by
  refine returnsInHanded_of_change (C := Try.checked) own started (by kernel_rfl) Try.func5
    (ChangeSpec.witness6 (enc := enc) (C := Try.checked) false ⟨#[], #[], []⟩ 8 (by kernel_rfl) (by kernel_rfl) (by kernel_rfl) (by kernel_rfl)) ?_
  intro W base args ds gs before hval0 hW hcnd _
  have hval : ∀ (j : Nat) t v, Try.f5.params[j]? = some t → args[j]? = some v → Value.okWide Try.prog W .any base t v := hval0
  have hW' := hW
  have hlt := hW.lt
  obtain ⟨p, q, hA0, hV, rfl, hfz, hnd⟩ := hW
  have hA : DataW.TrodAll enc Try.prog W 0 (fun _ => true) true Try.f5.params.toList args.toList ds p := hA0
  rw [Try.params5] at hA hval
  obtain ⟨hargs, rfl, rfl⟩ := trodAll_nil hA
  obtain rfl : args = #[] := by cases args; simp_all
  obtain ⟨rfl, rfl⟩ := trodVars_none hV
  clear hA0 hval0
  have fin : ∀ (e : Ending) W', (e = .returned (.bool true) ∧ Below W.heap.size W W') → ∃ v, e = .returned v ∧ Rows.fnExactSteinKernelSpec.post enc Try.prog Try.f5 false true false false W #[] v W' := by
    rintro e W' ⟨rfl, hb⟩
    exact ⟨_, rfl, law_post rfl rfl hW' (by kernel_rfl) rfl hb⟩
  exact (ok W ).mono fin

theorem proved : Rows.FnExactSteinKernelSaid :=
  OpenClaim.holds_of_wide 5 Try.f5 rfl rfl rfl rfl rfl rfl rfl ⟨rfl, rfl, rfl, rfl, rfl⟩ rfl rfl rfl rfl rfl (by kernel_rfl) Try.func5 (by kernel_rfl)
    (of_decide_eq_true (by kernel_rfl)) (by unfold Func.isWrapper; first | (rw [if_pos (by decide +kernel)]; kernel_rfl) | (rw [if_neg (by decide +kernel)]; exact ⟨rfl, rfl⟩))
    (fun os started H enc _ => lifted os started H enc)
end Go.Proofs.Ytbopeibommnjgaa.xSteinKernel
