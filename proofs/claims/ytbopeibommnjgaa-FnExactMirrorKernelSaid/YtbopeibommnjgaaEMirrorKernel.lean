/-
  The exact law of MirrorKernel: the walk, and the row. laws.FnExactMirrorKernel returns true for every input: the program answers as the model does, writes into no argument, and its answer owns its memory. No conditions.
-/
import Derived.Test.YtbopeibommnjgaaK8b
import Derived.Test.YtbopeibommnjgaaFrameK
namespace Go.Proofs.Ytbopeibommnjgaa.xMirrorKernel
open Go.ChangeShapes Go.WideShapes Go.ChangeAt Go.RowKit
set_option linter.unusedVariables false
set_option linter.unusedSimpArgs false

set_option maxHeartbeats 400000 in
theorem no0 (ad0 : Option Addr) (n0 cap0 : Nat) (ks0 : List Prt) (w : World) (h1 : 1048576 < (n0 : Int)) (h3 : n0 ≤ 9223372036854775807) :
    Calls Try.prog 10 #[.slice ad0 n0 cap0] w fun e w' => e = .returned (.bool true) ∧ Below w.heap.size w w' := by
  go_enter Try.func10, Try.ntmps10
  go_wp2_with (go_at_call 14; refine (szPart_no _ _ _ _ _ (by omega) (by omega) (by omega) h3).mono ?_; rintro e w1 ⟨rfl, rfl⟩)
  go_ret
  exact ⟨rfl, Below.refl _ _⟩

set_option maxRecDepth 100000 in
set_option maxHeartbeats 2000000 in
theorem ok (ad0 : Option Addr) (n0 cap0 : Nat) (ks0 : List Prt) (w : World) (hn0 : ks0.length = n0) (ha0 : Rd w ad0 (flat ks0)) (hc0 : n0 ≤ cap0) (hsz : (n0 : Int) ≤ 1048576) :
    Calls Try.prog 10 #[.slice ad0 n0 cap0] w fun e w' => e = .returned (.bool true) ∧ Below w.heap.size w w' := by
  have HN0 := Lib.hid hn0
  have HA0 := Lib.hid ha0
  clear hn0 ha0
  go_enter Try.func10, Try.ntmps10
  go_wp2_with fail
  refine (szPart_ok _ _ _ _ _ (by omega) (by omega)).mono ?_
  rintro e wz ⟨rfl, rfl⟩
  go_wp2_with fail
  refine (toParts _ _ _ ks0 _ HN0.out (by exact HA0.out) (by omega)).mono ?_
  rintro e w1 ⟨gs0, rfl, hg, ho, hb⟩
  have HB1 := Lib.hid (bTrans (Below.refl _ _) hb)
  have HZ1 : Hid (w.heap.size ≤ w1.heap.size) := Lib.hid hb.size
  have K1_s0 := Lib.hid (RowA.mk ho hg)
  have R1_s0 := Lib.hid K1_s0.out.bd
  clear hb hg ho
  go_wp2_with fail
  refine (spec_MirrorKernel _ _ _ ks0 _ HN0.out (by exact K1_s0.out.rd) (by omega) (by omega)).mono ?_
  rintro e w2 ⟨aw0, nw0, cw0, rfl, ho, hnw0, hb⟩
  have HB2 := Lib.hid (bTrans HB1.out hb)
  have HZ2 : Hid (w1.heap.size ≤ w2.heap.size) := Lib.hid hb.size
  have K2_s0 := Lib.hid (K1_s0.out.below' hb)
  clear K1_s0
  have K2_w0 := Lib.hid (ho)
  have R2_w0 := Lib.hid K2_w0.out.bd
  clear hb ho
  go_wp2_with fail
  clear K2_s0
  refine (toParts _ _ _ ks0 _ HN0.out (by exact HA0.out.below HB2.out) (by omega)).mono ?_
  rintro e w3 ⟨gx0, rfl, hg, ho, hb⟩
  have HB3 := Lib.hid (bTrans HB2.out hb)
  have HZ3 : Hid (w2.heap.size ≤ w3.heap.size) := Lib.hid hb.size
  have K3_w0 := Lib.hid (K2_w0.out.below' hb)
  clear K2_w0
  have K3_x0 := Lib.hid (RowA.mk ho hg)
  have R3_x0 := Lib.hid K3_x0.out.bd
  clear hb hg ho
  go_wp2_with fail
  refine (impl_MirrorKernel _ _ _ ks0 _ HN0.out (by exact K3_x0.out.rd) (by omega) (by omega)).mono ?_
  rintro e w4 ⟨ag0, ng0, cg0, rfl, ho, hng0, hb⟩
  have HB4 := Lib.hid (bTrans HB3.out hb)
  have HZ4 : Hid (w3.heap.size ≤ w4.heap.size) := Lib.hid hb.size
  have K4_w0 := Lib.hid (K3_w0.out.below' hb)
  clear K3_w0
  have K4_x0 := Lib.hid (K3_x0.out.below' hb)
  clear K3_x0
  have K4_g0 := Lib.hid (ho)
  have R4_g0 := Lib.hid K4_g0.out.bd
  clear hb ho
  go_wp2_with fail
  refine (eqParts _ _ _ _ _ _ _ _ _ K4_g0.out.len K4_w0.out.len (by exact K4_g0.out.rd) (by exact K4_w0.out.rd) (by omega) (by omega)).mono ?_
  rintro e w5 ⟨rfl, hb⟩
  have HB5 := Lib.hid (bTrans HB4.out hb)
  have HZ5 : Hid (w4.heap.size ≤ w5.heap.size) := Lib.hid hb.size
  have K5_w0 := Lib.hid (K4_w0.out.below' hb)
  clear K4_w0
  have K5_x0 := Lib.hid (K4_x0.out.below' hb)
  clear K4_x0
  have K5_g0 := Lib.hid (K4_g0.out.below' hb)
  clear K4_g0
  clear hb
  go_wp2_with fail
  refine (toParts _ _ _ ks0 _ HN0.out (by exact HA0.out.below HB5.out) (by omega)).mono ?_
  rintro e w6 ⟨gt0, rfl, hg, ho, hb⟩
  have HB6 := Lib.hid (bTrans HB5.out hb)
  have HZ6 : Hid (w5.heap.size ≤ w6.heap.size) := Lib.hid hb.size
  have K6_w0 := Lib.hid (K5_w0.out.below' hb)
  clear K5_w0
  have K6_x0 := Lib.hid (K5_x0.out.below' hb)
  clear K5_x0
  have K6_g0 := Lib.hid (K5_g0.out.below' hb)
  clear K5_g0
  have K6_t0 := Lib.hid (RowA.mk ho hg)
  have R6_t0 := Lib.hid K6_t0.out.bd
  clear hb hg ho
  go_wp2_with fail
  refine (eqParts _ _ _ _ _ _ _ _ _ K6_x0.out.len K6_t0.out.len (by exact K6_x0.out.rd) (by exact K6_t0.out.rd) (by omega) (by omega)).mono ?_
  rintro e w7 ⟨rfl, hb⟩
  have HB7 := Lib.hid (bTrans HB6.out hb)
  have HZ7 : Hid (w6.heap.size ≤ w7.heap.size) := Lib.hid hb.size
  have K7_w0 := Lib.hid (K6_w0.out.below' hb)
  clear K6_w0
  have K7_x0 := Lib.hid (K6_x0.out.below' hb)
  clear K6_x0
  have K7_g0 := Lib.hid (K6_g0.out.below' hb)
  clear K6_g0
  have K7_t0 := Lib.hid (K6_t0.out.below' hb)
  clear K6_t0
  clear hb
  go_wp2_with fail
  clear K7_t0
  refine (markParts _ _ _ _ (1) _ _ (by exact K7_x0.out) (by omega) (by omega)).mono ?_
  rintro e w8 ⟨rfl, ho, hb⟩
  have HB8 := Lib.hid (Below.grown HB7.out hb HB7.out.size (by intro b hb1; have := R3_x0.out b hb1; have := HZ1.out; have := HZ2.out; have := HZ3.out; have := HZ4.out; have := HZ5.out; have := HZ6.out; have := HZ7.out; omega))
  have HZ8 : Hid (w7.heap.size ≤ w8.heap.size) := Lib.hid hb.size
  have K8_w0 := Lib.hid (K7_w0.out.grownS hb (by intro b hb1 hb2; have := R3_x0.out b hb1; have := R2_w0.out b hb2; have := HZ1.out; have := HZ2.out; have := HZ3.out; have := HZ4.out; have := HZ5.out; have := HZ6.out; have := HZ7.out; omega))
  clear K7_w0
  have K8_x0 := Lib.hid ho
  clear K7_x0
  have K8_g0 := Lib.hid (K7_g0.out.grownS hb (by intro b hb1 hb2; have := R3_x0.out b hb1; have := R4_g0.out b hb2; have := HZ1.out; have := HZ2.out; have := HZ3.out; have := HZ4.out; have := HZ5.out; have := HZ6.out; have := HZ7.out; omega))
  clear K7_g0
  clear ho hb
  go_wp2_with fail
  refine (eqParts _ _ _ _ _ _ _ _ _ K8_g0.out.len K8_w0.out.len (by exact K8_g0.out.rd) (by exact K8_w0.out.rd) (by omega) (by omega)).mono ?_
  rintro e w9 ⟨rfl, hb⟩
  have HB9 := Lib.hid (bTrans HB8.out hb)
  have HZ9 : Hid (w8.heap.size ≤ w9.heap.size) := Lib.hid hb.size
  have K9_w0 := Lib.hid (K8_w0.out.below' hb)
  clear K8_w0
  have K9_x0 := Lib.hid (K8_x0.out.below' hb)
  clear K8_x0
  have K9_g0 := Lib.hid (K8_g0.out.below' hb)
  clear K8_g0
  clear hb
  go_wp2_with fail
  clear K9_x0
  refine (markParts _ _ _ _ (1) _ _ (by exact K9_g0.out) (by omega) (by omega)).mono ?_
  rintro e w10 ⟨rfl, ho, hb⟩
  have HB10 := Lib.hid (Below.grown HB9.out hb HB9.out.size (by intro b hb1; have := R4_g0.out b hb1; have := HZ1.out; have := HZ2.out; have := HZ3.out; have := HZ4.out; have := HZ5.out; have := HZ6.out; have := HZ7.out; have := HZ8.out; have := HZ9.out; omega))
  have HZ10 : Hid (w9.heap.size ≤ w10.heap.size) := Lib.hid hb.size
  have K10_w0 := Lib.hid (K9_w0.out.grownS hb (by intro b hb1 hb2; have := R4_g0.out b hb1; have := R2_w0.out b hb2; have := HZ1.out; have := HZ2.out; have := HZ3.out; have := HZ4.out; have := HZ5.out; have := HZ6.out; have := HZ7.out; have := HZ8.out; have := HZ9.out; omega))
  clear K9_w0
  have K10_g0 := Lib.hid ho
  clear K9_g0
  clear ho hb
  go_wp2_with fail
  refine (heldParts _ _ _ 1 _ (by exact K10_g0.out.rd) (by omega) (by omega)).mono ?_
  rintro e w11 ⟨rfl, hb⟩
  have HB11 := Lib.hid (bTrans HB10.out hb)
  have HZ11 : Hid (w10.heap.size ≤ w11.heap.size) := Lib.hid hb.size
  have K11_w0 := Lib.hid (K10_w0.out.below' hb)
  clear K10_w0
  have K11_g0 := Lib.hid (K10_g0.out.below' hb)
  clear K10_g0
  clear hb
  go_wp2_with fail
  refine (toParts _ _ _ ks0 _ HN0.out (by exact HA0.out.below HB11.out) (by omega)).mono ?_
  rintro e w12 ⟨gu0, rfl, hg, ho, hb⟩
  have HB12 := Lib.hid (bTrans HB11.out hb)
  have HZ12 : Hid (w11.heap.size ≤ w12.heap.size) := Lib.hid hb.size
  have K12_w0 := Lib.hid (K11_w0.out.below' hb)
  clear K11_w0
  have K12_g0 := Lib.hid (K11_g0.out.below' hb)
  clear K11_g0
  have K12_u0 := Lib.hid (RowA.mk ho hg)
  have R12_u0 := Lib.hid K12_u0.out.bd
  clear hb hg ho
  go_wp2_with fail
  refine (impl_MirrorKernel _ _ _ ks0 _ HN0.out (by exact K12_u0.out.rd) (by omega) (by omega)).mono ?_
  rintro e w13 ⟨ah0, nh0, ch0, rfl, ho, hnh0, hb⟩
  have HB13 := Lib.hid (bTrans HB12.out hb)
  have HZ13 : Hid (w12.heap.size ≤ w13.heap.size) := Lib.hid hb.size
  have K13_w0 := Lib.hid (K12_w0.out.below' hb)
  clear K12_w0
  have K13_g0 := Lib.hid (K12_g0.out.below' hb)
  clear K12_g0
  have K13_u0 := Lib.hid (K12_u0.out.below' hb)
  clear K12_u0
  have K13_h0 := Lib.hid (ho)
  have R13_h0 := Lib.hid K13_h0.out.bd
  clear hb ho
  go_wp2_with fail
  refine (eqParts _ _ _ _ _ _ _ _ _ K13_h0.out.len K13_w0.out.len (by exact K13_h0.out.rd) (by exact K13_w0.out.rd) (by omega) (by omega)).mono ?_
  rintro e w14 ⟨rfl, hb⟩
  have HB14 := Lib.hid (bTrans HB13.out hb)
  have HZ14 : Hid (w13.heap.size ≤ w14.heap.size) := Lib.hid hb.size
  have K14_w0 := Lib.hid (K13_w0.out.below' hb)
  clear K13_w0
  have K14_g0 := Lib.hid (K13_g0.out.below' hb)
  clear K13_g0
  have K14_u0 := Lib.hid (K13_u0.out.below' hb)
  clear K13_u0
  have K14_h0 := Lib.hid (K13_h0.out.below' hb)
  clear K13_h0
  clear hb
  go_wp2_with fail
  refine (heldParts _ _ _ 1 _ (by exact K14_g0.out.rd) (by omega) (by omega)).mono ?_
  rintro e w15 ⟨rfl, hb⟩
  have HB15 := Lib.hid (bTrans HB14.out hb)
  have HZ15 : Hid (w14.heap.size ≤ w15.heap.size) := Lib.hid hb.size
  have K15_w0 := Lib.hid (K14_w0.out.below' hb)
  clear K14_w0
  have K15_g0 := Lib.hid (K14_g0.out.below' hb)
  clear K14_g0
  have K15_u0 := Lib.hid (K14_u0.out.below' hb)
  clear K14_u0
  have K15_h0 := Lib.hid (K14_h0.out.below' hb)
  clear K14_h0
  clear hb
  go_wp2_with fail
  go_ret
  exact ⟨rfl, HB15.out⟩

set_option maxRecDepth 100000 in
theorem lifted (os : Os) (started : os.Started) (H : Type) (enc : TypeId × Value → H) :
    ReturnsInHanded {} Try.checked os 10 .any (Rows.fnExactMirrorKernelSpec.pre6 enc Try.prog Try.f10 Rows.fnExactMirrorKernelRow.domain false) (Rows.fnExactMirrorKernelSpec.post enc Try.prog Try.f10 false true false false) := by
  refine returnsInHanded_of_change (C := Try.checked) own started (by kernel_rfl) Try.func10
    (ChangeSpec.witness6 (enc := enc) (C := Try.checked) false ⟨#[], #[.slice none 0 0], []⟩ 8 (by kernel_rfl) (by kernel_rfl) (by kernel_rfl) (by kernel_rfl)) ?_
  intro W base args ds gs before hval0 hW hcnd _
  have hval : ∀ (j : Nat) t v, Try.f10.params[j]? = some t → args[j]? = some v → Value.okWide Try.prog W .any base t v := hval0
  have hW' := hW
  have hlt := hW.lt
  obtain ⟨p, q, hA0, hV, rfl, hfz, hnd⟩ := hW
  have hA : DataW.TrodAll enc Try.prog W 0 (fun _ => true) true Try.f10.params.toList args.toList ds p := hA0
  rw [Try.params10] at hA hval
  obtain ⟨v0, vs0, d0, ds0, p0, q0, hargs, rfl, rfl, h0, r0⟩ := trodAll_cons hA
  obtain ⟨rfl, rfl, rfl⟩ := trodAll_nil r0
  obtain rfl : args = #[v0] := by cases args; simp_all
  obtain ⟨rfl, rfl⟩ := trodVars_none hV
  clear hA0 hval0
  obtain ⟨ad0, n0, cap0, ks0, rfl, hn0, hr0, hl0, hc0⟩ := open_lparts (hval 0 22 v0 rfl rfl) h0 (fun x hx => hlt x (by simp [hx]))
  have fin : ∀ (e : Ending) W', (e = .returned (.bool true) ∧ Below W.heap.size W W') → ∃ v, e = .returned v ∧ Rows.fnExactMirrorKernelSpec.post enc Try.prog Try.f10 false true false false W #[.slice ad0 n0 cap0] v W' := by
    rintro e W' ⟨rfl, hb⟩
    exact ⟨_, rfl, law_post rfl rfl hW' (by kernel_rfl) rfl hb⟩
  by_cases hs0 : (n0 : Int) ≤ 1048576
  case neg => exact (no0 ad0 n0 cap0 ks0 W (by omega) hl0).mono fin
  case pos =>
    exact (ok ad0 n0 cap0 ks0 W hn0 hr0 hc0 hs0).mono fin

theorem proved : Rows.FnExactMirrorKernelSaid :=
  OpenClaim.holds_of_wide 10 Try.f10 rfl rfl rfl rfl rfl rfl rfl ⟨rfl, rfl, rfl, rfl, rfl⟩ rfl rfl rfl rfl rfl (by kernel_rfl) Try.func10 (by kernel_rfl)
    (of_decide_eq_true (by kernel_rfl)) (by unfold Func.isWrapper; first | (rw [if_pos (by decide +kernel)]; kernel_rfl) | (rw [if_neg (by decide +kernel)]; exact ⟨rfl, rfl⟩))
    (fun os started H enc _ => lifted os started H enc)
end Go.Proofs.Ytbopeibommnjgaa.xMirrorKernel
