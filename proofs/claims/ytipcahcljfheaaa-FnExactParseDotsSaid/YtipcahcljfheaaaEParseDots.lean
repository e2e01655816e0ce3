/-
  The exact law of ParseDots: the walk, and the row. laws.FnExactParseDots returns true for every input: the program answers as the model does, writes into no argument, and its answer owns its memory. No conditions.
-/
import Derived.Test.YtipcahcljfheaaaW31
import Derived.Test.YtipcahcljfheaaaW29
import Derived.Test.YtipcahcljfheaaaPic
import Derived.Test.YtipcahcljfheaaaT4
import Derived.Test.YtipcahcljfheaaaCut
import Derived.Test.YtipcahcljfheaaaFrameP
import Derived.ChangeMaps5
namespace Go.Proofs.Ytipcahcljfheaaa.xParseDots
open Go.ChangeShapes Go.WideShapes Go.ChangeAt Go.RowKit
set_option linter.unusedVariables false
set_option linter.unusedSimpArgs false

set_option maxRecDepth 100000 in
set_option maxHeartbeats 400000 in
theorem no0 (s0 : ByteArray) (w : World)  (h1 : 1048576 < (s0.size : Int))  :
    Calls Try.prog 5 #[.string s0] w fun e w' => e = .returned (.bool true) ∧ Below w.heap.size w w' := by
  go_enter Try.func5, Try.ntmps5
  go_wp2_with fail
  go_ret
  exact ⟨rfl, Below.refl _ _⟩

set_option maxRecDepth 100000 in
set_option maxHeartbeats 4000000 in
theorem ok (s0 : ByteArray) (w : World)  (b0 : (s0.size : Int) ≤ 1048576) :
    Calls Try.prog 5 #[.string s0] w fun e w' => e = .returned (.bool true) ∧ Below w.heap.size w w' := by
  go_enter Try.func5, Try.ntmps5
  go_wp2_with fail
  refine (spec_ParseDots s0 _ (by omega)).mono ?_
  rintro e w1 ⟨aw0, nw0, cw0, rfl, ho, hnw0, hb⟩
  have HB1 := Lib.hid (bTrans (Below.refl _ _) hb)
  have HZ1 : Hid (w.heap.size + 0 ≤ w1.heap.size) := Lib.hid (by have := hb.size; (try simp at this); omega)
  have K1_w0 := Lib.hid (OwnA.mono (B' := w.heap.size + 0) ho (by first | (simp; done) | (simp; omega)))
  have R1_w0 := Lib.hid K1_w0.out.bd
  clear hb ho
  go_wp2_with fail
  refine (impl_ParseDots s0 _ (by omega)).mono ?_
  rintro e w2 ⟨ag0, ng0, cg0, rfl, ho, hng0, hb⟩
  have HB2 := Lib.hid (bTrans (bAlloc HB1.out _) hb)
  have HZ2 : Hid (w1.heap.size + 1 ≤ w2.heap.size) := Lib.hid (by have := hb.size; (try simp at this); omega)
  have K2_w0 := Lib.hid ((K1_w0.out.alloc _).below' hb)
  clear K1_w0
  have K2_bw0 : Hid (Blk w2 (w1.heap.size) 25 #[.int .i64 (parseF (bytesS s0)).1.W, .int .i64 (parseF (bytesS s0)).1.H, .slice aw0 nw0 cw0]) := Lib.hid ((Blk.new' (g := w1.heap.size) 25 #[.int .i64 (parseF (bytesS s0)).1.W, .int .i64 (parseF (bytesS s0)).1.H, .slice aw0 nw0 cw0] (by simp)).below' hb)
  have K2_g0 := Lib.hid (OwnA.mono (B' := w1.heap.size + 1) ho (by first | (simp; done) | (simp; omega)))
  have R2_g0 := Lib.hid K2_g0.out.bd
  clear hb ho
  obtain ⟨lzbw0, cabw0, cbbw0, ccbw0⟩ := K2_bw0.out.c3
  go_wp2_with fail
  refine (eqPic _ _ _ _ _ _ _ _ _ _ _ _ _ K2_g0.out.len K2_w0.out.len (by exact (K2_g0.out.alloc _).rd) (by exact (K2_w0.out.alloc _).rd) (by omega) (by omega)).mono ?_
  rintro e w3 ⟨rfl, hb⟩
  have HB3 := Lib.hid (bTrans (bAlloc HB2.out _) hb)
  have HZ3 : Hid (w2.heap.size + 1 ≤ w3.heap.size) := Lib.hid (by have := hb.size; (try simp at this); omega)
  have K3_w0 := Lib.hid ((K2_w0.out.alloc _).below' hb)
  clear K2_w0
  have K3_bw0 := Lib.hid ((K2_bw0.out.alloc _).below' hb)
  clear K2_bw0
  have K3_g0 := Lib.hid ((K2_g0.out.alloc _).below' hb)
  clear K2_g0
  have K3_bg0 : Hid (Blk w3 (w2.heap.size) 25 #[.int .i64 (parseF (bytesS s0)).1.W, .int .i64 (parseF (bytesS s0)).1.H, .slice ag0 ng0 cg0]) := Lib.hid ((Blk.new' (g := w2.heap.size) 25 #[.int .i64 (parseF (bytesS s0)).1.W, .int .i64 (parseF (bytesS s0)).1.H, .slice ag0 ng0 cg0] (by simp)).below' hb)
  clear hb
  clear lzbw0
  clear cabw0
  clear cbbw0
  clear ccbw0
  obtain ⟨lzbg0, cabg0, cbbg0, ccbg0⟩ := K3_bg0.out.c3
  go_wp2_with fail
  refine (markPic _ _ _ _ _ _ (1) _ _ (by exact K3_g0.out) (by omega) (by omega)).mono ?_
  rintro e w4 ⟨rfl, ho, hb⟩
  have HB4 := Lib.hid (Below.grown HB3.out hb HB3.out.size (by intro b hb1; have := R2_g0.out b hb1; have := HZ1.out; have := HZ2.out; have := HZ3.out; omega))
  have HZ4 : Hid (w3.heap.size + 0 ≤ w4.heap.size) := Lib.hid hb.size
  have K4_w0 := Lib.hid (K3_w0.out.grownS hb (by intro b hb1 hb2; have := R2_g0.out b hb1; have := R1_w0.out b hb2; have := HZ1.out; have := HZ2.out; have := HZ3.out; omega))
  clear K3_w0
  have K4_bw0 := Lib.hid (K3_bw0.out.grownS hb (by intro b hb1; have := R2_g0.out b hb1; have := HZ1.out; have := HZ2.out; have := HZ3.out; omega))
  clear K3_bw0
  have K4_g0 := Lib.hid ho
  clear K3_g0
  have K4_bg0 := Lib.hid (K3_bg0.out.grownS hb (by intro b hb1; have := R2_g0.out b hb1; have := HZ1.out; have := HZ2.out; have := HZ3.out; omega))
  clear K3_bg0
  clear ho hb
  clear lzbg0
  clear cabg0
  clear cbbg0
  clear ccbg0
  obtain ⟨lzbg0, cabg0, cbbg0, ccbg0⟩ := K4_bg0.out.c3
  go_wp2_with fail
  refine (heldPic _ _ _ _ _ 1 _ (by exact K4_g0.out.rd) (by omega) (by omega)).mono ?_
  rintro e w5 ⟨rfl, hb⟩
  have HB5 := Lib.hid (bTrans HB4.out hb)
  have HZ5 : Hid (w4.heap.size + 0 ≤ w5.heap.size) := Lib.hid (by have := hb.size; (try simp at this); omega)
  have K5_w0 := Lib.hid (K4_w0.out.below' hb)
  clear K4_w0
  have K5_bw0 := Lib.hid (K4_bw0.out.below' hb)
  clear K4_bw0
  have K5_g0 := Lib.hid (K4_g0.out.below' hb)
  clear K4_g0
  have K5_bg0 := Lib.hid (K4_bg0.out.below' hb)
  clear K4_bg0
  clear hb
  clear lzbg0
  clear cabg0
  clear cbbg0
  clear ccbg0
  go_wp2_with fail
  refine (impl_ParseDots s0 _ (by omega)).mono ?_
  rintro e w6 ⟨ah0, nh0, ch0, rfl, ho, hnh0, hb⟩
  have HB6 := Lib.hid (bTrans HB5.out hb)
  have HZ6 : Hid (w5.heap.size + 0 ≤ w6.heap.size) := Lib.hid (by have := hb.size; (try simp at this); omega)
  have K6_w0 := Lib.hid (K5_w0.out.below' hb)
  clear K5_w0
  have K6_bw0 := Lib.hid (K5_bw0.out.below' hb)
  clear K5_bw0
  have K6_g0 := Lib.hid (K5_g0.out.below' hb)
  clear K5_g0
  have K6_bg0 := Lib.hid (K5_bg0.out.below' hb)
  clear K5_bg0
  have K6_h0 := Lib.hid (OwnA.mono (B' := w5.heap.size + 0) ho (by first | (simp; done) | (simp; omega)))
  have R6_h0 := Lib.hid K6_h0.out.bd
  clear hb ho
  obtain ⟨lzbw0, cabw0, cbbw0, ccbw0⟩ := K6_bw0.out.c3
  go_wp2_with fail
  refine (eqPic _ _ _ _ _ _ _ _ _ _ _ _ _ K6_h0.out.len K6_w0.out.len (by exact (K6_h0.out.alloc _).rd) (by exact (K6_w0.out.alloc _).rd) (by omega) (by omega)).mono ?_
  rintro e w7 ⟨rfl, hb⟩
  have HB7 := Lib.hid (bTrans (bAlloc HB6.out _) hb)
  have HZ7 : Hid (w6.heap.size + 1 ≤ w7.heap.size) := Lib.hid (by have := hb.size; (try simp at this); omega)
  have K7_w0 := Lib.hid ((K6_w0.out.alloc _).below' hb)
  clear K6_w0
  have K7_bw0 := Lib.hid ((K6_bw0.out.alloc _).below' hb)
  clear K6_bw0
  have K7_g0 := Lib.hid ((K6_g0.out.alloc _).below' hb)
  clear K6_g0
  have K7_bg0 := Lib.hid ((K6_bg0.out.alloc _).below' hb)
  clear K6_bg0
  have K7_h0 := Lib.hid ((K6_h0.out.alloc _).below' hb)
  clear K6_h0
  have K7_bh0 : Hid (Blk w7 (w6.heap.size) 25 #[.int .i64 (parseF (bytesS s0)).1.W, .int .i64 (parseF (bytesS s0)).1.H, .slice ah0 nh0 ch0]) := Lib.hid ((Blk.new' (g := w6.heap.size) 25 #[.int .i64 (parseF (bytesS s0)).1.W, .int .i64 (parseF (bytesS s0)).1.H, .slice ah0 nh0 ch0] (by simp)).below' hb)
  clear hb
  clear lzbw0
  clear cabw0
  clear cbbw0
  clear ccbw0
  obtain ⟨lzbg0, cabg0, cbbg0, ccbg0⟩ := K7_bg0.out.c3
  go_wp2_with fail
  refine (heldPic _ _ _ _ _ 1 _ (by exact K7_g0.out.rd) (by omega) (by omega)).mono ?_
  rintro e w8 ⟨rfl, hb⟩
  have HB8 := Lib.hid (bTrans HB7.out hb)
  have HZ8 : Hid (w7.heap.size + 0 ≤ w8.heap.size) := Lib.hid (by have := hb.size; (try simp at this); omega)
  have K8_w0 := Lib.hid (K7_w0.out.below' hb)
  clear K7_w0
  have K8_bw0 := Lib.hid (K7_bw0.out.below' hb)
  clear K7_bw0
  have K8_g0 := Lib.hid (K7_g0.out.below' hb)
  clear K7_g0
  have K8_bg0 := Lib.hid (K7_bg0.out.below' hb)
  clear K7_bg0
  have K8_h0 := Lib.hid (K7_h0.out.below' hb)
  clear K7_h0
  have K8_bh0 := Lib.hid (K7_bh0.out.below' hb)
  clear K7_bh0
  clear hb
  clear lzbg0
  clear cabg0
  clear cbbg0
  clear ccbg0
  go_wp2_with fail
  go_ret
  exact ⟨rfl, HB8.out⟩

set_option maxRecDepth 100000 in
theorem lifted (os : Os) (started : os.Started) (H : Type) (enc : TypeId × Value → H) :
    ReturnsInHanded {} Try.checked os 5 .any (Rows.fnExactParseDotsSpec.pre6 enc Try.prog Try.f5 Rows.fnExactParseDotsRow.domain false) (Rows.fnExactParseDotsSpec.post enc Try.prog Try.f5 false true false false) := by
  refine returnsInHanded_of_change (C := Try.checked) own started (by kernel_rfl) Try.func5
    (ChangeSpec.witness6 (enc := enc) (C := Try.checked) false ⟨#[], #[.string ⟨#[]⟩], []⟩ 8 (by kernel_rfl) (by kernel_rfl) (by kernel_rfl) (by kernel_rfl)) ?_
  intro W base args ds gs before hval0 hW hcnd _
  have hval : ∀ (j : Nat) t v, Try.f5.params[j]? = some t → args[j]? = some v → Value.okWide Try.prog W .any base t v := hval0
  have hW' := hW
  have hlt := hW.lt
  obtain ⟨p, q, hA0, hV, rfl, hfz, hnd⟩ := hW
  have hA : DataW.TrodAll enc Try.prog W 0 (fun _ => true) true Try.f5.params.toList args.toList ds p := hA0
  rw [Try.params5] at hA hval
  obtain ⟨v0, vs0, d0, ds0, p0, q0, hargs, rfl, rfl, h0, r0⟩ := trodAll_cons hA
  obtain ⟨rfl, rfl, rfl⟩ := trodAll_nil r0
  obtain rfl : args = #[v0] := by cases args; simp_all
  obtain ⟨rfl, rfl⟩ := trodVars_none hV
  clear hA0 hval0
  obtain ⟨s0, rfl, rfl, rfl, ws0⟩ := Go.ChangeMaps.open_string Try.underlying9 (hval 0 9 v0 rfl rfl) h0
  have fin : ∀ (e : Ending) W', (e = .returned (.bool true) ∧ Below W.heap.size W W') → ∃ v, e = .returned v ∧ Rows.fnExactParseDotsSpec.post enc Try.prog Try.f5 false true false false W #[.string s0] v W' := by
    rintro e W' ⟨rfl, hb⟩
    exact ⟨_, rfl, law_post rfl rfl hW' (by kernel_rfl) rfl hb⟩
  by_cases b0 : (s0.size : Int) ≤ 1048576
  case neg => exact (no0 s0 W  (by omega)).mono fin
  case pos =>
    exact (ok s0 W  b0).mono fin

theorem proved : Rows.FnExactParseDotsSaid :=
  OpenClaim.holds_of_wide 5 Try.f5 rfl rfl rfl rfl rfl rfl rfl ⟨rfl, rfl, rfl, rfl, rfl⟩ rfl rfl rfl rfl rfl (by kernel_rfl) Try.func5 (by kernel_rfl)
    (of_decide_eq_true (by kernel_rfl)) (by unfold Func.isWrapper; first | (rw [if_pos (by decide +kernel)]; kernel_rfl) | (rw [if_neg (by decide +kernel)]; exact ⟨rfl, rfl⟩))
    (fun os started H enc _ => lifted os started H enc)
end Go.Proofs.Ytipcahcljfheaaa.xParseDots
