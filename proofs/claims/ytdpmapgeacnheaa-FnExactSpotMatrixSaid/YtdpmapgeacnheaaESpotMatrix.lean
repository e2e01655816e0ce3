/-
  The exact law of SpotMatrix: the walk, and the row. laws.FnExactSpotMatrix returns true for every input: the program answers as the model does, writes into no argument, and its answer owns its memory. No conditions.
-/
import Derived.Test.YtdpmapgeacnheaaN23
import Derived.Test.YtdpmapgeacnheaaMat
import Derived.Test.YtdpmapgeacnheaaFrame
import Derived.Test.YtdpmapgeacnheaaFrameL
namespace Go.Proofs.Ytdpmapgeacnheaa.xSpotMatrix
open Go.ChangeShapes Go.WideShapes Go.ChangeAt Go.RowKit
set_option linter.unusedVariables false
set_option linter.unusedSimpArgs false

set_option maxHeartbeats 2000000 in
theorem ok (A B : Int) (w : World) (hA : InI A) (hB : InI B) :
    Calls Try.prog 13 #[.agg #[.int .i64 A, .int .i64 B]] w fun e w' => e = .returned (.bool true) ∧ Below w.heap.size w w' := by
  obtain ⟨F, hs, hi⟩ := smat_both A B
  have HS := Lib.hid hs
  have HI := Lib.hid hi
  clear hs hi hA hB
  go_enter Try.func13, Try.ntmps13
  go_wp2_with fail
  refine (toLat _ _ _).mono ?_
  rintro e w1 ⟨rfl, hb⟩
  have HB1 := Lib.hid (bTrans (bAlloc (Below.refl _ _) _) hb)
  have HZ1 : Hid (w.heap.size + 1 ≤ w1.heap.size) := Lib.hid (by have := hb.size; (try simp at this); omega)
  have K1_KB : Hid (Blk w1 (w.heap.size) 23 #[.int .i64 A, .int .i64 B]) := Lib.hid ((Blk.new' (g := w.heap.size) 23 #[.int .i64 A, .int .i64 B] (by simp)).below' hb)
  try clear hb
  go_wp2_with fail
  refine (HS.out _).mono ?_
  rintro e w2 ⟨aw0, nw0, cw0, rfl, ho, hnw0, hb⟩
  have HB2 := Lib.hid (bTrans HB1.out hb)
  have HZ2 : Hid (w1.heap.size + 0 ≤ w2.heap.size) := Lib.hid (by have := hb.size; (try simp at this); omega)
  have K2_KB := Lib.hid (K1_KB.out.below' hb)
  clear K1_KB
  have K2_w0 := Lib.hid (OwnA.mono (B' := w1.heap.size + 0) ho (by first | (simp; done) | (simp; omega)))
  have R2_w0 := Lib.hid K2_w0.out.bd
  clear ho
  try clear hb
  obtain ⟨lzKB, caKB, cbKB⟩ := K2_KB.out.c2
  go_wp2_with fail
  refine (toLat _ _ _).mono ?_
  rintro e w3 ⟨rfl, hb⟩
  have HB3 := Lib.hid (bTrans (bAlloc HB2.out _) hb)
  have HZ3 : Hid (w2.heap.size + 1 ≤ w3.heap.size) := Lib.hid (by have := hb.size; (try simp at this); omega)
  have K3_KB := Lib.hid ((K2_KB.out.alloc _).below' hb)
  clear K2_KB
  have K3_w0 := Lib.hid ((K2_w0.out.alloc _).below' hb)
  clear K2_w0
  have K3_bw0 : Hid (Blk w3 (w2.heap.size) 48 #[.int .i64 F.1.W, .int .i64 F.1.H, .slice aw0 nw0 cw0]) := Lib.hid ((Blk.new' (g := w2.heap.size) 48 #[.int .i64 F.1.W, .int .i64 F.1.H, .slice aw0 nw0 cw0] (by simp)).below' hb)
  try clear hb
  clear lzKB
  clear caKB
  clear cbKB
  go_wp2_with fail
  refine (HI.out _).mono ?_
  rintro e w4 ⟨ag0, ng0, cg0, rfl, ho, hng0, hb⟩
  have HB4 := Lib.hid (bTrans HB3.out hb)
  have HZ4 : Hid (w3.heap.size + 0 ≤ w4.heap.size) := Lib.hid (by have := hb.size; (try simp at this); omega)
  have K4_KB := Lib.hid (K3_KB.out.below' hb)
  clear K3_KB
  have K4_w0 := Lib.hid (K3_w0.out.below' hb)
  clear K3_w0
  have K4_bw0 := Lib.hid (K3_bw0.out.below' hb)
  clear K3_bw0
  have K4_g0 := Lib.hid (OwnA.mono (B' := w3.heap.size + 0) ho (by first | (simp; done) | (simp; omega)))
  have R4_g0 := Lib.hid K4_g0.out.bd
  clear ho
  try clear hb
  obtain ⟨lzbw0, cabw0, cbbw0, ccbw0⟩ := K4_bw0.out.c3
  go_wp2_with fail
  refine (eqMat _ _ _ _ _ _ _ _ _ _ _ _ _ K4_g0.out.len K4_w0.out.len (by exact (K4_g0.out.alloc _).rd) (by exact (K4_w0.out.alloc _).rd) (by omega) (by omega)).mono ?_
  rintro e w5 ⟨rfl, hb⟩
  have HB5 := Lib.hid (bTrans (bAlloc HB4.out _) hb)
  have HZ5 : Hid (w4.heap.size + 1 ≤ w5.heap.size) := Lib.hid (by have := hb.size; (try simp at this); omega)
  have K5_KB := Lib.hid ((K4_KB.out.alloc _).below' hb)
  clear K4_KB
  have K5_w0 := Lib.hid ((K4_w0.out.alloc _).below' hb)
  clear K4_w0
  have K5_bw0 := Lib.hid ((K4_bw0.out.alloc _).below' hb)
  clear K4_bw0
  have K5_g0 := Lib.hid ((K4_g0.out.alloc _).below' hb)
  clear K4_g0
  have K5_bg0 : Hid (Blk w5 (w4.heap.size) 48 #[.int .i64 F.1.W, .int .i64 F.1.H, .slice ag0 ng0 cg0]) := Lib.hid ((Blk.new' (g := w4.heap.size) 48 #[.int .i64 F.1.W, .int .i64 F.1.H, .slice ag0 ng0 cg0] (by simp)).below' hb)
  try clear hb
  clear lzbw0
  clear cabw0
  clear cbbw0
  clear ccbw0
  obtain ⟨lzbg0, cabg0, cbbg0, ccbg0⟩ := K5_bg0.out.c3
  go_wp2_with fail
  refine (markMat _ _ _ _ _ _ (1) _ _ (by exact K5_g0.out) (by omega) (by omega)).mono ?_
  rintro e w6 ⟨rfl, ho, hb⟩
  have HB6 := Lib.hid (Below.grown HB5.out hb HB5.out.size (by intro b hb1; have := R4_g0.out b hb1; have := HZ1.out; have := HZ2.out; have := HZ3.out; have := HZ4.out; have := HZ5.out; have := (HB1.out).size; omega))
  have HZ6 : Hid (w5.heap.size + 0 ≤ w6.heap.size) := Lib.hid hb.size
  have K6_KB := Lib.hid (Blk.grownS K5_KB.out hb (by intro b hb1; have := R4_g0.out b hb1; have := HZ1.out; have := HZ2.out; have := HZ3.out; have := HZ4.out; have := HZ5.out; omega))
  clear K5_KB
  have K6_w0 := Lib.hid (OwnA.grownS K5_w0.out hb (by intro b hb1 hb2; have := R4_g0.out b hb1; have := R2_w0.out b hb2; have := HZ1.out; have := HZ2.out; have := HZ3.out; have := HZ4.out; have := HZ5.out; omega))
  clear K5_w0
  have K6_bw0 := Lib.hid (Blk.grownS K5_bw0.out hb (by intro b hb1; have := R4_g0.out b hb1; have := HZ1.out; have := HZ2.out; have := HZ3.out; have := HZ4.out; have := HZ5.out; omega))
  clear K5_bw0
  have K6_g0 := Lib.hid ho
  clear K5_g0 ho
  have K6_bg0 := Lib.hid (Blk.grownS K5_bg0.out hb (by intro b hb1; have := R4_g0.out b hb1; have := HZ1.out; have := HZ2.out; have := HZ3.out; have := HZ4.out; have := HZ5.out; omega))
  clear K5_bg0
  try clear hb
  clear lzbg0
  clear cabg0
  clear cbbg0
  clear ccbg0
  obtain ⟨lzbg0, cabg0, cbbg0, ccbg0⟩ := K6_bg0.out.c3
  go_wp2_with fail
  refine (heldMat _ _ _ _ _ 1 _ (by exact K6_g0.out.rd) (by omega) (by omega)).mono ?_
  rintro e w7 ⟨rfl, hb⟩
  have HB7 := Lib.hid (bTrans HB6.out hb)
  have HZ7 : Hid (w6.heap.size + 0 ≤ w7.heap.size) := Lib.hid (by have := hb.size; (try simp at this); omega)
  have K7_KB := Lib.hid (K6_KB.out.below' hb)
  clear K6_KB
  have K7_w0 := Lib.hid (K6_w0.out.below' hb)
  clear K6_w0
  have K7_bw0 := Lib.hid (K6_bw0.out.below' hb)
  clear K6_bw0
  have K7_g0 := Lib.hid (K6_g0.out.below' hb)
  clear K6_g0
  have K7_bg0 := Lib.hid (K6_bg0.out.below' hb)
  clear K6_bg0
  try clear hb
  clear lzbg0
  clear cabg0
  clear cbbg0
  clear ccbg0
  obtain ⟨lzKB, caKB, cbKB⟩ := K7_KB.out.c2
  go_wp2_with fail
  refine (toLat _ _ _).mono ?_
  rintro e w8 ⟨rfl, hb⟩
  have HB8 := Lib.hid (bTrans HB7.out hb)
  have HZ8 : Hid (w7.heap.size + 0 ≤ w8.heap.size) := Lib.hid (by have := hb.size; (try simp at this); omega)
  have K8_KB := Lib.hid (K7_KB.out.below' hb)
  clear K7_KB
  have K8_w0 := Lib.hid (K7_w0.out.below' hb)
  clear K7_w0
  have K8_bw0 := Lib.hid (K7_bw0.out.below' hb)
  clear K7_bw0
  have K8_g0 := Lib.hid (K7_g0.out.below' hb)
  clear K7_g0
  have K8_bg0 := Lib.hid (K7_bg0.out.below' hb)
  clear K7_bg0
  try clear hb
  clear lzKB
  clear caKB
  clear cbKB
  go_wp2_with fail
  refine (HI.out _).mono ?_
  rintro e w9 ⟨ah0, nh0, ch0, rfl, ho, hnh0, hb⟩
  have HB9 := Lib.hid (bTrans HB8.out hb)
  have HZ9 : Hid (w8.heap.size + 0 ≤ w9.heap.size) := Lib.hid (by have := hb.size; (try simp at this); omega)
  have K9_KB := Lib.hid (K8_KB.out.below' hb)
  clear K8_KB
  have K9_w0 := Lib.hid (K8_w0.out.below' hb)
  clear K8_w0
  have K9_bw0 := Lib.hid (K8_bw0.out.below' hb)
  clear K8_bw0
  have K9_g0 := Lib.hid (K8_g0.out.below' hb)
  clear K8_g0
  have K9_bg0 := Lib.hid (K8_bg0.out.below' hb)
  clear K8_bg0
  have K9_h0 := Lib.hid (OwnA.mono (B' := w8.heap.size + 0) ho (by first | (simp; done) | (simp; omega)))
  have R9_h0 := Lib.hid K9_h0.out.bd
  clear ho
  try clear hb
  obtain ⟨lzbw0, cabw0, cbbw0, ccbw0⟩ := K9_bw0.out.c3
  go_wp2_with fail
  refine (eqMat _ _ _ _ _ _ _ _ _ _ _ _ _ K9_h0.out.len K9_w0.out.len (by exact (K9_h0.out.alloc _).rd) (by exact (K9_w0.out.alloc _).rd) (by omega) (by omega)).mono ?_
  rintro e w10 ⟨rfl, hb⟩
  have HB10 := Lib.hid (bTrans (bAlloc HB9.out _) hb)
  have HZ10 : Hid (w9.heap.size + 1 ≤ w10.heap.size) := Lib.hid (by have := hb.size; (try simp at this); omega)
  have K10_KB := Lib.hid ((K9_KB.out.alloc _).below' hb)
  clear K9_KB
  have K10_w0 := Lib.hid ((K9_w0.out.alloc _).below' hb)
  clear K9_w0
  have K10_bw0 := Lib.hid ((K9_bw0.out.alloc _).below' hb)
  clear K9_bw0
  have K10_g0 := Lib.hid ((K9_g0.out.alloc _).below' hb)
  clear K9_g0
  have K10_bg0 := Lib.hid ((K9_bg0.out.alloc _).below' hb)
  clear K9_bg0
  have K10_h0 := Lib.hid ((K9_h0.out.alloc _).below' hb)
  clear K9_h0
  have K10_bh0 : Hid (Blk w10 (w9.heap.size) 48 #[.int .i64 F.1.W, .int .i64 F.1.H, .slice ah0 nh0 ch0]) := Lib.hid ((Blk.new' (g := w9.heap.size) 48 #[.int .i64 F.1.W, .int .i64 F.1.H, .slice ah0 nh0 ch0] (by simp)).below' hb)
  try clear hb
  clear lzbw0
  clear cabw0
  clear cbbw0
  clear ccbw0
  obtain ⟨lzbg0, cabg0, cbbg0, ccbg0⟩ := K10_bg0.out.c3
  go_wp2_with fail
  refine (heldMat _ _ _ _ _ 1 _ (by exact K10_g0.out.rd) (by omega) (by omega)).mono ?_
  rintro e w11 ⟨rfl, hb⟩
  have HB11 := Lib.hid (bTrans HB10.out hb)
  have HZ11 : Hid (w10.heap.size + 0 ≤ w11.heap.size) := Lib.hid (by have := hb.size; (try simp at this); omega)
  have K11_KB := Lib.hid (K10_KB.out.below' hb)
  clear K10_KB
  have K11_w0 := Lib.hid (K10_w0.out.below' hb)
  clear K10_w0
  have K11_bw0 := Lib.hid (K10_bw0.out.below' hb)
  clear K10_bw0
  have K11_g0 := Lib.hid (K10_g0.out.below' hb)
  clear K10_g0
  have K11_bg0 := Lib.hid (K10_bg0.out.below' hb)
  clear K10_bg0
  have K11_h0 := Lib.hid (K10_h0.out.below' hb)
  clear K10_h0
  have K11_bh0 := Lib.hid (K10_bh0.out.below' hb)
  clear K10_bh0
  try clear hb
  clear lzbg0
  clear cabg0
  clear cbbg0
  clear ccbg0
  go_wp2_with fail
  go_ret
  exact ⟨rfl, HB11.out⟩

set_option maxRecDepth 100000 in
theorem lifted (os : Os) (started : os.Started) (H : Type) (enc : TypeId × Value → H) :
    ReturnsInHanded {} Try.checked os 13 .any (Rows.fnExactSpotMatrixSpec.pre6 enc Try.prog Try.f13 Rows.fnExactSpotMatrixRow.domain false) (Rows.fnExactSpotMatrixSpec.post enc Try.prog Try.f13 false true false false) := by
  refine returnsInHanded_of_change (C := Try.checked) own started (by kernel_rfl) Try.func13
    (ChangeSpec.witness6 (enc := enc) (C := Try.checked) false ⟨#[], #[.agg #[.int .i64 0, .int .i64 0]], []⟩ 8 (by kernel_rfl) (by kernel_rfl) (by kernel_rfl) (by kernel_rfl)) ?_
  intro W base args ds gs before hval0 hW hcnd _
  have hval : ∀ (j : Nat) t v, Try.f13.params[j]? = some t → args[j]? = some v → Value.okWide Try.prog W .any base t v := hval0
  have hW' := hW
  have hlt := hW.lt
  obtain ⟨p, q, hA0, hV, rfl, hfz, hnd⟩ := hW
  have hA : DataW.TrodAll enc Try.prog W 0 (fun _ => true) true Try.f13.params.toList args.toList ds p := hA0
  rw [Try.params13] at hA hval
  obtain ⟨v0, vs0, d0, ds0, p0, q0, hargs, rfl, rfl, h0, r0⟩ := trodAll_cons hA
  obtain ⟨rfl, rfl, rfl⟩ := trodAll_nil r0
  obtain rfl : args = #[v0] := by cases args; simp_all
  obtain ⟨rfl, rfl⟩ := trodVars_none hV
  clear hA0 hval0
  obtain ⟨A, B, rfl, wA, wB⟩ := open_llat (hval 0 23 v0 rfl rfl) h0
  have fin : ∀ (e : Ending) W', (e = .returned (.bool true) ∧ Below W.heap.size W W') → ∃ v, e = .returned v ∧ Rows.fnExactSpotMatrixSpec.post enc Try.prog Try.f13 false true false false W #[.agg #[.int .i64 A, .int .i64 B]] v W' := by
    rintro e W' ⟨rfl, hb⟩
    exact ⟨_, rfl, law_post rfl rfl hW' (by kernel_rfl) rfl hb⟩
  exact (ok A B W wA wB).mono fin

theorem proved : Rows.FnExactSpotMatrixSaid :=
  OpenClaim.holds_of_wide 13 Try.f13 rfl rfl rfl rfl rfl rfl rfl ⟨rfl, rfl, rfl, rfl, rfl⟩ rfl rfl rfl rfl rfl (by kernel_rfl) Try.func13 (by kernel_rfl)
    (of_decide_eq_true (by kernel_rfl)) (by unfold Func.isWrapper; first | (rw [if_pos (by decide +kernel)]; kernel_rfl) | (rw [if_neg (by decide +kernel)]; exact ⟨rfl, rfl⟩))
    (fun os started H enc _ => lifted os started H enc)
end Go.Proofs.Ytdpmapgeacnheaa.xSpotMatrix
