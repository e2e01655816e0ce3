/-
  The exact law of DotText: the walk, and the row. laws.FnExactDotText returns true for every input: the program answers as the model does, writes into no argument, and its answer owns its memory. No conditions.
-/
import Derived.Test.YtkjhpfgcmbigfaaW28
import Derived.Test.YtkjhpfgcmbigfaaFrame
import Derived.Deep.RegionHeld3
namespace Go.Proofs.Ytkjhpfgcmbigfaa.xDotText
open Go.ChangeShapes Go.WideShapes Go.ChangeAt Go.RowKit
set_option linter.unusedVariables false
set_option linter.unusedSimpArgs false

set_option maxHeartbeats 400000 in
theorem no0 (W0 H0 : Int) (ad0 : Option Addr) (n0 cap0 : Nat) (xs0 : List Int) (w : World)  (h1 : 1048576 < (n0 : Int)) (h3 : n0 ≤ 9223372036854775807) :
    Calls Try.prog 9 #[.agg #[.int .i64 W0, .int .i64 H0, .slice ad0 n0 cap0]] w fun e w' => e = .returned (.bool true) ∧ Below w.heap.size w w' := by
  go_enter Try.func9, Try.ntmps9
  go_wp2_with fail
  refine (szPic_no _ _ _ _ _ _ _ (by omega) (by omega) (by omega) h3).mono ?_
  rintro e w1 ⟨rfl, hb⟩
  have HB1 := Lib.hid (bTrans (bAlloc (Below.refl _ _) _) hb)
  have HZ1 : Hid (w.heap.size + 1 ≤ w1.heap.size) := Lib.hid (by have := hb.size; (try simp at this); omega)
  have K1_a0 : Hid (Blk w1 (w.heap.size) 49 #[.int .i64 W0, .int .i64 H0, .slice ad0 n0 cap0]) := Lib.hid ((Blk.new' (g := w.heap.size) 49 #[.int .i64 W0, .int .i64 H0, .slice ad0 n0 cap0] (by simp)).below' hb)
  try clear hb
  go_wp2_with fail
  go_ret
  exact ⟨rfl, HB1.out⟩

set_option maxHeartbeats 2000000 in
theorem ok (W0 H0 : Int) (ad0 : Option Addr) (n0 cap0 : Nat) (xs0 : List Int) (w : World) (hn0 : xs0.length = n0) (ha0 : Rd w ad0 xs0) (hsz : (n0 : Int) ≤ 1048576) :
    Calls Try.prog 9 #[.agg #[.int .i64 W0, .int .i64 H0, .slice ad0 n0 cap0]] w fun e w' => e = .returned (.bool true) ∧ Below w.heap.size w w' := by
  have HN0 := Lib.hid hn0
  have HA0 := Lib.hid ha0
  clear hn0 ha0
  go_enter Try.func9, Try.ntmps9
  go_wp2_with fail
  refine (szPic_ok _ _ _ _ _ _ _ (by omega) (by omega)).mono ?_
  rintro e w1 ⟨rfl, hb⟩
  have HB1 := Lib.hid (bTrans (bAlloc (Below.refl _ _) _) hb)
  have HZ1 : Hid (w.heap.size + 1 ≤ w1.heap.size) := Lib.hid (by have := hb.size; (try simp at this); omega)
  have K1_a0 : Hid (Blk w1 (w.heap.size) 49 #[.int .i64 W0, .int .i64 H0, .slice ad0 n0 cap0]) := Lib.hid ((Blk.new' (g := w.heap.size) 49 #[.int .i64 W0, .int .i64 H0, .slice ad0 n0 cap0] (by simp)).below' hb)
  try clear hb
  obtain ⟨lza0, caa0, cba0, cca0⟩ := K1_a0.out.c3
  go_wp2_with fail
  refine (toPic _ _ _ _ _ xs0 _ HN0.out (by exact (HA0.out.below HB1.out)) (by omega)).mono ?_
  rintro e w2 ⟨gs0, rfl, hg, ho, hb⟩
  have HB2 := Lib.hid (bTrans HB1.out hb)
  have HZ2 : Hid (w1.heap.size + 0 ≤ w2.heap.size) := Lib.hid (by have := hb.size; (try simp at this); omega)
  have K2_a0 := Lib.hid (K1_a0.out.below' hb)
  clear K1_a0
  have K2_s0 := Lib.hid (OwnA.mono (B' := w1.heap.size + 0) (OwnA.mk ho hg) (by first | (simp; done) | (simp; omega)))
  have R2_s0 := Lib.hid K2_s0.out.bd
  clear ho hg
  try clear hb
  clear lza0
  clear caa0
  clear cba0
  clear cca0
  go_wp2_with fail
  refine (spec_DotText _ _ _ _ _ xs0 _ HN0.out (by exact K2_s0.out.rd) (by omega)).mono ?_
  rintro e w3 ⟨rfl, hb⟩
  have HB3 := Lib.hid (bTrans HB2.out hb)
  have HZ3 : Hid (w2.heap.size + 0 ≤ w3.heap.size) := Lib.hid (by have := hb.size; (try simp at this); omega)
  have K3_a0 := Lib.hid (K2_a0.out.below' hb)
  clear K2_a0
  clear K2_s0
  try clear hb
  obtain ⟨lza0, caa0, cba0, cca0⟩ := K3_a0.out.c3
  go_wp2_with fail
  refine (toPic _ _ _ _ _ xs0 _ HN0.out (by exact (HA0.out.below HB3.out)) (by omega)).mono ?_
  rintro e w4 ⟨gx0, rfl, hg, ho, hb⟩
  have HB4 := Lib.hid (bTrans HB3.out hb)
  have HZ4 : Hid (w3.heap.size + 0 ≤ w4.heap.size) := Lib.hid (by have := hb.size; (try simp at this); omega)
  have K4_a0 := Lib.hid (K3_a0.out.below' hb)
  clear K3_a0
  have K4_x0 := Lib.hid (OwnA.mono (B' := w3.heap.size + 0) (OwnA.mk ho hg) (by first | (simp; done) | (simp; omega)))
  have R4_x0 := Lib.hid K4_x0.out.bd
  clear ho hg
  try clear hb
  clear lza0
  clear caa0
  clear cba0
  clear cca0
  go_wp2_with fail
  refine (impl_DotText _ _ _ _ _ xs0 _ HN0.out (by exact (K4_x0.out.alloc _).rd) (by omega) (by omega)).mono ?_
  rintro e w5 ⟨rfl, hb⟩
  have HB5 := Lib.hid (bTrans (bAlloc HB4.out _) hb)
  have HZ5 : Hid (w4.heap.size + 1 ≤ w5.heap.size) := Lib.hid (by have := hb.size; (try simp at this); omega)
  have K5_a0 := Lib.hid ((K4_a0.out.alloc _).below' hb)
  clear K4_a0
  have K5_x0 := Lib.hid ((K4_x0.out.alloc _).below' hb)
  clear K4_x0
  have K5_bx0 : Hid (Blk w5 (w4.heap.size) 25 #[.int .i64 W0, .int .i64 H0, .slice (some ⟨gx0, 0, none⟩) n0 n0]) := Lib.hid ((Blk.new' (g := w4.heap.size) 25 #[.int .i64 W0, .int .i64 H0, .slice (some ⟨gx0, 0, none⟩) n0 n0] (by simp)).below' hb)
  try clear hb
  obtain ⟨lzbx0, cabx0, cbbx0, ccbx0⟩ := K5_bx0.out.c3
  obtain ⟨lza0, caa0, cba0, cca0⟩ := K5_a0.out.c3
  go_wp2_with fail
  go_region_held3 (fun v => v.cell? ⟨w4.heap.size, 0, none⟩ = some (.int .i64 W0) ∧ v.cell? ⟨w4.heap.size, 1, none⟩ = some (.int .i64 H0) ∧ v.cell? ⟨w4.heap.size, 2, none⟩ = some (.slice (some ⟨gx0, 0, none⟩) n0 n0) ∧ v.cell? ⟨w.heap.size, 0, none⟩ = some (.int .i64 W0) ∧ v.cell? ⟨w.heap.size, 1, none⟩ = some (.int .i64 H0) ∧ v.cell? ⟨w.heap.size, 2, none⟩ = some (.slice ad0 n0 cap0))
    (first | exact ⟨cabx0 , cbbx0 , ccbx0 , caa0 , cba0 , cca0⟩ | exact ⟨(hb.cell lzbx0).trans cabx0, (hb.cell lzbx0).trans cbbx0, (hb.cell lzbx0).trans ccbx0, (hb.cell lza0).trans caa0, (hb.cell lza0).trans cba0, (hb.cell lza0).trans cca0⟩ | exact ⟨(hb7.cell (Nat.lt_of_lt_of_le lzbx0 hb.size)).trans ((hb.cell lzbx0).trans cabx0), (hb7.cell (Nat.lt_of_lt_of_le lzbx0 hb.size)).trans ((hb.cell lzbx0).trans cbbx0), (hb7.cell (Nat.lt_of_lt_of_le lzbx0 hb.size)).trans ((hb.cell lzbx0).trans ccbx0), (hb7.cell (Nat.lt_of_lt_of_le lza0 hb.size)).trans ((hb.cell lza0).trans caa0), (hb7.cell (Nat.lt_of_lt_of_le lza0 hb.size)).trans ((hb.cell lza0).trans cba0), (hb7.cell (Nat.lt_of_lt_of_le lza0 hb.size)).trans ((hb.cell lza0).trans cca0)⟩)
    (first
      | (go_at_call 36; refine (toPic _ _ _ _ _ xs0 _ HN0.out (by exact (HA0.out.below HB5.out).of_heap rfl) (by omega)).mono ?_; rintro e v1 ⟨gu0, rfl, hgu, hou, hb⟩)
      | (go_at_call 37; refine (eqPic _ _ _ _ _ _ _ _ _ _ xs0 xs0 _ HN0.out HN0.out (by exact (K5_x0.out.drew.below' hb).rd.of_heap rfl) (by exact hou.rd.of_heap rfl) (by omega) (by omega)).mono ?_; rintro e w6 ⟨rfl, hb7⟩))
  have HB6 := Lib.hid (bTrans (bTrans HB5.out.drew hb) hb7)
  have HZ6 : Hid (w5.heap.size + 0 ≤ w6.heap.size) := Lib.hid (Nat.le_trans hb.size hb7.size)
  have K6_a0 := Lib.hid ((K5_a0.out.drew.below' hb).below' hb7)
  clear K5_a0
  have K6_x0 := Lib.hid ((K5_x0.out.drew.below' hb).below' hb7)
  clear K5_x0
  have K6_bx0 := Lib.hid ((K5_bx0.out.drew.below' hb).below' hb7)
  clear K5_bx0
  clear hb hb7 hgu hou
  clear lzbx0
  clear cabx0
  clear cbbx0
  clear ccbx0
  clear lza0
  clear caa0
  clear cba0
  clear cca0
  go_wp2_with fail
  go_ret
  exact ⟨rfl, HB6.out⟩

set_option maxRecDepth 100000 in
theorem lifted (os : Os) (started : os.Started) (H : Type) (enc : TypeId × Value → H) :
    ReturnsInHanded {} Try.checked os 9 .any (Rows.fnExactDotTextSpec.pre6 enc Try.prog Try.f9 Rows.fnExactDotTextRow.domain false) (Rows.fnExactDotTextSpec.post enc Try.prog Try.f9 false true false false) := by
  refine returnsInHanded_of_change (C := Try.checked) own started (by kernel_rfl) Try.func9
    (ChangeSpec.witness6 (enc := enc) (C := Try.checked) false ⟨#[], #[.agg #[.int .i64 0, .int .i64 0, .slice none 0 0]], []⟩ 8 (by kernel_rfl) (by kernel_rfl) (by kernel_rfl) (by kernel_rfl)) ?_
  intro W base args ds gs before hval0 hW hcnd _
  have hval : ∀ (j : Nat) t v, Try.f9.params[j]? = some t → args[j]? = some v → Value.okWide Try.prog W .any base t v := hval0
  have hW' := hW
  have hlt := hW.lt
  obtain ⟨p, q, hA0, hV, rfl, hfz, hnd⟩ := hW
  have hA : DataW.TrodAll enc Try.prog W 0 (fun _ => true) true Try.f9.params.toList args.toList ds p := hA0
  rw [Try.params9] at hA hval
  obtain ⟨v0, vs0, d0, ds0, p0, q0, hargs, rfl, rfl, h0, r0⟩ := trodAll_cons hA
  obtain ⟨rfl, rfl, rfl⟩ := trodAll_nil r0
  obtain rfl : args = #[v0] := by cases args; simp_all
  obtain ⟨rfl, rfl⟩ := trodVars_none hV
  clear hA0 hval0
  obtain ⟨W0, H0, ad0, n0, cap0, xs0, rfl, hn0, hr0, hl0, hx0, wa0, wb0⟩ := open_lpic (hval 0 49 v0 rfl rfl) h0 (fun x hx => hlt x (by simp [hx]))
  have fin : ∀ (e : Ending) W', (e = .returned (.bool true) ∧ Below W.heap.size W W') → ∃ v, e = .returned v ∧ Rows.fnExactDotTextSpec.post enc Try.prog Try.f9 false true false false W #[.agg #[.int .i64 W0, .int .i64 H0, .slice ad0 n0 cap0]] v W' := by
    rintro e W' ⟨rfl, hb⟩
    exact ⟨_, rfl, law_post rfl rfl hW' (by kernel_rfl) rfl hb⟩
  by_cases hs0 : (n0 : Int) ≤ 1048576
  case neg => exact (no0 W0 H0 ad0 n0 cap0 xs0 W  (by omega) hl0).mono fin
  case pos =>
    exact (ok W0 H0 ad0 n0 cap0 xs0 W hn0 hr0 hs0).mono fin

theorem proved : Rows.FnExactDotTextSaid :=
  OpenClaim.holds_of_wide 9 Try.f9 rfl rfl rfl rfl rfl rfl rfl ⟨rfl, rfl, rfl, rfl, rfl⟩ rfl rfl rfl rfl rfl (by kernel_rfl) Try.func9 (by kernel_rfl)
    (of_decide_eq_true (by kernel_rfl)) (by unfold Func.isWrapper; first | (rw [if_pos (by decide +kernel)]; kernel_rfl) | (rw [if_neg (by decide +kernel)]; exact ⟨rfl, rfl⟩))
    (fun os started H enc _ => lifted os started H enc)
end Go.Proofs.Ytkjhpfgcmbigfaa.xDotText
