/-
  The exact law of AreaOf: the walk, and the row. laws.FnExactAreaOf returns true for every input: the program answers as the model does. No conditions.
-/
import Derived.Test.YtdpmapgeacnheaaN2
import Derived.Test.YtdpmapgeacnheaaFrameL
namespace Go.Proofs.Ytdpmapgeacnheaa.xAreaOf
open Go.ChangeShapes Go.WideShapes Go.ChangeAt Go.RowKit
set_option linter.unusedVariables false
set_option linter.unusedSimpArgs false

theorem both (A B : Int) : ∃ (V0 : Int), (∀ w, Calls Try.prog 18 #[.agg #[.int .i64 A, .int .i64 B]] w fun e w' => e = .returned (.int .i64 V0) ∧ Below w.heap.size w w') ∧ (∀ w, Calls Try.prog 19 #[.agg #[.int .i64 A, .int .i64 B]] w fun e w' => e = .returned (.int .i64 V0) ∧ Below w.heap.size w w') := by
  by_cases hok : latOk A B = true
  · obtain ⟨n, g, d, a, b, p, q, L⟩ := lat_of hok
    exact ⟨n, fun w => spec_AreaOf_yes L w, fun w => impl_AreaOf_yes L w⟩
  · exact ⟨0, fun w => spec_AreaOf_no (by simpa using hok) w, fun w => impl_AreaOf_no (by simpa using hok) w⟩

set_option maxHeartbeats 800000 in
theorem ok (A B : Int) (w : World) (hA : InI A) (hB : InI B) :
    Calls Try.prog 4 #[.agg #[.int .i64 A, .int .i64 B]] w fun e w' => e = .returned (.bool true) ∧ Below w.heap.size w w' := by
  obtain ⟨V0, hs, hi⟩ := both A B
  have HS := Lib.hid hs
  have HI := Lib.hid hi
  clear hs hi hA hB
  have n0 : (V0 != V0) = false := by simp
  go_enter Try.func4, Try.ntmps4
  go_wp2_with fail
  refine (toLat _ _ _).mono ?_
  rintro e w1 ⟨rfl, hb⟩
  have HB1 := Lib.hid (bTrans (Joins.below_alloc1 _ _) hb)
  have KB1 := Lib.hid ((Blk.new w 23 #[.int .i64 A, .int .i64 B]).below' hb)
  obtain ⟨z, c0, c1⟩ := KB1.out.c2
  clear hb
  go_wp2_with fail
  refine (HS.out _).mono ?_
  rintro e w2 ⟨rfl, hb⟩
  have HB2 := Lib.hid (bTrans HB1.out hb)
  have KB2 := Lib.hid (KB1.out.below' hb)
  try clear z c0 c1
  obtain ⟨z, c0, c1⟩ := KB2.out.c2
  clear hb
  go_wp2_with fail
  refine (toLat _ _ _).mono ?_
  rintro e w3 ⟨rfl, hb⟩
  have HB3 := Lib.hid (bTrans HB2.out hb)
  have KB3 := Lib.hid (KB2.out.below' hb)
  try clear z c0 c1
  obtain ⟨z, c0, c1⟩ := KB3.out.c2
  clear hb
  go_wp2_with fail
  refine (HI.out _).mono ?_
  rintro e w4 ⟨rfl, hb⟩
  have HB4 := Lib.hid (bTrans HB3.out hb)
  clear hb
  go_wp2_with fail
  go_ret
  exact ⟨rfl, HB4.out⟩

set_option maxRecDepth 100000 in
theorem lifted (os : Os) (started : os.Started) (H : Type) (enc : TypeId × Value → H) :
    ReturnsInHanded {} Try.checked os 4 .any (Rows.fnExactAreaOfSpec.pre6 enc Try.prog Try.f4 Rows.fnExactAreaOfRow.domain false) (Rows.fnExactAreaOfSpec.post enc Try.prog Try.f4 false true false false) := by
  refine returnsInHanded_of_change (C := Try.checked) own started (by kernel_rfl) Try.func4
    (ChangeSpec.witness6 (enc := enc) (C := Try.checked) false ⟨#[], #[.agg #[.int .i64 0, .int .i64 0]], []⟩ 8 (by kernel_rfl) (by kernel_rfl) (by kernel_rfl) (by kernel_rfl)) ?_
  intro W base args ds gs before hval0 hW hcnd _
  have hval : ∀ (j : Nat) t v, Try.f4.params[j]? = some t → args[j]? = some v → Value.okWide Try.prog W .any base t v := hval0
  have hW' := hW
  have hlt := hW.lt
  obtain ⟨p, q, hA0, hV, rfl, hfz, hnd⟩ := hW
  have hA : DataW.TrodAll enc Try.prog W 0 (fun _ => true) true Try.f4.params.toList args.toList ds p := hA0
  rw [Try.params4] at hA hval
  obtain ⟨v0, vs0, d0, ds0, p0, q0, hargs, rfl, rfl, h0, r0⟩ := trodAll_cons hA
  obtain ⟨rfl, rfl, rfl⟩ := trodAll_nil r0
  obtain rfl : args = #[v0] := by cases args; simp_all
  obtain ⟨rfl, rfl⟩ := trodVars_none hV
  clear hA0 hval0
  obtain ⟨A, B, rfl, wA, wB⟩ := open_llat (hval 0 23 v0 rfl rfl) h0
  have fin : ∀ (e : Ending) W', (e = .returned (.bool true) ∧ Below W.heap.size W W') → ∃ v, e = .returned v ∧ Rows.fnExactAreaOfSpec.post enc Try.prog Try.f4 false true false false W #[.agg #[.int .i64 A, .int .i64 B]] v W' := by
    rintro e W' ⟨rfl, hb⟩
    exact ⟨_, rfl, law_post rfl rfl hW' (by kernel_rfl) rfl hb⟩
  exact (ok A B W wA wB).mono fin

theorem proved : Rows.FnExactAreaOfSaid :=
  OpenClaim.holds_of_wide 4 Try.f4 rfl rfl rfl rfl rfl rfl rfl ⟨rfl, rfl, rfl, rfl, rfl⟩ rfl rfl rfl rfl rfl (by kernel_rfl) Try.func4 (by kernel_rfl)
    (of_decide_eq_true (by kernel_rfl)) (by unfold Func.isWrapper; first | (rw [if_pos (by decide +kernel)]; kernel_rfl) | (rw [if_neg (by decide +kernel)]; exact ⟨rfl, rfl⟩))
    (fun os started H enc _ => lifted os started H enc)
end Go.Proofs.Ytdpmapgeacnheaa.xAreaOf
