/-
  The exact law of TurnedLattice: the walk, and the row. laws.FnExactTurnedLattice returns true for every input: the program answers as the model does. No conditions.
-/
import Derived.Test.YtdpmapgeacnheaaN11
import Derived.Test.YtdpmapgeacnheaaFrameL
namespace Go.Proofs.Ytdpmapgeacnheaa.xTurnedLattice
open Go.ChangeShapes Go.WideShapes Go.ChangeAt Go.RowKit
set_option linter.unusedVariables false
set_option linter.unusedSimpArgs false

set_option maxHeartbeats 800000 in
theorem ok (A B : Int) (w : World) (hA : InI A) (hB : InI B) :
    Calls Try.prog 14 #[.agg #[.int .i64 A, .int .i64 B]] w fun e w' => e = .returned (.bool true) ∧ Below w.heap.size w w' := by
  obtain ⟨X, hX⟩ : ∃ X, (turnedV A B).1 = X := ⟨_, rfl⟩
  obtain ⟨Y, hY⟩ : ∃ Y, (turnedV A B).2.1 = Y := ⟨_, rfl⟩
  obtain ⟨c, hc⟩ : ∃ c, (turnedV A B).2.2 = c := ⟨_, rfl⟩
  have hs := fun w => spec_TurnedLattice A B w
  have hi := fun w => impl_TurnedLattice A B w
  rw [hX, hY, hc] at hs hi
  have HS := Lib.hid hs
  have HI := Lib.hid hi
  clear hs hi hA hB hX hY hc
  have n0 : (c != c) = false := by simp
  go_enter Try.func14, Try.ntmps14
  go_wp2_with fail
  refine (toLat _ _ _).mono ?_
  rintro e w1 ⟨rfl, hb⟩
  have HB1 := Lib.hid (bTrans (Joins.below_alloc1 _ _) hb)
  have KB1 := Lib.hid ((Blk.new w 23 #[.int .i64 A, .int .i64 B]).below' hb)
  obtain ⟨z, c0, c1⟩ := KB1.out.c2
  clear hb
  go_wp2_with fail
  refine (HS.out _).mono ?_
  rintro e w2 ⟨rfl, hb⟩
  have HB2 := Lib.hid (bAlloc (bTrans HB1.out hb) (.cells #[.int .i64 X, .int .i64 Y] 25))
  have KB2 := Lib.hid ((KB1.out.below' hb).alloc (.cells #[.int .i64 X, .int .i64 Y] 25))
  have KW2 := Lib.hid (Blk.new w2 25 #[.int .i64 X, .int .i64 Y])
  have hb' := KB1.out.below' hb
  clear z c0 c1
  obtain ⟨z, c0, c1⟩ := hb'.c2
  clear hb hb'
  go_wp2_with fail
  refine (toLat _ _ _).mono ?_
  rintro e w3 ⟨rfl, hb⟩
  have HB3 := Lib.hid (bTrans HB2.out hb)
  have KW3 := Lib.hid (KW2.out.below' hb)
  clear hb z c0 c1
  go_wp2_with fail
  refine (HI.out _).mono ?_
  rintro e w4 ⟨rfl, hb⟩
  have HB4 := Lib.hid (bAlloc (bTrans HB3.out hb) (.cells #[.int .i64 X, .int .i64 Y] 25))
  have KW4 := Lib.hid (KW3.out.below' hb)
  obtain ⟨z, c0, c1⟩ := KW4.out.c2
  clear hb
  go_wp2_with fail
  refine (eqLat _ _ _).mono ?_
  rintro e w5 ⟨rfl, hb⟩
  have HB5 := Lib.hid (bTrans HB4.out hb)
  clear hb
  go_wp2_with fail
  go_ret
  exact ⟨rfl, HB5.out⟩

set_option maxRecDepth 100000 in
theorem lifted (os : Os) (started : os.Started) (H : Type) (enc : TypeId × Value → H) :
    ReturnsInHanded {} Try.checked os 14 .any (Rows.fnExactTurnedLatticeSpec.pre6 enc Try.prog Try.f14 Rows.fnExactTurnedLatticeRow.domain false) (Rows.fnExactTurnedLatticeSpec.post enc Try.prog Try.f14 false true false false) := by
  refine returnsInHanded_of_change (C := Try.checked) own started (by kernel_rfl) Try.func14
    (ChangeSpec.witness6 (enc := enc) (C := Try.checked) false ⟨#[], #[.agg #[.int .i64 0, .int .i64 0]], []⟩ 8 (by kernel_rfl) (by kernel_rfl) (by kernel_rfl) (by kernel_rfl)) ?_
  intro W base args ds gs before hval0 hW hcnd _
  have hval : ∀ (j : Nat) t v, Try.f14.params[j]? = some t → args[j]? = some v → Value.okWide Try.prog W .any base t v := hval0
  have hW' := hW
  have hlt := hW.lt
  obtain ⟨p, q, hA0, hV, rfl, hfz, hnd⟩ := hW
  have hA : DataW.TrodAll enc Try.prog W 0 (fun _ => true) true Try.f14.params.toList args.toList ds p := hA0
  rw [Try.params14] at hA hval
  obtain ⟨v0, vs0, d0, ds0, p0, q0, hargs, rfl, rfl, h0, r0⟩ := trodAll_cons hA
  obtain ⟨rfl, rfl, rfl⟩ := trodAll_nil r0
  obtain rfl : args = #[v0] := by cases args; simp_all
  obtain ⟨rfl, rfl⟩ := trodVars_none hV
  clear hA0 hval0
  obtain ⟨A, B, rfl, wA, wB⟩ := open_llat (hval 0 23 v0 rfl rfl) h0
  have fin : ∀ (e : Ending) W', (e = .returned (.bool true) ∧ Below W.heap.size W W') → ∃ v, e = .returned v ∧ Rows.fnExactTurnedLatticeSpec.post enc Try.prog Try.f14 false true false false W #[.agg #[.int .i64 A, .int .i64 B]] v W' := by
    rintro e W' ⟨rfl, hb⟩
    exact ⟨_, rfl, law_post rfl rfl hW' (by kernel_rfl) rfl hb⟩
  exact (ok A B W wA wB).mono fin

theorem proved : Rows.FnExactTurnedLatticeSaid :=
  OpenClaim.holds_of_wide 14 Try.f14 rfl rfl rfl rfl rfl rfl rfl ⟨rfl, rfl, rfl, rfl, rfl⟩ rfl rfl rfl rfl rfl (by kernel_rfl) Try.func14 (by kernel_rfl)
    (of_decide_eq_true (by kernel_rfl)) (by unfold Func.isWrapper; first | (rw [if_pos (by decide +kernel)]; kernel_rfl) | (rw [if_neg (by decide +kernel)]; exact ⟨rfl, rfl⟩))
    (fun os started H enc _ => lifted os started H enc)
end Go.Proofs.Ytdpmapgeacnheaa.xTurnedLattice
