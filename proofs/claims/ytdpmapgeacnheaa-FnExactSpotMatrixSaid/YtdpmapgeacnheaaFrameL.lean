/-
  The frame of a law over a lattice: the argument opened, the copy, the comparison.
-/
import Derived.Test.YtdpmapgeacnheaaFrame
import Derived.Test.YtdpmapgeacnheaaN1
namespace Go.Proofs.Ytdpmapgeacnheaa
open Go.ChangeShapes Go.WideShapes Go.ChangeAt Go.RowKit Go.Joins Go.Deep
set_option linter.unusedVariables false
set_option linter.unusedSimpArgs false

theorem one_int5 {H : Type} {enc : TypeId × Value → H} {W : World} {fuel : Nat} {v : Value} {y : DataW H × List MemPlace}
    (h : DataW.trod enc Try.prog W 0 (fun _ => true) true fuel 3 [v] = some y) : ∃ x, v = .int .i64 x ∧ InI x := by
  obtain ⟨a, e0, _, wa⟩ := DataW.trod_int Try.underlying3 h
  simp only [List.cons.injEq, and_true] at e0
  exact ⟨a, e0, inI_of_wf wa⟩

theorem cellsLLat : Try.prog.cellsOf 23 = 2 := by kernel_rfl

set_option maxRecDepth 100000 in
/-- A lattice (of the laws' own type) that came in. -/
theorem open_llat {H : Type} {enc : TypeId × Value → H} {W : World} {base : Nat} {v : Value} {d : DataW H} {p : List MemPlace}
    (hv : Value.okWide Try.prog W .any base 23 v) (h : DataW.Trod enc Try.prog W 0 (fun _ => true) true 23 v d p) :
    ∃ A B, v = .agg #[.int .i64 A, .int .i64 B] ∧ InI A ∧ InI B := by
  obtain ⟨v0, v1, y0, y1, m, rfl, rfl, rfl, h0, h1⟩ := open_agg2 Try.underlying23 (by kernel_rfl) cellsLLat hv h
  obtain ⟨a, rfl, wa⟩ := one_int5 h0
  obtain ⟨b, rfl, wb⟩ := one_int5 h1
  exact ⟨a, b, rfl, wa, wb⟩

set_option maxHeartbeats 400000 in
theorem toLat (A B : Int) (w : World) :
    Calls Try.prog 16 #[.agg #[.int .i64 A, .int .i64 B]] w fun e w' => e = .returned (.agg #[.int .i64 A, .int .i64 B]) ∧ Below w.heap.size w w' := by
  go_enter Try.func16, Try.ntmps16
  go_wp2_with fail
  exact bodyPost_ret (v := .agg #[.int .i64 A, .int .i64 B]) (by simp [results, Try.results16, go_sem]) rfl ⟨rfl, (((Below.refl _ _).alloc (Nat.le_refl _) _).alloc (by simp) _).alloc (by simp; omega) _⟩

set_option maxHeartbeats 400000 in
theorem eqLat (A B : Int) (w : World) :
    Calls Try.prog 49 #[.agg #[.int .i64 A, .int .i64 B], .agg #[.int .i64 A, .int .i64 B]] w fun e w' => e = .returned (.bool true) ∧ Below w.heap.size w w' := by
  go_enter Try.func49, Try.ntmps49
  go_wp2_with fail
  go_ret
  exact ⟨rfl, Joins.below_alloc2 _ _ _⟩

end Go.Proofs.Ytdpmapgeacnheaa
