/-
  The frame round a law over a code: opening the bytes.
-/
import Derived.Test.YtipcahcljfheaaaFrame
import Derived.Test.YtipcahcljfheaaaR1b
namespace Go.Proofs.Ytipcahcljfheaaa
open Go.ChangeShapes Go.WideShapes Go.ChangeAt Go.RowKit Go.Joins Go.Deep
set_option linter.unusedVariables false
set_option linter.unusedSimpArgs false

theorem cellsU8 : Try.prog.cellsOf 5 = 1 := by kernel_rfl

theorem byte_of_wf {x : Int} (h : (Lit.int .u8 x).wf = true) : 0 ≤ x ∧ x ≤ 255 := by
  have h1 : IntKind.u8.min = 0 := rfl
  have h2 : IntKind.u8.max = 255 := rfl
  simp only [Lit.wf, Bool.and_eq_true, decide_eq_true_eq] at h
  omega

/- A slice of bytes that came in. -/
set_option maxRecDepth 100000 in
theorem open_code {H : Type} {enc : TypeId × Value → H} {W : World} {base : Nat} {v : Value} {d : DataW H} {p : List MemPlace}
    (hv : Value.okWide Try.prog W .any base 22 v) (h : DataW.Trod enc Try.prog W 0 (fun _ => true) true 22 v d p) (hlt : ∀ x ∈ p, x.block < W.heap.size) :
    ∃ ad n cap bs, v = .slice ad n cap ∧ bs.length = n ∧ RdU W.heap.size W ad bs ∧ n ≤ 9223372036854775807 := by
  obtain ⟨a0, len0, cap0, rfl⟩ := okWide_slice Try.underlying22 hv
  obtain ⟨fuel, hf⟩ := h
  rcases open_ints Try.underlying22 Try.underlying5 cellsU8 hf with ⟨hcs, hx⟩ | ⟨a, len, cap, zs, hcs, _, hl, hm, hz, hx, hcell, hwz⟩
  · simp [Value.cells] at hcs
    obtain ⟨rfl, rfl, rfl⟩ := hcs
    exact ⟨none, 0, 0, [], rfl, rfl, fun k hk => by simp at hk, by omega⟩
  · simp [Value.cells] at hcs
    obtain ⟨rfl, rfl, rfl⟩ := hcs
    simp only [if_true] at hz
    unfold maxLen at hm
    refine ⟨some a, len0, cap0, zs.take len0, rfl, by simp; omega, ?_, by omega⟩
    intro k hk
    have hk' : k < len0 := by simp at hk; omega
    have hc := hcell k (by omega)
    obtain ⟨b, off, spot⟩ := a
    have hspot : spot = none := by
      have h0 := hcell 0 (by omega)
      simpa [Addr.add] using World.cell?_spot h0
    subst hspot
    have hbl : b < W.heap.size := by
      simp only [Prod.mk.injEq] at hx
      rw [hx.2] at hlt
      exact hlt (.cell b off) (MemPlace.mem_row.2 ⟨0, by omega, by simp⟩)
    refine ⟨?_, b, off, rfl, hbl, hbl, ?_⟩
    · have := byte_of_wf (hwz (zs.getD k 0) (by
        have hk2 : k < zs.length := by omega
        simp [List.getD, List.getElem?_eq_getElem hk2]))
      simpa [List.getD, List.getElem?_take, hk'] using this
    · rw [Addr.add_lit] at hc
      rw [hc]
      congr 2
      simp [List.getD, List.getElem?_take, hk']

end Go.Proofs.Ytipcahcljfheaaa
