/-
  A desk (of the laws' own type) that came in.
-/
import Derived.Test.YtafjpmlakpfidaaFrameP
import Derived.Test.YtafjpmlakpfidaaZ1
namespace Go.Proofs.Ytafjpmlakpfidaa
open Go.ChangeShapes Go.WideShapes Go.ChangeAt Go.RowKit Go.Joins Go.Deep
set_option linter.unusedVariables false
set_option linter.unusedSimpArgs false

theorem cellsLDesk : Try.prog.cellsOf 38 = 7 := by kernel_rfl

theorem cellsLPicS : Try.prog.cellsOf 36 = 1 := by kernel_rfl

theorem open_lpic3 {H : Type} {enc : TypeId × Value → H} {W : World} {fuel : Nat} {c0 c1 c2 : Value} {y : DataW H × List MemPlace}
    (h : DataW.trod enc Try.prog W 0 (fun _ => true) true fuel 34 [c0, c1, c2] = some y) (hlt : ∀ x ∈ y.2, x.block < W.heap.size) :
    ∃ Wd Ht ad n cap xs, c0 = .int .i64 Wd ∧ c1 = .int .i64 Ht ∧ c2 = .slice ad n cap ∧ xs.length = n ∧ Rd W ad xs ∧ n ≤ 9223372036854775807 := by
  obtain ⟨y0, y1, y2, n, hx, _, h0, h1, h2⟩ := trod_struct3 Try.underlying34 h
  have g0 : DataW.trod enc Try.prog W 0 (fun _ => true) true n 3 (([c0, c1, c2].drop 0).take (Try.prog.cellsOf 3)) = some y0 := h0
  have g1 : DataW.trod enc Try.prog W 0 (fun _ => true) true n 3 (([c0, c1, c2].drop 1).take (Try.prog.cellsOf 3)) = some y1 := h1
  have g2 : DataW.trod enc Try.prog W 0 (fun _ => true) true n 22 (([c0, c1, c2].drop 2).take (Try.prog.cellsOf 22)) = some y2 := h2
  rw [cellsInt] at g0 g1
  rw [cellsIS] at g2
  obtain ⟨a, rfl, _⟩ := one_of_trodI (show DataW.trod enc Try.prog W 0 (fun _ => true) true n 3 [c0] = some y0 by simpa using g0)
  obtain ⟨b, rfl, _⟩ := one_of_trodI (show DataW.trod enc Try.prog W 0 (fun _ => true) true n 3 [c1] = some y1 by simpa using g1)
  have e2 : ∀ x ∈ y2.2, x.block < W.heap.size := fun x hx2 => hlt x (by rw [hx]; simp [hx2])
  obtain ⟨ad, n', cp, xs, rfl, e1, e3, e4, _⟩ := open_islice (show DataW.trod enc Try.prog W 0 (fun _ => true) true n 22 [c2] = some y2 by simpa using g2) e2
  exact ⟨a, b, ad, n', cp, xs, rfl, rfl, rfl, e1, e3, e4⟩

theorem open_lmat3 {H : Type} {enc : TypeId × Value → H} {W : World} {fuel : Nat} {c0 c1 c2 : Value} {y : DataW H × List MemPlace}
    (h : DataW.trod enc Try.prog W 0 (fun _ => true) true fuel 35 [c0, c1, c2] = some y) (hlt : ∀ x ∈ y.2, x.block < W.heap.size) :
    ∃ Wd Ht ad n cap xs, c0 = .int .i64 Wd ∧ c1 = .int .i64 Ht ∧ c2 = .slice ad n cap ∧ xs.length = n ∧ Rd W ad xs ∧ n ≤ 9223372036854775807 := by
  obtain ⟨y0, y1, y2, n, hx, _, h0, h1, h2⟩ := trod_struct3 Try.underlying35 h
  have g0 : DataW.trod enc Try.prog W 0 (fun _ => true) true n 3 (([c0, c1, c2].drop 0).take (Try.prog.cellsOf 3)) = some y0 := h0
  have g1 : DataW.trod enc Try.prog W 0 (fun _ => true) true n 3 (([c0, c1, c2].drop 1).take (Try.prog.cellsOf 3)) = some y1 := h1
  have g2 : DataW.trod enc Try.prog W 0 (fun _ => true) true n 22 (([c0, c1, c2].drop 2).take (Try.prog.cellsOf 22)) = some y2 := h2
  rw [cellsInt] at g0 g1
  rw [cellsIS] at g2
  obtain ⟨a, rfl, _⟩ := one_of_trodI (show DataW.trod enc Try.prog W 0 (fun _ => true) true n 3 [c0] = some y0 by simpa using g0)
  obtain ⟨b, rfl, _⟩ := one_of_trodI (show DataW.trod enc Try.prog W 0 (fun _ => true) true n 3 [c1] = some y1 by simpa using g1)
  have e2 : ∀ x ∈ y2.2, x.block < W.heap.size := fun x hx2 => hlt x (by rw [hx]; simp [hx2])
  obtain ⟨ad, n', cp, xs, rfl, e1, e3, e4, _⟩ := open_islice (show DataW.trod enc Try.prog W 0 (fun _ => true) true n 22 [c2] = some y2 by simpa using g2) e2
  exact ⟨a, b, ad, n', cp, xs, rfl, rfl, rfl, e1, e3, e4⟩

set_option maxRecDepth 100000 in
theorem open_ldesk {H : Type} {enc : TypeId × Value → H} {W : World} {base : Nat} {v : Value} {d : DataW H} {p : List MemPlace}
    (hv : Value.okWide Try.prog W .any base 38 v) (h : DataW.Trod enc Try.prog W 0 (fun _ => true) true 38 v d p) (hlt : ∀ x ∈ p, x.block < W.heap.size) :
    ∃ D : Dsk, v = D.val ∧ RdD W D ∧ D.P.n ≤ 9223372036854775807 ∧ D.M.n ≤ 9223372036854775807 ∧ D.n ≤ 9223372036854775807 ∧ (∀ k, k < D.ps.length → (pv D.ps k).n ≤ 9223372036854775807) := by
  obtain ⟨cs, rfl, hsz⟩ := okWide_struct Try.underlying38 hv
  have hsz7 : cs.size = 7 := hsz.trans cellsLDesk
  obtain ⟨fuel, hf⟩ := h
  obtain ⟨y0, y1, y2, n, hx, _, h0, h1, h2⟩ := trod_struct3 Try.underlying38 hf
  simp only [Prod.mk.injEq] at hx
  rw [hx.2] at hlt
  obtain ⟨l⟩ := cs
  match l, hsz7 with
  | [c0, c1, c2, c3, c4, c5, c6], _ =>
    have g0 : DataW.trod enc Try.prog W 0 (fun _ => true) true n 34 (([c0, c1, c2, c3, c4, c5, c6].drop 0).take (Try.prog.cellsOf 34)) = some y0 := h0
    have g1 : DataW.trod enc Try.prog W 0 (fun _ => true) true n 35 (([c0, c1, c2, c3, c4, c5, c6].drop 3).take (Try.prog.cellsOf 35)) = some y1 := h1
    have g2 : DataW.trod enc Try.prog W 0 (fun _ => true) true n 36 (([c0, c1, c2, c3, c4, c5, c6].drop 6).take (Try.prog.cellsOf 36)) = some y2 := h2
    rw [cellsLPic] at g0
    rw [cellsLMat] at g1
    rw [cellsLPicS] at g2
    obtain ⟨W1, H1, a1, n1, p1, x1, rfl, rfl, rfl, q1, q2, q3⟩ := open_lpic3 (show DataW.trod enc Try.prog W 0 (fun _ => true) true n 34 [c0, c1, c2] = some y0 by simpa using g0) (fun x hx2 => hlt x (by simp [hx2]))
    obtain ⟨W2, H2, a2, n2, p2, x2, rfl, rfl, rfl, t1, t2, t3⟩ := open_lmat3 (show DataW.trod enc Try.prog W 0 (fun _ => true) true n 35 [c3, c4, c5] = some y1 by simpa using g1) (fun x hx2 => hlt x (by simp [hx2]))
    have g3 : DataW.trod enc Try.prog W 0 (fun _ => true) true n 36 [c6] = some y2 := by simpa using g2
    have hsl : ∃ a0 len0 cap0, c6 = .slice a0 len0 cap0 := by
      rcases open_slice Try.underlying36 g3 with ⟨hcs, _⟩ | ⟨a, len, cap, m, nn, E, Pl, hcs, _⟩
      · simp at hcs; exact ⟨_, _, _, hcs⟩
      · simp at hcs; exact ⟨_, _, _, hcs⟩
    obtain ⟨a0, len0, cap0, rfl⟩ := hsl
    obtain ⟨a3, n3, p3, ps, e, u1, u2, u3, u4⟩ := open_lpicsV (v := .slice a0 len0 cap0) (d := y2.1) (p := y2.2) ⟨_, _, _, rfl⟩ (by simpa [Value.cells] using g3) (fun x hx2 => hlt x (by simp [hx2]))
    rw [e]
    exact ⟨⟨⟨W1, H1, a1, n1, p1, x1⟩, ⟨W2, H2, a2, n2, p2, x2⟩, a3, n3, p3, ps⟩, rfl, ⟨q1, q2, t1, t2, u1, u2⟩, q3, t3, u3, u4⟩

end Go.Proofs.Ytafjpmlakpfidaa
