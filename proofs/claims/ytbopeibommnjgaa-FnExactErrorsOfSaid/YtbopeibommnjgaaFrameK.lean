/-
  Opening a list of parts that came in.
-/
import Derived.Test.YtbopeibommnjgaaFrame
import Derived.Test.YtbopeibommnjgaaK1
import Derived.Deep.Slices
import Derived.Deep.Fields
namespace Go.Proofs.Ytbopeibommnjgaa
open Go.ChangeShapes Go.WideShapes Go.ChangeAt Go.RowKit Go.Joins Go.Deep
set_option linter.unusedVariables false
set_option linter.unusedSimpArgs false

theorem cellsLPart : Try.prog.cellsOf 68 = 3 := by kernel_rfl

theorem one_int {H : Type} {enc : TypeId × Value → H} {W : World} {fuel : Nat} {c : List Value} {y : DataW H × List MemPlace} (h : DataW.trod enc Try.prog W 0 (fun _ => true) true fuel 3 c = some y) : ∃ x, c = [.int .i64 x] := by
  obtain ⟨a, e0, _, _⟩ := DataW.trod_int Try.underlying3 h
  exact ⟨a, e0⟩

theorem parts_list {P : Nat → Prt → Prop} (m : Nat) (h : ∀ i, i < m → ∃ p, P i p) : ∃ ks : List Prt, ks.length = m ∧ ∀ i, i < m → P i (prt ks i) := by
  induction m with
  | zero => exact ⟨[], rfl, fun i hi => by omega⟩
  | succ m ih =>
    obtain ⟨ks, hl, hk⟩ := ih (fun i hi => h i (by omega))
    obtain ⟨p, hp⟩ := h m (by omega)
    refine ⟨ks ++ [p], by simp [hl], fun i hi => ?_⟩
    by_cases e : i = m
    · subst e
      have : prt (ks ++ [p]) i = p := by unfold prt; rw [← hl]; simp [List.getD]
      rw [this]; exact hp
    · have : prt (ks ++ [p]) i = prt ks i := by unfold prt; simp [List.getD, List.getElem?_append_left (show i < ks.length by omega)]
      rw [this]; exact hk i (by omega)

theorem rd_of_parts {W : World} {b off n : Nat} {ks : List Prt} (hl : ks.length = n) (hb : 0 < n → b < W.heap.size) (h : ∀ i, i < n → W.cell? ⟨b, off + i * 3, none⟩ = some (.int .i64 (prt ks i).dx) ∧ W.cell? ⟨b, off + i * 3 + 1, none⟩ = some (.int .i64 (prt ks i).dy) ∧ W.cell? ⟨b, off + i * 3 + 2, none⟩ = some (.int .i64 (prt ks i).wt)) : Rd W (some ⟨b, off, none⟩) (flat ks) := by
  intro k hk
  rw [flat_len] at hk
  have hi : k / 3 < n := by omega
  obtain ⟨e0, e1, e2⟩ := flat_at ks (k / 3) (by omega)
  obtain ⟨c0, c1, c2⟩ := h (k / 3) hi
  refine ⟨b, off, rfl, hb (by omega), ?_⟩
  have h3 : k % 3 = 0 ∨ k % 3 = 1 ∨ k % 3 = 2 := by omega
  rcases h3 with h3 | h3 | h3
  · rw [show k = 3 * (k / 3) by omega, e0, ← c0]; congr 2; omega
  · rw [show k = 3 * (k / 3) + 1 by omega, e1, ← c1]; congr 2; omega
  · rw [show k = 3 * (k / 3) + 2 by omega, e2, ← c2]; congr 2; omega

set_option maxRecDepth 100000 in
theorem open_lparts {H : Type} {enc : TypeId × Value → H} {W : World} {base : Nat} {v : Value} {d : DataW H} {p : List MemPlace}
    (hv : Value.okWide Try.prog W .any base 22 v) (h : DataW.Trod enc Try.prog W 0 (fun _ => true) true 22 v d p) (hlt : ∀ x ∈ p, x.block < W.heap.size) :
    ∃ ad n cap ks, v = .slice ad n cap ∧ ks.length = n ∧ Rd W ad (flat ks) ∧ n ≤ 9223372036854775807 ∧ n ≤ cap := by
  obtain ⟨a0, len0, cap0, rfl⟩ := okWide_slice Try.underlying22 hv
  obtain ⟨fuel, hf⟩ := h
  rcases open_slice Try.underlying22 hf with ⟨hcs, hx⟩ | ⟨a, len, cap, m, nn, D, Pl, hcs, _, hl, hm, hmm, hx, hi⟩
  · simp [Value.cells] at hcs
    obtain ⟨rfl, rfl, rfl⟩ := hcs
    exact ⟨none, 0, 0, [], rfl, rfl, Rd.nil _ _, by omega, by omega⟩
  · simp [Value.cells] at hcs
    obtain ⟨rfl, rfl, rfl⟩ := hcs
    simp only [if_true] at hmm
    unfold maxLen at hm
    rw [cellsLPart] at hi hx
    obtain ⟨b, off, spot⟩ := a
    have each : ∀ i, i < m → ∃ q : Prt, W.cell? ((Addr.mk b off spot).add (i * 3)) = some (.int .i64 q.dx) ∧ W.cell? ((Addr.mk b off spot).add (i * 3 + 1)) = some (.int .i64 q.dy) ∧ W.cell? ((Addr.mk b off spot).add (i * 3 + 2)) = some (.int .i64 q.wt) := by
      intro i him
      obtain ⟨cs', hc, ht'⟩ := hi i him
      obtain ⟨ys, n', hn', hy, hlen, hyl, hfl⟩ := DataW.trod_struct Try.underlying68 ht'
      obtain ⟨_, hcl, hat⟩ := World.cells?_some hc
      have g0 : DataW.trod enc Try.prog W 0 (fun _ => true) true n' 3 ((cs'.drop 0).take (Try.prog.cellsOf 3)) = ys[0]? := hfl 0 _ rfl
      have g1 : DataW.trod enc Try.prog W 0 (fun _ => true) true n' 3 ((cs'.drop 1).take (Try.prog.cellsOf 3)) = ys[1]? := hfl 1 _ rfl
      have g2 : DataW.trod enc Try.prog W 0 (fun _ => true) true n' 3 ((cs'.drop 2).take (Try.prog.cellsOf 3)) = ys[2]? := hfl 2 _ rfl
      rw [cellsInt] at g0 g1 g2
      have hyl3 : ys.length = 3 := hyl
      rw [List.getElem?_eq_getElem (show 0 < ys.length by omega)] at g0
      rw [List.getElem?_eq_getElem (show 1 < ys.length by omega)] at g1
      rw [List.getElem?_eq_getElem (show 2 < ys.length by omega)] at g2
      obtain ⟨x0, h0⟩ := one_int g0
      obtain ⟨x1, h1⟩ := one_int g1
      obtain ⟨x2, h2⟩ := one_int g2
      match cs', hcl with
      | [u0, u1, u2], _ =>
        simp at h0 h1 h2
        subst h0 h1 h2
        refine ⟨⟨x0, x1, x2⟩, ?_, ?_, ?_⟩
        · have := hat 0 (by omega); rw [Go.Deep.add_add, Nat.add_zero] at this; simpa using this
        · have := hat 1 (by omega); rw [Go.Deep.add_add] at this; simpa using this
        · have := hat 2 (by omega); rw [Go.Deep.add_add] at this; simpa using this
    by_cases hm0 : len0 = 0
    · subst hm0
      exact ⟨some ⟨b, off, spot⟩, 0, cap0, [], rfl, rfl, fun k hk => by simp [flat] at hk, by omega, by omega⟩
    have hspot : spot = none := by
      obtain ⟨q, h0, _⟩ := each 0 (by omega)
      simpa [Addr.add] using World.cell?_spot h0
    subst hspot
    obtain ⟨ks, hkl, hks⟩ := parts_list (P := fun i q => W.cell? ⟨b, off + i * 3, none⟩ = some (.int .i64 q.dx) ∧ W.cell? ⟨b, off + i * 3 + 1, none⟩ = some (.int .i64 q.dy) ∧ W.cell? ⟨b, off + i * 3 + 2, none⟩ = some (.int .i64 q.wt)) len0 (fun i hin => by
      obtain ⟨q, h0, h1, h2⟩ := each i (by omega)
      rw [Addr.add_lit] at h0 h1 h2
      exact ⟨q, h0, h1, h2⟩)
    refine ⟨_, len0, cap0, ks, rfl, hkl, rd_of_parts hkl (fun h0 => ?_) hks, by omega, by omega⟩
    simp only [Prod.mk.injEq] at hx
    rw [hx.2] at hlt
    exact hlt (.cell b off) (List.mem_append_left _ (MemPlace.mem_row.2 ⟨0, by omega, by simp⟩))

set_option maxRecDepth 100000 in
theorem open_lints {H : Type} {enc : TypeId × Value → H} {W : World} {base : Nat} {v : Value} {d : DataW H} {p : List MemPlace}
    (hv : Value.okWide Try.prog W .any base 33 v) (h : DataW.Trod enc Try.prog W 0 (fun _ => true) true 33 v d p) (hlt : ∀ x ∈ p, x.block < W.heap.size) :
    ∃ ad n cap xs, v = .slice ad n cap ∧ xs.length = n ∧ Rd W ad xs ∧ n ≤ 9223372036854775807 ∧ (∀ x ∈ xs, InI x) := by
  obtain ⟨a0, len0, cap0, rfl⟩ := okWide_slice Try.underlying33 hv
  obtain ⟨fuel, hf⟩ := h
  obtain ⟨ad, n, cap, xs, h1, h2⟩ := open_islice (y := (d, p)) (v := .slice a0 len0 cap0) (by simpa [Value.cells] using hf) hlt
  exact ⟨ad, n, cap, xs, h1, h2⟩

end Go.Proofs.Ytbopeibommnjgaa
