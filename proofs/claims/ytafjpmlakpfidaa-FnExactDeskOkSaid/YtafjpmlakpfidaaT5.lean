/-
  append to a row of pictures at a step of a region, and where the row lies then. Nothing of the program but types' numbers.
-/
import Derived.Test.YtafjpmlakpfidaaT4
import Derived.Maps.AppendAt
namespace Go.Proofs.Ytafjpmlakpfidaa
open Go.RowKit
set_option linter.unusedVariables false
set_option linter.unusedSimpArgs false

/-- 'ps = append(ps, p)' at a step of a region that draws, and where the row lies then. -/
theorem step_appV {P : Program} (w : World) {ops : Array Oper} {o : Oper} {a : Act} {K : Act → World → Prop} {Q : Exit → Act → World → Prop} {E : Prop}
    (hgd : o.guard = none) (t : Nat) (ht : P.underlying t = some (.slice 24)) (hi0 : (P.info? 24).map (fun i => (i.zero, i.size, i.bytes)) = some (some (.agg #[.int .i64 0, .int .i64 0, .slice none 0 0]), 3, 40))
    (s x : Operand) (hop : o.op = .call { callee := .builtin .append, args := #[s, x], argTypes := #[t, t] })
    (B n cap : Nat) (ad : Option Addr) (L : List PV) (hs : a.eval s = .slice ad n cap) (ho : RowVA w B ad n cap L) (g : Nat) (p : PV) (hx : a.eval x = .slice (some ⟨g, 0, none⟩) 1 1)
    (h0 : w.cell? ⟨g, 0, none⟩ = some (.int .i64 p.W)) (h1 : w.cell? ⟨g, 1, none⟩ = some (.int .i64 p.H)) (h2 : w.cell? ⟨g, 2, none⟩ = some (.slice p.a p.n p.c)) (hn : n ≤ 1048576) (hB : B ≤ w.heap.size)
    (hK : ∀ ad' cap' w', RowVA w' B ad' (n + 1) cap' (L ++ [p]) → w.grownBy w' (blockOf ad) → (blockOf ad' = blockOf ad ∨ blockOf ad' = some w.heap.size) → K (a.put o.dst (.slice ad' (n + 1) cap')) w') :
    if Region.wanted o (yielded ops a.tmps) = true then Oper.wp P o a w K Q else E := by
  have hw : Region.wanted o (yielded ops a.tmps) = true := by simp [Region.wanted, hgd]
  rw [if_pos hw]
  obtain ⟨i, hi, hz0, hz1, hz2⟩ := info_parts hi0
  have hf : flatV L ++ p.cells = flatV (L ++ [p]) := by simp [flatV]
  obtain ⟨v', w', hr, q2, q3, _, q5⟩ := run_append_own_at (P := P) w B t o.type 24 i (.agg #[.int .i64 0, .int .i64 0, .slice none 0 0]) 3 40 ht hi hz0 hz1 hz2 (by simp [Value.cells]) (by omega) _ n (flatV L) ho.toRow ⟨g, 0, none⟩ 1 1 p.cells (by simp [PV.cells]) (fun j u hj => by
      have hj3 : j = 0 ∨ j = 1 ∨ j = 2 := by
        have := (List.getElem?_eq_some_iff.1 hj).1
        simp [PV.cells] at this
        omega
      rcases hj3 with rfl | rfl | rfl
      · simp [PV.cells] at hj; subst hj; simpa [Addr.add] using h0
      · simp [PV.cells] at hj; subst hj; simpa [Addr.add] using h1
      · simp [PV.cells] at hj; subst hj; simpa [Addr.add] using h2) (fun u hu => by
      simp [PV.cells] at hu
      rcases hu with rfl | rfl | rfl <;> rfl) (by unfold maxLen; omega) (by omega) hB
  unfold Oper.wp execOp
  simp only [hop, resolve, invoke, builtin, Sem.run_bind, Sem.run_pure, Result.andThen_ok, List.map_toArray, List.map_cons, List.map_nil, hs, hx, hr]
  rw [hf] at q2
  obtain ⟨ad', cap', rfl, h5⟩ := RowVA.ofRow (by rw [List.length_append, ho.1]; rfl) q2
  rw [blockOf_ownT] at q3
  rw [blockOf_ownT, blockOf_ownT] at q5
  exact hK ad' cap' w' h5 q3 q5

theorem OwnV.toRowVA {w : World} {B n cap : Nat} {ad : Option Addr} {L : List PV} (h : OwnV w B ad n cap L) : RowVA w B ad n cap L := by
  obtain ⟨h1, h2, _⟩ := h
  exact ⟨h1, h2⟩

/-- A list of one picture, as it is written in place. -/
theorem OwnV.lit {w : World} {B : Nat} {p : PV} (hB : B ≤ w.heap.size) (hp : OwnA w B p.a p.n p.c p.ink) :
    OwnV (w.alloc (.cells #[.int .i64 p.W, .int .i64 p.H, .slice p.a p.n p.c] 24)) B (some ⟨w.heap.size, 0, none⟩) 1 1 [p] := by
  refine ⟨rfl, .inr ⟨_, rfl, hB, ⟨_, heap_alloc_new w _, by simp, by unfold maxLen; omega, by simp, by simp [flatV, PV.cells]⟩⟩, fun k hk => ?_, fun k b hk hb => ?_, fun j k b h1 hk => by omega⟩
  · obtain rfl : k = 0 := by omega
    exact hp.alloc _
  · obtain rfl : k = 0 := by omega
    have := hp.bd b hb
    intro e
    simp only [blockOf, Option.some.injEq] at e
    omega

end Go.Proofs.Ytafjpmlakpfidaa
