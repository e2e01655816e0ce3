/-
  Contracts of chapter 8: windows that go round a row, crosses (program).
-/
import Derived.Test.YtipcahcljfheaaaW2
import Derived.Deep.Cut
namespace Go.Proofs.Ytipcahcljfheaaa
open Go.RowKit
set_option linter.unusedVariables false
set_option linter.unusedSimpArgs false

theorem rd_window {w : World} {b off : Nat} {xs : List Int} (h : Rd w (some ⟨b, off, none⟩) xs) (s l : Nat) : Rd w (some ⟨b, off + s, none⟩) ((xs.drop s).take l) := by
  intro k hk
  rw [List.length_take, List.length_drop] at hk
  obtain ⟨b', off', h1, h2, h3⟩ := h (s + k) (by omega)
  have e := Option.some.inj h1
  simp only [Addr.mk.injEq] at e
  obtain ⟨rfl, rfl, _⟩ := e
  refine ⟨b, off + s, rfl, h2, ?_⟩
  rw [Nat.add_assoc, h3]
  congr 2
  simp only [List.getD, List.getElem?_take, List.getElem?_drop]
  rw [if_pos (by omega)]

set_option maxHeartbeats 800000 in
theorem impl_window (b off n cap s l : Nat) (S L : Int) (w : World) (hS : S = (s : Int)) (hL : L = (l : Int)) (h1 : 1 ≤ l) (h2 : s + l ≤ n) (h3 : n ≤ cap) (h4 : n ≤ 1048576) :
    Calls Try.prog 43 #[.slice (some ⟨b, off, none⟩) n cap, .int .i64 S, .int .i64 L] w fun e w' => e = .returned (.slice (some ⟨b, off + s, none⟩) l l) ∧ w = w' := by
  subst hS hL
  have f0 : (0 : Int) ≤ (s : Int) := by omega
  have f1 : (s : Int) ≤ (s : Int) + (l : Int) := by omega
  have f2 : (s : Int) + (l : Int) ≤ (cap : Int) := by omega
  have f3 : (s : Int) + (l : Int) ≤ (s : Int) + (l : Int) := by omega
  have f4 : ((s : Int) + (l : Int)).toNat = s + l := by omega
  have f5 : ¬ s + l = s := by omega
  go_enter Try.func43, Try.ntmps43
  go_wp2_with fail
  go_ret
  exact ⟨rfl, rfl⟩

set_option maxHeartbeats 800000 in
theorem impl_window0 (b off n cap s : Nat) (S : Int) (w : World) (hS : S = (s : Int)) (h2 : s ≤ n) (h3 : n ≤ cap) (h4 : n ≤ 1048576) :
    Calls Try.prog 43 #[.slice (some ⟨b, off, none⟩) n cap, .int .i64 S, .int .i64 0] w fun e w' => e = .returned (.slice (some ⟨b, off, none⟩) 0 0) ∧ w = w' := by
  subst hS
  have f0 : (0 : Int) ≤ (s : Int) := by omega
  have f1 : (s : Int) ≤ (s : Int) := by omega
  have f2 : (s : Int) ≤ (cap : Int) := by omega
  go_enter Try.func43, Try.ntmps43
  go_wp2_with fail
  go_ret
  exact ⟨rfl, rfl⟩

set_option maxHeartbeats 800000 in
theorem impl_rowOf (W : Nat) (H : Int) (b off n cap y : Nat) (Y : Int) (w : World) (hY : Y = (y : Int)) (h1 : 1 ≤ W) (hy : y ≤ 64) (hW : W ≤ 64) (h2 : y * W + W ≤ n) (h3 : n ≤ cap) (h4 : n ≤ 1048576) :
    Calls Try.prog 29 #[.agg #[.int .i64 W, .int .i64 H, .slice (some ⟨b, off, none⟩) n cap], .int .i64 Y] w fun e w' => e = .returned (.slice (some ⟨b, off + y * W, none⟩) W W) ∧ Below w.heap.size w w' := by
  subst hY
  have e0 : ((y : Int) * (W : Int)) = ((y * W : Nat) : Int) := by simp
  have b0 : 0 ≤ (y : Int) * (W : Int) := Int.mul_nonneg (by omega) (by omega)
  have b1 : (y : Int) * (W : Int) ≤ 1048576 := by rw [e0]; omega
  have E0 := Lib.hid e0
  clear e0
  go_enter Try.func29, Try.ntmps29
  go_wp2_with fail
  refine (impl_window b off n cap (y * W) W _ _ _ E0.out rfl h1 h2 h3 h4).mono ?_
  rintro e w2 ⟨rfl, rfl⟩
  go_wp2_with fail
  go_ret
  exact ⟨rfl, Joins.below_alloc1 _ _⟩

/-- 'append(s, xs...)' at a step of a region, s without room: a new row of both. -/
theorem step_append_new (w : World) {ops : Array Oper} {o : Oper} {a : Act} {K : Act → World → Prop} {Q : Exit → Act → World → Prop} {E : Prop}
    (hgd : o.guard = none) (s x : Operand) (hop : o.op = .call { callee := .builtin .append, args := #[s, x], argTypes := #[23, 23] })
    (b off n b2 off2 m c2 : Nat) (xs zs : List Int) (hs : a.eval s = .slice (some ⟨b, off, none⟩) n n) (hx : a.eval x = .slice (some ⟨b2, off2, none⟩) m c2) (hl : xs.length = n) (hm : zs.length = m) (h1 : 1 ≤ m) (hn : n + m ≤ 1024)
    (hr : ∀ j, j < n → w.cell? ⟨b, off + j, none⟩ = some (.int .i64 (xs.getD j 0))) (hz : ∀ j, j < m → w.cell? ⟨b2, off2 + j, none⟩ = some (.int .i64 (zs.getD j 0)))
    (hK : ∀ c w', OwnA w' w.heap.size (some ⟨w.heap.size, 0, none⟩) (n + m) c (xs ++ zs) → Below w.heap.size w w' → K (a.put o.dst (.slice (some ⟨w.heap.size, 0, none⟩) (n + m) c)) w') :
    if Region.wanted o (yielded ops a.tmps) = true then Oper.wp Try.prog o a w K Q else E := by
  have hw : Region.wanted o (yielded ops a.tmps) = true := by simp [Region.wanted, hgd]
  rw [if_pos hw]
  obtain ⟨i, hi, hz0, hz1, hz2⟩ := info_parts infoInt
  have hrun := run_append_grow (P := Try.prog) (w := w) 23 o.type 3 i (.int .i64 0) Try.underlying23 hi hz0 ⟨b, off, none⟩ n n (xs.map (Value.int .i64)) (by rw [hz1]; simpa using hl) (fun j v hv => by
      have hj : j < xs.length := by have := (List.getElem?_eq_some_iff.1 hv).1; simpa using this
      rw [Addr.add_lit, hr j (by omega), ← hv]
      simp [List.getD, hj]) ⟨b2, off2, none⟩ m c2 (zs.map (Value.int .i64)) (by rw [hz1]; simpa using hm) (fun j v hv => by
      have hj : j < zs.length := by have := (List.getElem?_eq_some_iff.1 hv).1; simpa using this
      rw [Addr.add_lit, hz j (by omega), ← hv]
      simp [List.getD, hj]) (by omega) (by omega) (by
    rw [hz2]
    have := nextslicecap_le (need := n + m) (old := n) (by omega)
    omega)
  unfold Oper.wp
  simp [execOp, hop, resolve, invoke, builtin, hs, hx, hrun, Result.andThen]
  have hg1 := grownCap_ge w (n + m) n 3
  have hg2 := grownCap_le_maxLen w (n + m) n 3 (by unfold maxLen; omega)
  refine hK _ _ ?_ ?_
  · refine OwnA.mk ⟨by simp; omega, _, heap_alloc_new w.drew _, hg1, hg2, ?_, ?_⟩ (Nat.le_refl _)
    · simp [Value.cells, Builtin.zeroCells]
      omega
    · simp [Value.cells]
      rw [← List.append_assoc, List.take_append_of_le_length (by simp; omega), List.take_of_length_le (by simp; omega)]
  · exact bAlloc (Below.refl _ _).drew _

/-- 'append(s, xs...)' of nothing. -/
theorem step_append_nothing (w : World) {ops : Array Oper} {o : Oper} {a : Act} {K : Act → World → Prop} {Q : Exit → Act → World → Prop} {E : Prop}
    (hgd : o.guard = none) (s x : Operand) (hop : o.op = .call { callee := .builtin .append, args := #[s, x], argTypes := #[23, 23] })
    (A : Addr) (n c : Nat) (A2 : Addr) (c2 : Nat) (hs : a.eval s = .slice (some A) n c) (hx : a.eval x = .slice (some A2) 0 c2) (hc : n ≤ c)
    (hK : K (a.put o.dst (.slice (some A) n c)) w) :
    if Region.wanted o (yielded ops a.tmps) = true then Oper.wp Try.prog o a w K Q else E := by
  have hw : Region.wanted o (yielded ops a.tmps) = true := by simp [Region.wanted, hgd]
  rw [if_pos hw]
  obtain ⟨i, hi, hz0, hz1, hz2⟩ := info_parts infoInt
  have hrun : (Builtin.append_ #[23, 23] o.type #[.slice (some A) n c, .slice (some A2) 0 c2]).run Try.prog w = .ok (.slice (some A) n c) w := by
    simp [Builtin.append_, run_underlying Try.underlying23, sizeOf, typeInfo, hi, Builtin.lenOf, Builtin.firstCells, hc, storeCells, loadCells, loadCellsFrom]
  unfold Oper.wp
  simp [execOp, hop, resolve, invoke, builtin, hs, hx, hrun, Result.andThen]
  exact hK

/-- A row from place s on, once round. -/
def rotL (xs : List Int) (s : Nat) : List Int := xs.drop s ++ xs.take s

/-- A slice of n numbers that reads as xs, in block b or in new memory. -/
def SliceOut (w : World) (n b : Nat) (xs : List Int) (e : Ending) (w' : World) : Prop := ∃ a c, e = .returned (.slice a n c) ∧ Rd w' a xs ∧ (∀ x, blockOf a = some x → x = b ∨ w.heap.size ≤ x) ∧ Below w.heap.size w w'

end Go.Proofs.Ytipcahcljfheaaa
