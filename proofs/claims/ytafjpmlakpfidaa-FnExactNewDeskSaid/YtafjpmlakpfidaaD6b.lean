/-
  Contracts of chapter 3: ShiftMatrix (program and model).
-/
import Derived.Test.YtafjpmlakpfidaaD6
import Derived.Deep.RegionHeld3
import Derived.Deep.AppendLies
import Derived.Deep.RegionLaw
import Derived.Deep.DrawnRows
namespace Go.Proofs.Ytafjpmlakpfidaa
open Go.RowKit
set_option linter.unusedVariables false
set_option linter.unusedSimpArgs false
attribute [local go_sem ↓] Go.wp_at_zero Go.wp_at_succ

theorem below_undrew {w v : World} {B : Nat} (h : Below B w.drew v) : Below B w v := ⟨h.os, h.tape, h.output, h.size, h.block⟩

theorem cell_far {v : World} {g b i j : Nat} {x y : Value} (h : v.cell? ⟨b, j, none⟩ = some y) (hne : g ≠ b) : (v.setCell ⟨g, i, none⟩ x).cell? ⟨b, j, none⟩ = some y := by
  rw [← h]
  exact World.cell?_of_block (Below.heap_setCell v _ x b (by simp; omega))

theorem cell_al {v : World} {a : Addr} {y : Value} {O : Obj} (h : v.cell? a = some y) : (v.alloc O).cell? a = some y := by
  rw [World.cell?_alloc_some _ _ _ (by rw [h]; rfl), h]

theorem cell_new1 (w : World) (v : Value) (T : Nat) : (w.alloc (.cells #[v] T)).cell? ⟨w.heap.size, 0, none⟩ = some v := (Blk.new w T #[v]).cell 0

theorem grown_of_below {w v : World} {row : Option Nat} (h : Below w.heap.size w v) : w.grownBy v row := ⟨h.os, h.tape, h.output, h.size, fun i hi _ => h.block i hi⟩

/-- 'xs = append(xs, v)' at a step of a region that draws. -/
theorem step_append (w : World) {ops : Array Oper} {o : Oper} {a : Act} {K : Act → World → Prop} {Q : Exit → Act → World → Prop} {E : Prop}
    (hgd : o.guard = none) (s x : Operand) (hop : o.op = .call { callee := .builtin .append, args := #[s, x], argTypes := #[22, 22] })
    (B n cap : Nat) (ad : Option Addr) (xs : List Int) (hs : a.eval s = .slice ad n cap) (ho : OwnA w B ad n cap xs) (g : Nat) (v : Int) (hx : a.eval x = .slice (some ⟨g, 0, none⟩) 1 1)
    (hc : w.cell? ⟨g, 0, none⟩ = some (.int .i64 v)) (hn : n ≤ 1048576) (hB : B ≤ w.heap.size)
    (hK : ∀ ad' cap' w', OwnA w' B ad' (n + 1) cap' (xs ++ [v]) → w.grownBy w' (blockOf ad) → K (a.put o.dst (.slice ad' (n + 1) cap')) w') :
    if Region.wanted o (yielded ops a.tmps) = true then Oper.wp Try.prog o a w K Q else E := by
  have hw : Region.wanted o (yielded ops a.tmps) = true := by simp [Region.wanted, hgd]
  rw [if_pos hw]
  obtain ⟨i, hi, hz0, hz1, hz2⟩ := info_parts infoInt
  refine wp_append_own w s x 22 hop B 3 i (.int .i64 0) 1 8 Try.underlying22 hi hz0 hz1 hz2 rfl (by decide) _ n (xs.map (Value.int .i64)) hs ho.toRow ⟨g, 0, none⟩ 1 1 [.int .i64 v] hx rfl ?_ ?_ (by unfold maxLen; omega) (by omega) hB ?_
  · intro j u hj
    match j, hj with
    | 0, hj => simp at hj; subst hj; simpa [Addr.add] using hc
  · intro u hu; simp at hu; subst hu; rfl
  · intro v' w' h2 h3 _
    have h4 : w'.ownsRow B 3 1 v' (n + 1) ((xs ++ [v]).map (Value.int .i64)) := by simpa using h2
    obtain ⟨ad', cap', rfl, h5⟩ := OwnA.ofRow h4
    rw [blockOf_own] at h3
    exact hK ad' cap' w' h5 h3

end Go.Proofs.Ytafjpmlakpfidaa
