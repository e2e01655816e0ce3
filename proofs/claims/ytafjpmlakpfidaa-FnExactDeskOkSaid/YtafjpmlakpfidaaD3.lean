/-
  append to a row of the call's own; contracts of RowMatrix (program and model).
-/
import Derived.Test.YtafjpmlakpfidaaD2
namespace Go.Proofs.Ytafjpmlakpfidaa
open Go.RowKit
set_option linter.unusedVariables false
set_option linter.unusedSimpArgs false

theorem OwnA.toRow {w : World} {B n cap : Nat} {ad : Option Addr} {xs : List Int} (h : OwnA w B ad n cap xs) : w.ownsRow B 3 1 (.slice ad n cap) n (xs.map (Value.int .i64)) := by
  rcases h with ⟨rfl, rfl, rfl, rfl⟩ | ⟨g, rfl, hB, hl, cur, hg, h1, h2, h3, h4⟩
  · exact ⟨rfl, .inl ⟨rfl, rfl⟩⟩
  · exact ⟨by simp [hl], .inr ⟨g, cap, cur, rfl, hB, hg, h1, h2, by omega, by rw [Nat.mul_one]; exact h4⟩⟩

theorem OwnA.ofRow {w : World} {B n : Nat} {v : Value} {xs : List Int} (h : w.ownsRow B 3 1 v n (xs.map (Value.int .i64))) : ∃ ad cap, v = .slice ad n cap ∧ OwnA w B ad n cap xs := by
  obtain ⟨hl, h⟩ := h
  simp at hl
  rcases h with ⟨rfl, rfl⟩ | ⟨g, cap, cur, rfl, hB, hg, h1, h2, h3, h4⟩
  · obtain rfl : xs = [] := List.eq_nil_of_length_eq_zero hl
    exact ⟨Option.none, 0, rfl, OwnA.none _ _⟩
  · exact ⟨_, cap, rfl, .inr ⟨g, rfl, hB, hl, cur, hg, h1, h2, by omega, by rw [Nat.mul_one] at h4; exact h4⟩⟩

theorem blockOf_own (ad : Option Addr) (n cap : Nat) : (Value.slice ad n cap).ownBlock = blockOf ad := by cases ad <;> rfl

/-- 'xs = append(xs, v)'. -/
theorem wp_append (w : World) {ops : Array Oper} {rest : List Oper} {o : Oper} {a : Act} {Q : Exit → Act → World → Prop}
    (hgd : o.guard = none) (s x : Operand) (hop : o.op = .call { callee := .builtin .append, args := #[s, x], argTypes := #[22, 22] })
    (B n cap : Nat) (ad : Option Addr) (xs : List Int) (hs : a.eval s = .slice ad n cap) (ho : OwnA w B ad n cap xs) (g : Nat) (v : Int) (hx : a.eval x = .slice (some ⟨g, 0, none⟩) 1 1)
    (hc : w.cell? ⟨g, 0, none⟩ = some (.int .i64 v)) (hn : n ≤ 1048576) (hB : B ≤ w.heap.size)
    (hK : ∀ ad' cap' w', OwnA w' B ad' (n + 1) cap' (xs ++ [v]) → w.grownBy w' (blockOf ad) → wpList Try.prog ops Q rest (a.put o.dst (.slice ad' (n + 1) cap')) w') :
    wpList Try.prog ops Q (o :: rest) a w := by
  obtain ⟨i, hi, hz0, hz1, hz2⟩ := info_parts infoInt
  refine wpList_append_own w hgd s x 22 hop B 3 i (.int .i64 0) 1 8 Try.underlying22 hi hz0 hz1 hz2 rfl (by decide) _ n (xs.map (Value.int .i64)) hs ho.toRow ⟨g, 0, none⟩ 1 1 [.int .i64 v] hx rfl ?_ ?_ (by unfold maxLen; omega) (by omega) hB ?_
  · intro j u hj
    match j, hj with
    | 0, hj => simp at hj; subst hj; simpa [Addr.add] using hc
  · intro u hu; simp at hu; subst hu; rfl
  · intro v' w' h2 h3 _
    have h4 : w'.ownsRow B 3 1 v' (n + 1) ((xs ++ [v]).map (Value.int .i64)) := by simpa using h2
    obtain ⟨ad', cap', rfl, h5⟩ := OwnA.ofRow h4
    rw [blockOf_own] at h3
    exact hK ad' cap' w' h5 h3

theorem OwnA.other {w : World} {B n cap : Nat} {ad : Option Addr} {xs : List Int} (h : OwnA w B ad n cap xs) {a : Addr} (ha : a.block < B) (u : Value) : OwnA (w.setCell a u) B ad n cap xs := by
  rcases h with h | ⟨g, h1, h2, h⟩
  · exact .inl h
  · exact .inr ⟨g, h1, h2, h.other (by omega) u⟩

/-- Behind an append: a block below the row is as it was. -/
theorem app_blk {wr w1 : World} {B n cap g T : Nat} {ad : Option Addr} {xs : List Int} {cs : Array Value} {O : Obj} (ho : OwnA wr B ad n cap xs) (hg : (wr.alloc O).grownBy w1 (blockOf ad)) (hb : Blk wr g T cs) (h : g < B) : Blk w1 g T cs :=
  (hb.alloc O).grownS hg (fun b hb1 => by have := ho.bd b hb1; omega)

theorem app_below {w0 wr w1 : World} {B C n cap : Nat} {ad : Option Addr} {xs : List Int} {O : Obj} (ho : OwnA wr B ad n cap xs) (hg : (wr.alloc O).grownBy w1 (blockOf ad)) (hb : Below C w0 wr) (h : C < B) (hC : C ≤ wr.heap.size) : Below C w0 w1 :=
  (hb.alloc hC O).grown hg (by simp; omega) (fun k hk => by have := ho.bd k hk; omega)

theorem gen_snoc (n : Nat) (f : Nat → Int) : gen n f ++ [f n] = gen (n + 1) f := by
  simp [gen, List.range_succ]

theorem gen_nil (f : Nat → Int) : gen 0 f = [] := rfl

end Go.Proofs.Ytafjpmlakpfidaa
