/-
  Rows of structs whose fields are numbers: a block of n elements of sz cells. Nothing of the program but the numbers of types.
-/
import Derived.Test.YtafjpmlakpfidaaRows
import Derived.Test.YtafjpmlakpfidaaLib
import Derived.Test.YtafjpmlakpfidaaM21
namespace Go.Proofs.Ytafjpmlakpfidaa
open Go.RowKit
set_option linter.unusedVariables false
set_option linter.unusedSimpArgs false

/-- Block g of w is a row of elements of type T, of sz cells each, whose first n read as the numbers xs. -/
def RowT (w : World) (T sz g n cap : Nat) (xs : List Int) : Prop :=
  xs.length = n * sz ∧ ∃ cur, w.heap[g]? = some (.cells cur T (0, 0)) ∧ n ≤ cap ∧ cap ≤ maxLen ∧ cur.size = cap * sz ∧ cur.toList.take (n * sz) = xs.map (Value.int .i64)

namespace RowT
variable {w w' : World} {T sz g n cap : Nat} {xs : List Int}

theorem len (h : RowT w T sz g n cap xs) : xs.length = n * sz := h.1

theorem lt (h : RowT w T sz g n cap xs) : g < w.heap.size := by
  obtain ⟨_, cur, hg, _⟩ := h
  exact (Array.getElem?_eq_some_iff.1 hg).1

theorem cell (h : RowT w T sz g n cap xs) {j : Nat} (hj : j < n * sz) : w.cell? ⟨g, j, none⟩ = some (.int .i64 (xs.getD j 0)) := by
  obtain ⟨hl, cur, hg, _, _, _, ht⟩ := h
  rw [cell_of_row w g j cur T (0, 0) hg]
  have h2 : (cur.toList.take (n * sz))[j]? = (xs.map (Value.int .i64))[j]? := by rw [ht]
  rw [List.getElem?_take, if_pos hj] at h2
  simp only [Array.getElem?_toList] at h2
  rw [h2]
  simp [List.getD, List.getElem?_eq_getElem (show j < xs.length by omega)]

theorem frozen (h : RowT w T sz g n cap xs) (j : Nat) : w.frozen? ⟨g, j, none⟩ = false := by
  obtain ⟨_, cur, hg, _⟩ := h
  exact frozen_of_row w g j cur T hg

theorem set (h : RowT w T sz g n cap xs) (j : Nat) (v : Int) : RowT (w.setCell ⟨g, j, none⟩ (.int .i64 v)) T sz g n cap (xs.set j v) := by
  obtain ⟨hl, cur, hg, h1, h2, h3, ht⟩ := h
  refine ⟨by simpa using hl, cur.setIfInBounds j (.int .i64 v), heap_setCell_same w g j cur _ _ hg, h1, h2, by simpa using h3, ?_⟩
  rw [Array.toList_setIfInBounds, List.map_set, ← ht, List.take_set]

theorem of_block (h : RowT w T sz g n cap xs) (hb : w'.heap[g]? = w.heap[g]?) : RowT w' T sz g n cap xs := by
  obtain ⟨hl, cur, hg, r⟩ := h
  exact ⟨hl, cur, hb.trans hg, r⟩

theorem below {B : Nat} (h : RowT w T sz g n cap xs) (hb : Below B w w') (hg : g < B) : RowT w' T sz g n cap xs := h.of_block (hb.block g hg)

theorem grown {row : Option Nat} (h : RowT w T sz g n cap xs) (hb : w.grownBy w' row) (hg : some g ≠ row) : RowT w' T sz g n cap xs := h.of_block (hb.block g h.lt hg)

theorem alloc (h : RowT w T sz g n cap xs) (o : Obj) : RowT (w.alloc o) T sz g n cap xs := h.of_block (Below.heap_alloc w o g h.lt)

theorem drewN (h : RowT w T sz g n cap xs) (m : Nat) : RowT (w.drewN m) T sz g n cap xs := h.of_block rfl

theorem other (h : RowT w T sz g n cap xs) {a : Addr} (ha : a.block ≠ g) (u : Value) : RowT (w.setCell a u) T sz g n cap xs := h.of_block (Below.heap_setCell w a u g (by omega))

theorem rd (h : RowT w T sz g n cap xs) : Rd w (some ⟨g, 0, none⟩) xs := fun k hk => ⟨g, 0, rfl, h.lt, by rw [Nat.zero_add]; exact h.cell (by have := h.len; omega)⟩

end RowT

/-- A slice of the call's own, from block B on, or nil. -/
def RowA (w : World) (T sz B : Nat) (ad : Option Addr) (n cap : Nat) (xs : List Int) : Prop :=
  (ad = none ∧ n = 0 ∧ cap = 0 ∧ xs = []) ∨ ∃ g, ad = some ⟨g, 0, none⟩ ∧ B ≤ g ∧ RowT w T sz g n cap xs

namespace RowA
variable {w w' : World} {T sz B n cap : Nat} {ad : Option Addr} {xs : List Int}

theorem mk {g : Nat} (h : RowT w T sz g n cap xs) (hB : B ≤ g) : RowA w T sz B (some ⟨g, 0, none⟩) n cap xs := .inr ⟨g, rfl, hB, h⟩

theorem none (w : World) (T sz B : Nat) : RowA w T sz B none 0 0 [] := .inl ⟨rfl, rfl, rfl, rfl⟩

theorem len (h : RowA w T sz B ad n cap xs) : xs.length = n * sz := by
  rcases h with ⟨_, rfl, _, rfl⟩ | ⟨g, _, _, h⟩
  · simp
  · exact h.len

theorem rd (h : RowA w T sz B ad n cap xs) : Rd w ad xs := by
  rcases h with ⟨_, _, _, rfl⟩ | ⟨g, rfl, _, h⟩
  · exact Rd.nil _ _
  · exact h.rd

theorem below {B' : Nat} (h : RowA w T sz B ad n cap xs) (hb : Below B' w w') (hg : w.heap.size ≤ B') : RowA w' T sz B ad n cap xs := by
  rcases h with h | ⟨g, h1, h2, h⟩
  · exact .inl h
  · exact .inr ⟨g, h1, h2, h.below hb (by have := h.lt; omega)⟩

theorem below' (h : RowA w T sz B ad n cap xs) (hb : Below w.heap.size w w') : RowA w' T sz B ad n cap xs := h.below hb (Nat.le_refl _)

theorem grown {row : Option Nat} (h : RowA w T sz B ad n cap xs) (hb : w.grownBy w' row) (hg : ∀ k, row = some k → k < B) : RowA w' T sz B ad n cap xs := by
  rcases h with h | ⟨g, h1, h2, h⟩
  · exact .inl h
  · exact .inr ⟨g, h1, h2, h.grown hb (fun e => by have := hg g e.symm; omega)⟩

theorem grown2 {row : Option Nat} (h : RowA w T sz B ad n cap xs) (hb : w.grownBy w' row) (hg : ∀ k, row = some k → w.heap.size ≤ k ∨ blockOf ad ≠ some k) : RowA w' T sz B ad n cap xs := by
  rcases h with h | ⟨g, h1, h2, h⟩
  · exact .inl h
  · refine .inr ⟨g, h1, h2, h.grown hb (fun e => ?_)⟩
    have hl := h.lt
    rcases hg g e.symm with h3 | h3
    · omega
    · subst h1; simp [blockOf] at h3

theorem grownS {o : Option Addr} (h : RowA w T sz B ad n cap xs) (hb : w.grownBy w' (blockOf o)) (hs : ∀ b, blockOf o = some b → blockOf ad ≠ some b) : RowA w' T sz B ad n cap xs :=
  h.grown2 hb (fun k hk => .inr (hs k hk))

theorem drewN (h : RowA w T sz B ad n cap xs) (m : Nat) : RowA (w.drewN m) T sz B ad n cap xs := by
  rcases h with h | ⟨g, h1, h2, h⟩
  · exact .inl h
  · exact .inr ⟨g, h1, h2, h.drewN m⟩

theorem drew (h : RowA w T sz B ad n cap xs) : RowA w.drew T sz B ad n cap xs := h.drewN 1

theorem alloc (h : RowA w T sz B ad n cap xs) (o : Obj) : RowA (w.alloc o) T sz B ad n cap xs := h.below (Joins.below_alloc1 w o) (Nat.le_refl _)

theorem other (h : RowA w T sz B ad n cap xs) {a : Addr} (ha : a.block < B) (u : Value) : RowA (w.setCell a u) T sz B ad n cap xs := by
  rcases h with h | ⟨g, h1, h2, h⟩
  · exact .inl h
  · exact .inr ⟨g, h1, h2, h.other (by omega) u⟩

theorem bd (h : RowA w T sz B ad n cap xs) : ∀ b, blockOf ad = some b → B ≤ b ∧ b < w.heap.size := by
  intro b hb
  rcases h with ⟨rfl, _⟩ | ⟨g, rfl, h2, h⟩
  · simp [blockOf] at hb
  · simp only [blockOf, Option.some.injEq] at hb
    subst hb
    exact ⟨h2, h.lt⟩

theorem mono {B' : Nat} (h : RowA w T sz B ad n cap xs) (hB : B' ≤ B) : RowA w T sz B' ad n cap xs := by
  rcases h with h | ⟨g, h1, h2, h⟩
  · exact .inl h
  · exact .inr ⟨g, h1, by omega, h⟩

theorem toRow (h : RowA w T sz B ad n cap xs) : w.ownsRow B T sz (.slice ad n cap) n (xs.map (Value.int .i64)) := by
  rcases h with ⟨rfl, rfl, rfl, rfl⟩ | ⟨g, rfl, hB, hl, cur, hg, h1, h2, h3, h4⟩
  · exact ⟨by simp, .inl ⟨rfl, rfl⟩⟩
  · exact ⟨by simp [hl], .inr ⟨g, cap, cur, rfl, hB, hg, h1, h2, by omega, h4⟩⟩

theorem ofRow {v : Value} (h : w.ownsRow B T sz v n (xs.map (Value.int .i64))) : ∃ ad cap, v = .slice ad n cap ∧ RowA w T sz B ad n cap xs := by
  obtain ⟨hl, h⟩ := h
  simp at hl
  rcases h with ⟨rfl, rfl⟩ | ⟨g, cap, cur, rfl, hB, hg, h1, h2, h3, h4⟩
  · obtain rfl : xs = [] := List.eq_nil_of_length_eq_zero (by simpa using hl)
    exact ⟨Option.none, 0, rfl, RowA.none _ _ _ _⟩
  · exact ⟨_, cap, rfl, .inr ⟨g, rfl, hB, hl, cur, hg, h1, h2, by omega, h4⟩⟩
end RowA

theorem blockOf_ownT (ad : Option Addr) (n cap : Nat) : (Value.slice ad n cap).ownBlock = blockOf ad := by cases ad <;> rfl

/-- The zero of a struct of sz numbers. -/
def zeros (sz : Nat) : Value := .agg (List.replicate sz (Value.int .i64 0)).toArray

theorem madeT (sz n : Nat) (hs : 1 ≤ sz) : (madeCells (List.replicate sz (Value.int .i64 0)).toArray n).toList = (List.replicate n 0).map (Value.int .i64) := by
  apply List.ext_getElem?
  intro j
  by_cases hj : j < n
  · have h2 : j % sz < sz := Nat.mod_lt _ (by omega)
    simp [madeCells, hj, h2]
  · simp [madeCells, hj]

/-- 'make([]T, n)', T a struct of sz numbers. -/
theorem wp_makeT {P : Program} (w : World) {ops : Array Oper} {rest : List Oper} {o : Oper} {a : Act} {Q : Exit → Act → World → Prop}
    (hg : o.guard = none) (t e sz bytes : Nat) (ht : P.underlying t = some (.slice e)) (hi0 : (P.info? e).map (fun i => (i.zero, i.size, i.bytes)) = some (some (zeros sz), sz, bytes)) (hsz : 1 ≤ sz) (hby : bytes ≤ 4096)
    (l c : Operand) (hop : o.op = Op.makeSlice t l c) (kl kc : IntKind) (L C : Int) (n : Nat) (hl : a.eval l = .int kl L) (hc : a.eval c = .int kc C) (hL : L = (n : Int)) (hC : C = (n : Int)) (hn : n ≤ 1048576)
    (hK : ∀ w', RowT w' e sz w.heap.size n n (List.replicate (n * sz) 0) → Below w.heap.size w w' → wpList P ops Q rest (a.put o.dst (.slice (some ⟨w.heap.size, 0, none⟩) n n)) w') :
    wpList P ops Q (o :: rest) a w := by
  obtain ⟨i, hi, hz0, hz1, hz2⟩ := info_parts hi0
  refine wpList_plain hg fun K hK' => ?_
  subst hL
  subst hC
  have m1 : (bytes : Int) * (n : Int) ≤ 4096 * 1048576 := Int.mul_le_mul (by omega) (by omega) (by omega) (by omega)
  have hr := run_make (P := P) w t e i (zeros sz) ht hi hz0 kl kc n n (by omega) (Int.le_refl _) (by rw [hz2]; omega) (by omega)
  simp only [Int.toNat_natCast, hz1] at hr
  have hm : RowT (w.alloc (.cells (madeCells (zeros sz).cells (n * sz)) e)) e sz w.heap.size n n (List.replicate (n * sz) 0) := by
    refine ⟨by simp, _, heap_alloc_new w _, Nat.le_refl _, by unfold maxLen; omega, size_madeCells _ _, ?_⟩
    rw [List.take_of_length_le (by simp [size_madeCells])]
    exact madeT sz (n * sz) hsz
  unfold Oper.wp
  simp [execOp, hop, hl, hc, hr, Result.andThen]
  exact hK' _ _ (hK _ hm (Joins.below_alloc1 _ _))

/-- 'xs = append(xs, v)', v a struct of numbers. -/
theorem wp_appendT {P : Program} (w : World) {ops : Array Oper} {rest : List Oper} {o : Oper} {a : Act} {Q : Exit → Act → World → Prop}
    (hgd : o.guard = none) (t e sz bytes : Nat) (ht : P.underlying t = some (.slice e)) (hi0 : (P.info? e).map (fun i => (i.zero, i.size, i.bytes)) = some (some (zeros sz), sz, bytes)) (hsz : 1 ≤ sz) (hby : bytes ≤ 4096)
    (s x : Operand) (hop : o.op = .call { callee := .builtin .append, args := #[s, x], argTypes := #[t, t] })
    (B n cap : Nat) (ad : Option Addr) (xs : List Int) (hs : a.eval s = .slice ad n cap) (ho : RowA w e sz B ad n cap xs) (g : Nat) (vs : List Int) (hx : a.eval x = .slice (some ⟨g, 0, none⟩) 1 1)
    (hv : vs.length = sz) (hc : ∀ j, j < sz → w.cell? ⟨g, j, none⟩ = some (.int .i64 (vs.getD j 0))) (hn : n ≤ 1048576) (hB : B ≤ w.heap.size)
    (hK : ∀ ad' cap' w', RowA w' e sz B ad' (n + 1) cap' (xs ++ vs) → w.grownBy w' (blockOf ad) → wpList P ops Q rest (a.put o.dst (.slice ad' (n + 1) cap')) w') :
    wpList P ops Q (o :: rest) a w := by
  obtain ⟨i, hi, hz0, hz1, hz2⟩ := info_parts hi0
  have m1 : (n + 1) * bytes ≤ 1048577 * 4096 := Nat.mul_le_mul (by omega) hby
  refine wpList_append_own w hgd s x t hop B e i (zeros sz) sz bytes ht hi hz0 hz1 hz2 (by simp [zeros, Value.cells]) (by omega) _ n (xs.map (Value.int .i64)) hs ho.toRow ⟨g, 0, none⟩ 1 1 (vs.map (Value.int .i64)) hx (by simp [hv]) ?_ ?_ (by unfold maxLen; omega) (by omega) hB ?_
  · intro j u hj
    by_cases hjs : j < sz
    · have := hc j hjs
      rw [List.getElem?_map, List.getElem?_eq_getElem (by omega)] at hj
      simp only [Option.map_some, Option.some.injEq] at hj
      subst hj
      rw [show (Addr.mk g 0 none).add j = ⟨g, j, none⟩ by rw [Addr.add_lit]; simp, this]
      simp [List.getD, List.getElem?_eq_getElem (show j < vs.length by omega)]
    · rw [List.getElem?_eq_none (by simp; omega)] at hj; cases hj
  · intro u hu
    obtain ⟨x, _, rfl⟩ := List.mem_map.1 hu
    rfl
  · intro v' w' h2 h3 _
    have h4 : w'.ownsRow B e sz v' (n + 1) ((xs ++ vs).map (Value.int .i64)) := by simpa using h2
    obtain ⟨ad', cap', rfl, h5⟩ := RowA.ofRow h4
    rw [blockOf_ownT] at h3
    exact hK ad' cap' w' h5 h3

/-- Behind an append: a block below the row is as it was. -/
theorem appT_blk {wr w1 : World} {E sz B n cap g T : Nat} {ad : Option Addr} {xs : List Int} {cs : Array Value} {O : Obj} (ho : RowA wr E sz B ad n cap xs) (hg : (wr.alloc O).grownBy w1 (blockOf ad)) (hb : Blk wr g T cs) (h : g < B) : Blk w1 g T cs :=
  (hb.alloc O).grownS hg (fun b hb1 => by have := ho.bd b hb1; omega)

theorem appT_below {w0 wr w1 : World} {E sz B C n cap : Nat} {ad : Option Addr} {xs : List Int} {O : Obj} (ho : RowA wr E sz B ad n cap xs) (hg : (wr.alloc O).grownBy w1 (blockOf ad)) (hb : Below C w0 wr) (h : C ≤ B) (hC : C ≤ wr.heap.size) : Below C w0 w1 :=
  (hb.alloc hC O).grown hg (by simp; omega) (fun k hk => by have := ho.bd k hk; omega)

/-! Parts. -/

/-- The cells of a part, as the walk reads them. -/
theorem rd_part {w : World} {ad : Option Addr} {ks : List Prt} (h : Rd w ad (flat ks)) {k : Nat} (hk : k < ks.length) :
    ∃ b off, ad = some ⟨b, off, none⟩ ∧ b < w.heap.size ∧ w.cell? ⟨b, off + k * 3, none⟩ = some (.int .i64 (prt ks k).dx) ∧ w.cell? ⟨b, off + k * 3 + 1, none⟩ = some (.int .i64 (prt ks k).dy) ∧ w.cell? ⟨b, off + k * 3 + 2, none⟩ = some (.int .i64 (prt ks k).wt) := by
  have hl := flat_len ks
  obtain ⟨b, off, h1, h2, h3⟩ := h.at (by omega)
  obtain ⟨e1, e2, e3⟩ := flat_at ks k hk
  refine ⟨b, off, h1, h2, ?_, ?_, ?_⟩
  · rw [← e1, Nat.mul_comm k 3]; exact h3 _ (by omega)
  · rw [← e2, Nat.mul_comm k 3, Nat.add_assoc]; exact h3 _ (by omega)
  · rw [← e3, Nat.mul_comm k 3, Nat.add_assoc]; exact h3 _ (by omega)

end Go.Proofs.Ytafjpmlakpfidaa
