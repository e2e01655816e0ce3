/-
  Rows of pictures: made, appended to, marked; nothing of the program but types' numbers (the row's own type is a premise).
-/
import Derived.Test.YtafjpmlakpfidaaT1
import Derived.Test.YtafjpmlakpfidaaK1
namespace Go.Proofs.Ytafjpmlakpfidaa
open Go.RowKit
set_option linter.unusedVariables false
set_option linter.unusedSimpArgs false

/-- A row of pictures of the call's own, from block B on, or nil: the outer row alone. -/
def RowVA (w : World) (B : Nat) (ad : Option Addr) (n cap : Nat) (L : List PV) : Prop :=
  L.length = n ∧ ((ad = none ∧ n = 0 ∧ cap = 0) ∨ ∃ g, ad = some ⟨g, 0, none⟩ ∧ B ≤ g ∧ RowV w g cap L)

namespace RowVA
variable {w w' : World} {B n cap : Nat} {ad : Option Addr} {L : List PV}

theorem nil (w : World) (B : Nat) : RowVA w B none 0 0 [] := ⟨rfl, .inl ⟨rfl, rfl, rfl⟩⟩

theorem mk {g : Nat} (h : RowV w g cap L) (hB : B ≤ g) (hl : L.length = n) : RowVA w B (some ⟨g, 0, none⟩) n cap L := ⟨hl, .inr ⟨g, rfl, hB, h⟩⟩

theorem below (h : RowVA w B ad n cap L) (hb : Below w.heap.size w w') : RowVA w' B ad n cap L :=
  ⟨h.1, by
    rcases h.2 with h0 | ⟨g, h1, h2, hr⟩
    · exact .inl h0
    · exact .inr ⟨g, h1, h2, hr.below hb⟩⟩

theorem alloc (h : RowVA w B ad n cap L) (o : Obj) : RowVA (w.alloc o) B ad n cap L := h.below (Joins.below_alloc1 w o)

theorem bd (h : RowVA w B ad n cap L) : ∀ b, blockOf ad = some b → B ≤ b ∧ b < w.heap.size := by
  intro b hb
  rcases h.2 with ⟨h0, _⟩ | ⟨g, h1, h2, hr⟩
  · rw [h0] at hb; cases hb
  · rw [h1] at hb
    simp only [blockOf, Option.some.injEq] at hb
    subst hb
    exact ⟨h2, hr.lt⟩

theorem toRow (h : RowVA w B ad n cap L) : w.ownsRow B 24 3 (.slice ad n cap) n (flatV L) := by
  obtain ⟨hl, h⟩ := h
  refine ⟨by rw [flatV_len, hl], ?_⟩
  rcases h with ⟨rfl, rfl, rfl⟩ | ⟨g, rfl, hB, cur, hg, h1, h2, h3, h4⟩
  · exact .inl ⟨rfl, rfl⟩
  · exact .inr ⟨g, cap, cur, rfl, hB, hg, by omega, h2, by omega, by rw [← hl]; exact h4⟩

theorem ofRow {v : Value} (hl : L.length = n) (h : w.ownsRow B 24 3 v n (flatV L)) : ∃ ad cap, v = .slice ad n cap ∧ RowVA w B ad n cap L := by
  obtain ⟨_, h⟩ := h
  rcases h with ⟨rfl, rfl⟩ | ⟨g, cap, cur, rfl, hB, hg, h1, h2, h3, h4⟩
  · exact ⟨Option.none, 0, rfl, hl, .inl ⟨rfl, rfl, rfl⟩⟩
  · exact ⟨_, cap, rfl, hl, .inr ⟨g, rfl, hB, cur, hg, by omega, h2, by omega, by rw [hl]; exact h4⟩⟩

end RowVA

theorem flatV_none (n : Nat) : (madeCells #[.int .i64 0, .int .i64 0, .slice none 0 0] (n * 3)).toList = flatV (List.replicate n noV) := by
  apply List.ext_getElem?
  intro j
  by_cases hj : j < n * 3
  · have hk : j / 3 < (List.replicate n noV).length := by simp; omega
    obtain ⟨e0, e1, e2⟩ := flatV_at (List.replicate n noV) (j / 3) hk
    have hp : pv (List.replicate n noV) (j / 3) = noV := by
      unfold pv
      simp [List.getD, List.getElem?_replicate, show j / 3 < n by omega]
    rw [hp] at e0 e1 e2
    have h3 : j % 3 = 0 ∨ j % 3 = 1 ∨ j % 3 = 2 := by omega
    rcases h3 with h3 | h3 | h3
    · have ej : j / 3 * 3 = j := by omega
      rw [ej] at e0
      rw [e0]
      simp [madeCells, hj, h3, noV]
    · have ej : j / 3 * 3 + 1 = j := by omega
      rw [ej] at e1
      rw [e1]
      simp [madeCells, hj, h3, noV]
    · have ej : j / 3 * 3 + 2 = j := by omega
      rw [ej] at e2
      rw [e2]
      simp [madeCells, hj, h3, noV]
  · rw [List.getElem?_eq_none (by simp [madeCells]; omega), List.getElem?_eq_none (by rw [flatV_len]; simp; omega)]

/-- 'make([]Picture, n)'. -/
theorem wp_makeV {P : Program} (w : World) {ops : Array Oper} {rest : List Oper} {o : Oper} {a : Act} {Q : Exit → Act → World → Prop}
    (hg : o.guard = none) (t : Nat) (ht : P.underlying t = some (.slice 24)) (hi0 : (P.info? 24).map (fun i => (i.zero, i.size, i.bytes)) = some (some (.agg #[.int .i64 0, .int .i64 0, .slice none 0 0]), 3, 40))
    (l c : Operand) (hop : o.op = Op.makeSlice t l c) (kl kc : IntKind) (L C : Int) (n : Nat) (hl : a.eval l = .int kl L) (hc : a.eval c = .int kc C) (hL : L = (n : Int)) (hC : C = (n : Int)) (hn : n ≤ 1048576)
    (hK : ∀ w', RowV w' w.heap.size n (List.replicate n noV) → Below w.heap.size w w' → w'.heap.size = w.heap.size + 1 → wpList P ops Q rest (a.put o.dst (.slice (some ⟨w.heap.size, 0, none⟩) n n)) w') :
    wpList P ops Q (o :: rest) a w := by
  obtain ⟨i, hi, hz0, hz1, hz2⟩ := info_parts hi0
  refine wpList_plain hg fun K hK' => ?_
  subst hL
  subst hC
  have hr := run_make (P := P) w t 24 i (.agg #[.int .i64 0, .int .i64 0, .slice none 0 0]) ht hi hz0 kl kc n n (by omega) (Int.le_refl _) (by rw [hz2]; omega) (by omega)
  simp only [Int.toNat_natCast, hz1] at hr
  have hm : RowV (w.alloc (.cells (madeCells #[.int .i64 0, .int .i64 0, .slice none 0 0] (n * 3)) 24)) w.heap.size n (List.replicate n noV) := by
    refine ⟨_, heap_alloc_new w _, by simp, by unfold maxLen; omega, size_madeCells _ _, ?_⟩
    rw [List.take_of_length_le (by simp [size_madeCells])]
    exact flatV_none n
  unfold Oper.wp
  simp only [Value.cells] at hr
  simp [execOp, hop, hl, hc, hr, Result.andThen]
  exact hK' _ _ (hK _ hm (Joins.below_alloc1 _ _) (by simp))

/-- 'ps = append(ps, p)'. -/
theorem wp_appendV {P : Program} (w : World) {ops : Array Oper} {rest : List Oper} {o : Oper} {a : Act} {Q : Exit → Act → World → Prop}
    (hgd : o.guard = none) (t : Nat) (ht : P.underlying t = some (.slice 24)) (hi0 : (P.info? 24).map (fun i => (i.zero, i.size, i.bytes)) = some (some (.agg #[.int .i64 0, .int .i64 0, .slice none 0 0]), 3, 40))
    (s x : Operand) (hop : o.op = .call { callee := .builtin .append, args := #[s, x], argTypes := #[t, t] })
    (B n cap : Nat) (ad : Option Addr) (L : List PV) (hs : a.eval s = .slice ad n cap) (ho : RowVA w B ad n cap L) (g : Nat) (p : PV) (hx : a.eval x = .slice (some ⟨g, 0, none⟩) 1 1)
    (h0 : w.cell? ⟨g, 0, none⟩ = some (.int .i64 p.W)) (h1 : w.cell? ⟨g, 1, none⟩ = some (.int .i64 p.H)) (h2 : w.cell? ⟨g, 2, none⟩ = some (.slice p.a p.n p.c)) (hn : n ≤ 1048576) (hB : B ≤ w.heap.size)
    (hK : ∀ ad' cap' w', RowVA w' B ad' (n + 1) cap' (L ++ [p]) → w.grownBy w' (blockOf ad) → wpList P ops Q rest (a.put o.dst (.slice ad' (n + 1) cap')) w') :
    wpList P ops Q (o :: rest) a w := by
  obtain ⟨i, hi, hz0, hz1, hz2⟩ := info_parts hi0
  have hf : flatV L ++ p.cells = flatV (L ++ [p]) := by simp [flatV]
  refine wpList_append_own w hgd s x t hop B 24 i (.agg #[.int .i64 0, .int .i64 0, .slice none 0 0]) 3 40 ht hi hz0 hz1 hz2 (by simp [Value.cells]) (by omega) _ n (flatV L) hs ho.toRow ⟨g, 0, none⟩ 1 1 p.cells hx (by simp [PV.cells]) ?_ ?_ (by unfold maxLen; omega) (by omega) hB ?_
  · intro j u hj
    have hj3 : j = 0 ∨ j = 1 ∨ j = 2 := by
      have := (List.getElem?_eq_some_iff.1 hj).1
      simp [PV.cells] at this
      omega
    rcases hj3 with rfl | rfl | rfl
    · simp [PV.cells] at hj; subst hj; simpa [Addr.add] using h0
    · simp [PV.cells] at hj; subst hj; simpa [Addr.add] using h1
    · simp [PV.cells] at hj; subst hj; simpa [Addr.add] using h2
  · intro u hu
    simp [PV.cells] at hu
    rcases hu with rfl | rfl | rfl <;> rfl
  · intro v' w' q2 q3 _
    rw [hf] at q2
    obtain ⟨ad', cap', rfl, h5⟩ := RowVA.ofRow (by rw [List.length_append, ho.1]; rfl) q2
    rw [blockOf_ownT] at q3
    exact hK ad' cap' w' h5 q3

/-! Marks: what the laws write into a list of pictures. -/

def markV (s : Int) : List PV → List PV
  | [] => []
  | p :: r => { p with W := s, H := s + 1, ink := upFrom (s + 2) p.n } :: markV (s + 2 + p.n) r

def sizeV : List PV → Nat
  | [] => 0
  | p :: r => 2 + p.n + sizeV r

theorem markV_len (s : Int) (L : List PV) : (markV s L).length = L.length := by
  induction L generalizing s with
  | nil => rfl
  | cons p r ih => simp [markV, ih]

theorem sizeV_append (L M : List PV) : sizeV (L ++ M) = sizeV L + sizeV M := by
  induction L with
  | nil => simp [sizeV]
  | cons p r ih => simp only [List.cons_append, sizeV, ih]; omega

theorem markV_append (s : Int) (L M : List PV) : markV s (L ++ M) = markV s L ++ markV (s + sizeV L) M := by
  induction L generalizing s with
  | nil => simp [markV, sizeV]
  | cons p r ih =>
    simp only [List.cons_append, markV, sizeV, ih]
    congr 3
    push_cast
    omega

theorem sizeV_take (L : List PV) (k : Nat) (h : k < L.length) : sizeV (L.take (k + 1)) = sizeV (L.take k) + 2 + (pv L k).n := by
  rw [List.take_succ_eq_append_getElem h, sizeV_append]
  simp [sizeV, pv, List.getD, List.getElem?_eq_getElem h]
  omega

theorem markV_at (s : Int) (L : List PV) (k : Nat) (h : k < L.length) : pv (markV s L) k = { pv L k with W := s + sizeV (L.take k), H := s + sizeV (L.take k) + 1, ink := upFrom (s + sizeV (L.take k) + 2) (pv L k).n } := by
  induction L generalizing s k with
  | nil => simp at h
  | cons p r ih =>
    cases k with
    | zero => simp [markV, pv, sizeV]
    | succ k =>
      have := ih (s + 2 + p.n) k (by simpa using h)
      have e1 : pv (markV s (p :: r)) (k + 1) = pv (markV (s + 2 + p.n) r) k := by simp [markV, pv]
      have e2 : pv (p :: r) (k + 1) = pv r k := by simp [pv]
      rw [e1, e2, this]
      have e3 : s + 2 + p.n + (sizeV (r.take k) : Int) = s + (sizeV ((p :: r).take (k + 1)) : Int) := by
        simp only [List.take_succ_cons, sizeV]
        push_cast
        omega
      rw [e3]

end Go.Proofs.Ytafjpmlakpfidaa
