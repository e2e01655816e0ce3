/-
  Rows of pictures in memory: what reads as a list of pictures, what is a call's own; nothing of the program but types' numbers.
-/
import Derived.Test.YtafjpmlakpfidaaLib
import Derived.Test.YtafjpmlakpfidaaM1
namespace Go.Proofs.Ytafjpmlakpfidaa
open Go.RowKit
set_option linter.unusedVariables false
set_option linter.unusedSimpArgs false

/-- A picture as it lies in a row. -/
structure PV where
  W : Int
  H : Int
  a : Option Addr
  n : Nat
  c : Nat
  ink : List Int

def PV.pic (p : PV) : Pic := ⟨p.W, p.H, p.ink⟩
def PV.val (p : PV) : Value := .agg #[.int .i64 p.W, .int .i64 p.H, .slice p.a p.n p.c]
def PV.cells (p : PV) : List Value := [.int .i64 p.W, .int .i64 p.H, .slice p.a p.n p.c]
def noV : PV := ⟨0, 0, none, 0, 0, []⟩
def pv (L : List PV) (k : Nat) : PV := L.getD k noV
def flatV (L : List PV) : List Value := L.flatMap PV.cells

theorem flatV_len (L : List PV) : (flatV L).length = L.length * 3 := by
  induction L with
  | nil => rfl
  | cons p r ih => unfold flatV at ih ⊢; simp only [List.flatMap_cons, List.length_append, ih]; simp [PV.cells]; omega

theorem flatV_at : ∀ (L : List PV) (k : Nat), k < L.length → (flatV L)[k * 3]? = some (.int .i64 (pv L k).W) ∧ (flatV L)[k * 3 + 1]? = some (.int .i64 (pv L k).H) ∧ (flatV L)[k * 3 + 2]? = some (.slice (pv L k).a (pv L k).n (pv L k).c)
  | [], k, h => by simp at h
  | p :: r, 0, h => by simp [flatV, PV.cells, pv]
  | p :: r, k + 1, h => by
    have ih := flatV_at r k (by simpa using h)
    have e1 : (k + 1) * 3 = k * 3 + 1 + 1 + 1 := by omega
    have e2 : flatV (p :: r) = .int .i64 p.W :: .int .i64 p.H :: .slice p.a p.n p.c :: flatV r := by simp [flatV, PV.cells]
    rw [e2, e1]
    simpa [pv] using ih

theorem pv_snoc_lt {L : List PV} {p : PV} {k : Nat} (h : k < L.length) : pv (L ++ [p]) k = pv L k := by
  unfold pv; simp [List.getD, List.getElem?_append_left h]

theorem pv_snoc {L : List PV} {p : PV} : pv (L ++ [p]) L.length = p := by
  unfold pv; simp [List.getD]

theorem pv_set_eq {L : List PV} {p : PV} {k : Nat} (h : k < L.length) : pv (L.set k p) k = p := by
  unfold pv; simp [List.getD, List.getElem?_set, h]

theorem pv_set_ne {L : List PV} {p : PV} {k j : Nat} (h : k ≠ j) : pv (L.set k p) j = pv L j := by
  unfold pv; simp [List.getD, List.getElem?_set, h]

/-- The slice at `ad` reads in w as the pictures L. -/
def RdV (w : World) (ad : Option Addr) (L : List PV) : Prop :=
  ∀ k, k < L.length → ∃ b off, ad = some ⟨b, off, none⟩ ∧ b < w.heap.size ∧ w.cell? ⟨b, off + k * 3, none⟩ = some (.int .i64 (pv L k).W) ∧ w.cell? ⟨b, off + k * 3 + 1, none⟩ = some (.int .i64 (pv L k).H) ∧ w.cell? ⟨b, off + k * 3 + 2, none⟩ = some (.slice (pv L k).a (pv L k).n (pv L k).c) ∧ (pv L k).ink.length = (pv L k).n ∧ Rd w (pv L k).a (pv L k).ink

namespace RdV
variable {w w' : World} {ad : Option Addr} {L : List PV}

theorem nil (w : World) (ad : Option Addr) : RdV w ad [] := fun _ hk => by simp at hk

theorem below (h : RdV w ad L) (hb : Below w.heap.size w w') : RdV w' ad L := fun k hk => by
  obtain ⟨b, off, h1, h2, h3, h4, h5, h6, h7⟩ := h k hk
  exact ⟨b, off, h1, Nat.lt_of_lt_of_le h2 hb.size, (hb.cell (p := ⟨b, off + k * 3, none⟩) h2).trans h3, (hb.cell (p := ⟨b, off + k * 3 + 1, none⟩) h2).trans h4, (hb.cell (p := ⟨b, off + k * 3 + 2, none⟩) h2).trans h5, h6, h7.below hb⟩

theorem alloc (h : RdV w ad L) (o : Obj) : RdV (w.alloc o) ad L := h.below (Joins.below_alloc1 w o)

theorem drew (h : RdV w ad L) : RdV w.drew ad L := h.below (Below.refl _ _).drew

theorem cellsAt (h : RdV w ad L) {k : Nat} (hk : k < L.length) : ∃ b off, ad = some ⟨b, off, none⟩ ∧ b < w.heap.size ∧ w.cell? ⟨b, off + k * 3, none⟩ = some (.int .i64 (pv L k).W) ∧ w.cell? ⟨b, off + k * 3 + 1, none⟩ = some (.int .i64 (pv L k).H) ∧ w.cell? ⟨b, off + k * 3 + 2, none⟩ = some (.slice (pv L k).a (pv L k).n (pv L k).c) := by
  obtain ⟨b, off, h1, h2, h3, h4, h5, _⟩ := h k hk
  exact ⟨b, off, h1, h2, h3, h4, h5⟩

theorem len (h : RdV w ad L) {k : Nat} (hk : k < L.length) : (pv L k).ink.length = (pv L k).n := by
  obtain ⟨b, off, _, _, _, _, _, h6, _⟩ := h k hk
  exact h6

theorem rd (h : RdV w ad L) {k : Nat} (hk : k < L.length) : Rd w (pv L k).a (pv L k).ink := by
  obtain ⟨b, off, _, _, _, _, _, _, h7⟩ := h k hk
  exact h7

end RdV

/-- Block g of w is a row whose first elements are the pictures L. -/
def RowV (w : World) (g cap : Nat) (L : List PV) : Prop :=
  ∃ cur, w.heap[g]? = some (.cells cur 24 (0, 0)) ∧ L.length ≤ cap ∧ cap ≤ maxLen ∧ cur.size = cap * 3 ∧ cur.toList.take (L.length * 3) = flatV L

namespace RowV
variable {w w' : World} {g cap : Nat} {L : List PV}

theorem lt (h : RowV w g cap L) : g < w.heap.size := by
  obtain ⟨cur, hg, _⟩ := h
  exact (Array.getElem?_eq_some_iff.1 hg).1

theorem cellAt (h : RowV w g cap L) {j : Nat} (hj : j < L.length * 3) : w.cell? ⟨g, j, none⟩ = (flatV L)[j]? := by
  obtain ⟨cur, hg, _, _, _, ht⟩ := h
  rw [cell_of_row w g j cur 24 (0, 0) hg, ← ht, List.getElem?_take, if_pos hj]
  simp

theorem frozen (h : RowV w g cap L) (j : Nat) : w.frozen? ⟨g, j, none⟩ = false := by
  obtain ⟨cur, hg, _⟩ := h
  exact frozen_of_row w g j cur 24 hg

theorem of_block (h : RowV w g cap L) (hb : w'.heap[g]? = w.heap[g]?) : RowV w' g cap L := by
  obtain ⟨cur, hg, r⟩ := h
  exact ⟨cur, hb.trans hg, r⟩

theorem below (h : RowV w g cap L) (hb : Below w.heap.size w w') : RowV w' g cap L := h.of_block (hb.block g h.lt)

theorem other (h : RowV w g cap L) {a : Addr} (ha : a.block ≠ g) (u : Value) : RowV (w.setCell a u) g cap L := h.of_block (Below.heap_setCell w a u g (by omega))

/-- One cell written: the numbers of picture k, or its slice. -/
theorem setAt (h : RowV w g cap L) {k j : Nat} {p : PV} (hk : k < L.length) (v : Value) (hf : (flatV L).set j v = flatV (L.set k p)) : RowV (w.setCell ⟨g, j, none⟩ v) g cap (L.set k p) := by
  obtain ⟨cur, hg, h1, h2, h3, ht⟩ := h
  refine ⟨cur.setIfInBounds j v, heap_setCell_same w g j cur _ _ hg, by simpa using h1, h2, by simpa using h3, ?_⟩
  rw [List.length_set, Array.toList_setIfInBounds, ← hf, ← ht, List.take_set]

end RowV

theorem flat_set0 : ∀ (L : List PV) (k : Nat) (x : Int), k < L.length → (flatV L).set (k * 3) (.int .i64 x) = flatV (L.set k { pv L k with W := x })
  | [], k, x, h => by simp at h
  | p :: r, 0, x, h => by simp [flatV, PV.cells, pv]
  | p :: r, k + 1, x, h => by
    have ih := flat_set0 r k x (by simpa using h)
    have e1 : (k + 1) * 3 = k * 3 + 1 + 1 + 1 := by omega
    have e2 : ∀ (q : PV) (r : List PV), flatV (q :: r) = .int .i64 q.W :: .int .i64 q.H :: .slice q.a q.n q.c :: flatV r := fun q r => by simp [flatV, PV.cells]
    rw [e1, e2]
    simp only [List.set_cons_succ, ih]
    rw [e2]
    simp [pv]

theorem flat_set1 : ∀ (L : List PV) (k : Nat) (x : Int), k < L.length → (flatV L).set (k * 3 + 1) (.int .i64 x) = flatV (L.set k { pv L k with H := x })
  | [], k, x, h => by simp at h
  | p :: r, 0, x, h => by simp [flatV, PV.cells, pv]
  | p :: r, k + 1, x, h => by
    have ih := flat_set1 r k x (by simpa using h)
    have e1 : (k + 1) * 3 + 1 = k * 3 + 1 + 1 + 1 + 1 := by omega
    have e2 : ∀ (q : PV) (r : List PV), flatV (q :: r) = .int .i64 q.W :: .int .i64 q.H :: .slice q.a q.n q.c :: flatV r := fun q r => by simp [flatV, PV.cells]
    rw [e1, e2]
    simp only [List.set_cons_succ]
    rw [ih, e2]
    simp [pv]

/-- A row of pictures of the call's own, from block B on, with rows of its own in it, all apart; or nil. -/
structure OwnV (w : World) (B : Nat) (ad : Option Addr) (n cap : Nat) (L : List PV) : Prop where
  len : L.length = n
  row : (ad = none ∧ n = 0 ∧ cap = 0) ∨ ∃ g, ad = some ⟨g, 0, none⟩ ∧ B ≤ g ∧ RowV w g cap L
  ink : ∀ k, k < n → OwnA w B (pv L k).a (pv L k).n (pv L k).c (pv L k).ink
  off : ∀ k b, k < n → blockOf (pv L k).a = some b → blockOf ad ≠ some b
  apart : ∀ j k b, j < k → k < n → blockOf (pv L j).a = some b → blockOf (pv L k).a ≠ some b

namespace OwnV
variable {w w' : World} {B n cap : Nat} {ad : Option Addr} {L : List PV}

theorem nil (w : World) (B : Nat) : OwnV w B none 0 0 [] := ⟨rfl, .inl ⟨rfl, rfl, rfl⟩, fun k hk => by omega, fun k b hk => by omega, fun j k b h1 hk => by omega⟩

theorem rd (h : OwnV w B ad n cap L) : RdV w ad L := fun k hk => by
  have hk' : k < n := by rw [← h.len]; exact hk
  rcases h.row with ⟨_, h0, _⟩ | ⟨g, hg, _, hr⟩
  · omega
  · obtain ⟨e0, e1, e2⟩ := flatV_at L k hk
    refine ⟨g, 0, hg, hr.lt, ?_, ?_, ?_, (h.ink k hk').len, (h.ink k hk').rd⟩
    · rw [Nat.zero_add, hr.cellAt (by omega), e0]
    · rw [Nat.zero_add, hr.cellAt (by omega), e1]
    · rw [Nat.zero_add, hr.cellAt (by omega), e2]

theorem below (h : OwnV w B ad n cap L) (hb : Below w.heap.size w w') : OwnV w' B ad n cap L :=
  ⟨h.len, by
    rcases h.row with h0 | ⟨g, hg, hB, hr⟩
    · exact .inl h0
    · exact .inr ⟨g, hg, hB, hr.below hb⟩, fun k hk => (h.ink k hk).below' hb, h.off, h.apart⟩

theorem alloc (h : OwnV w B ad n cap L) (o : Obj) : OwnV (w.alloc o) B ad n cap L := h.below (Joins.below_alloc1 w o)

theorem drew (h : OwnV w B ad n cap L) : OwnV w.drew B ad n cap L := h.below (Below.refl _ _).drew

theorem mono {B' : Nat} (h : OwnV w B ad n cap L) (hB : B' ≤ B) : OwnV w B' ad n cap L :=
  ⟨h.len, by
    rcases h.row with h0 | ⟨g, hg, h1, hr⟩
    · exact .inl h0
    · exact .inr ⟨g, hg, by omega, hr⟩, fun k hk => (h.ink k hk).mono hB, h.off, h.apart⟩

/-- The blocks that it owns. -/
def blocks (ad : Option Addr) (L : List PV) (i : Nat) : Prop := blockOf ad = some i ∨ ∃ k, k < L.length ∧ blockOf (pv L k).a = some i

theorem bd (h : OwnV w B ad n cap L) : ∀ i, blocks ad L i → B ≤ i ∧ i < w.heap.size := by
  rintro i (hi | ⟨k, hk, hi⟩)
  · rcases h.row with ⟨h0, _⟩ | ⟨g, hg, h1, hr⟩
    · rw [h0] at hi; cases hi
    · rw [hg] at hi
      simp only [blockOf, Option.some.injEq] at hi
      subst hi
      exact ⟨h1, hr.lt⟩
  · exact (h.ink k (by rw [← h.len]; exact hk)).bd i hi

end OwnV

end Go.Proofs.Ytafjpmlakpfidaa
