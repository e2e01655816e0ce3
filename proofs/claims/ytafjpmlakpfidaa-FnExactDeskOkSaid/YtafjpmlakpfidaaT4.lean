/-
  Rows of pictures: whole elements stored, sums of sizes, marks step by step. Nothing of the program but types' numbers.
-/
import Derived.Test.YtafjpmlakpfidaaT3
import Derived.Test.YtafjpmlakpfidaaN0
namespace Go.Proofs.Ytafjpmlakpfidaa
open Go.RowKit
set_option linter.unusedVariables false
set_option linter.unusedSimpArgs false

instance picDec : DecidableEq Pic := fun a b =>
  if h : a.W = b.W ∧ a.H = b.H ∧ a.ink = b.ink then
    isTrue (by obtain ⟨h1, h2, h3⟩ := h; cases a; cases b; simp_all)
  else isFalse (fun e => h (by rw [e]; exact ⟨rfl, rfl, rfl⟩))

theorem flat_set2 : ∀ (L : List PV) (k : Nat) (a : Option Addr) (n c : Nat), k < L.length → (flatV L).set (k * 3 + 2) (.slice a n c) = flatV (L.set k { pv L k with a := a, n := n, c := c })
  | [], k, a, n, c, h => by simp at h
  | p :: r, 0, a, n, c, h => by simp [flatV, PV.cells, pv]
  | p :: r, k + 1, a, n, c, h => by
    have ih := flat_set2 r k a n c (by simpa using h)
    have e1 : (k + 1) * 3 + 2 = k * 3 + 2 + 1 + 1 + 1 := by omega
    have e2 : ∀ (q : PV) (r : List PV), flatV (q :: r) = .int .i64 q.W :: .int .i64 q.H :: .slice q.a q.n q.c :: flatV r := fun q r => by simp [flatV, PV.cells]
    rw [e1, e2]
    simp only [List.set_cons_succ]
    rw [ih, e2]
    simp [pv]

theorem list_set_self (L : List PV) (k : Nat) (p q : PV) : (L.set k p).set k q = L.set k q := by
  apply List.ext_getElem?
  intro i
  simp only [List.getElem?_set, List.length_set]
  by_cases e : k = i
  · subst e; simp
  · simp [e]

/-- A row of pictures with one of them written whole. -/
theorem RowV.setPic {w : World} {g cap : Nat} {L : List PV} (h : RowV w g cap L) {k : Nat} (hk : k < L.length) (p : PV) :
    RowV (((w.setCell ⟨g, k * 3, none⟩ (.int .i64 p.W)).setCell ⟨g, k * 3 + 1, none⟩ (.int .i64 p.H)).setCell ⟨g, k * 3 + 2, none⟩ (.slice p.a p.n p.c)) g cap (L.set k p) := by
  have h1 := h.setAt hk _ (flat_set0 L k p.W hk)
  have hk1 : k < (L.set k { pv L k with W := p.W }).length := by simpa using hk
  have h2 := h1.setAt hk1 _ (flat_set1 _ k p.H hk1)
  rw [list_set_self, pv_set_eq hk] at h2
  have hk2 : k < (L.set k { { pv L k with W := p.W } with H := p.H }).length := by simpa using hk
  have h3 := h2.setAt hk2 _ (flat_set2 _ k p.a p.n p.c hk2)
  rw [list_set_self, pv_set_eq hk] at h3
  have e : flatV (L.set k { { { pv L k with W := p.W } with H := p.H } with a := p.a, n := p.n, c := p.c }) = flatV (L.set k p) := flatV_congr (by simp) (fun i hi => by
    by_cases q : k = i
    · subst q; rw [pv_set_eq hk, pv_set_eq hk]; exact ⟨rfl, rfl, rfl, rfl, rfl⟩
    · rw [pv_set_ne q, pv_set_ne q]; exact ⟨rfl, rfl, rfl, rfl, rfl⟩)
  obtain ⟨cur, q1, q2, q3, q4, q5⟩ := h3
  exact ⟨cur, q1, by simpa using q2, q3, q4, by rw [← e]; simpa using q5⟩

namespace OwnV
variable {w w' : World} {B n cap g k : Nat} {L : List PV}

/-- A picture of fresh memory stored whole. -/
theorem setPic (h : OwnV w B (some ⟨g, 0, none⟩) n cap L) (hk : k < n) (p : PV) (ho : OwnA w B p.a p.n p.c p.ink) (hp : ∀ b, blockOf p.a = some b → b ≠ g ∧ ¬ blocks (some ⟨g, 0, none⟩) L b) :
    OwnV (((w.setCell ⟨g, k * 3, none⟩ (.int .i64 p.W)).setCell ⟨g, k * 3 + 1, none⟩ (.int .i64 p.H)).setCell ⟨g, k * 3 + 2, none⟩ (.slice p.a p.n p.c)) B (some ⟨g, 0, none⟩) n cap (L.set k p) := by
  have hkl : k < L.length := by rw [h.len]; exact hk
  have gb : ∀ i b, i < n → blockOf (pv L i).a = some b → b ≠ g := fun i b hi hb e => h.off i b hi hb (by rw [e]; rfl)
  refine ⟨by rw [List.length_set]; exact h.len, ?_, fun i hi => ?_, fun i b hi hb => ?_, fun i j b hij hj hb => ?_⟩
  · rcases h.row with ⟨h0, _⟩ | ⟨g2, h1, h2, hr⟩
    · cases h0
    · cases h1
      exact .inr ⟨g, rfl, h2, hr.setPic hkl p⟩
  · by_cases e : k = i
    · subst e
      rw [pv_set_eq hkl]
      exact ((ho.otherT (fun e => (hp g e).1 rfl) _).otherT (fun e => (hp g e).1 rfl) _).otherT (fun e => (hp g e).1 rfl) _
    · rw [pv_set_ne e]
      exact (((h.ink i hi).otherT (fun q => gb i g hi q rfl) _).otherT (fun q => gb i g hi q rfl) _).otherT (fun q => gb i g hi q rfl) _
  · by_cases e : k = i
    · subst e
      rw [pv_set_eq hkl] at hb
      intro q
      simp only [blockOf, Option.some.injEq] at q
      exact (hp b hb).1 q.symm
    · rw [pv_set_ne e] at hb
      exact h.off i b hi hb
  · by_cases e : k = i
    · subst e
      rw [pv_set_eq hkl] at hb
      rw [pv_set_ne (by omega)]
      intro q
      exact (hp b hb).2 (.inr ⟨j, by rw [h.len]; exact hj, q⟩)
    · rw [pv_set_ne e] at hb
      by_cases e2 : k = j
      · subst e2
        rw [pv_set_eq hkl]
        intro q
        exact (hp b q).2 (.inr ⟨i, by rw [h.len]; omega, hb⟩)
      · rw [pv_set_ne e2]
        exact h.apart i j b hij hj hb

theorem lt (h : OwnV w B (some ⟨g, 0, none⟩) n cap L) : B ≤ g ∧ g < w.heap.size := by
  rcases h.row with ⟨h0, _⟩ | ⟨g2, h1, h2, hr⟩
  · cases h0
  · cases h1; exact ⟨h2, hr.lt⟩

theorem rowOf (h : OwnV w B (some ⟨g, 0, none⟩) n cap L) : RowV w g cap L := by
  rcases h.row with ⟨h0, _⟩ | ⟨g2, h1, h2, hr⟩
  · cases h0
  · cases h1; exact hr

end OwnV

theorem ownV_start {w : World} {B g n : Nat} (h : RowV w g n (List.replicate n noV)) (hB : B ≤ g) : OwnV w B (some ⟨g, 0, none⟩) n n (List.replicate n noV) := by
  have hp : ∀ k, k < n → pv (List.replicate n noV) k = noV := fun k hk => by
    unfold pv
    simp [List.getD, List.getElem?_replicate, hk]
  refine ⟨by simp, .inr ⟨g, rfl, hB, h⟩, fun k hk => ?_, fun k b hk hb => ?_, fun j k b hjk hk hb => ?_⟩
  · rw [hp k hk]; exact OwnA.none _ _
  · rw [hp k hk] at hb; cases hb
  · rw [hp j (by omega)] at hb; cases hb

/-- The cells that a walk reads of picture k. -/
theorem RdV.cells {w : World} {b off : Nat} {L : List PV} (h : RdV w (some ⟨b, off, none⟩) L) {k : Nat} (hk : k < L.length) : b < w.heap.size ∧ w.cell? ⟨b, off + k * 3, none⟩ = some (.int .i64 (pv L k).W) ∧ w.cell? ⟨b, off + k * 3 + 1, none⟩ = some (.int .i64 (pv L k).H) ∧ w.cell? ⟨b, off + k * 3 + 2, none⟩ = some (.slice (pv L k).a (pv L k).n (pv L k).c) := by
  obtain ⟨b', off', h1, h2, h3, h4, h5⟩ := h.cellsAt hk
  have e := Option.some.inj h1
  simp only [Addr.mk.injEq] at e
  obtain ⟨rfl, rfl, _⟩ := e
  exact ⟨h2, h3, h4, h5⟩

theorem RdV.addr {w : World} {ad : Option Addr} {L : List PV} (h : RdV w ad L) (h1 : 1 ≤ L.length) : ∃ b off, ad = some ⟨b, off, none⟩ ∧ b < w.heap.size := by
  obtain ⟨b, off, h1, h2, _⟩ := h.cellsAt (k := 0) (by omega)
  exact ⟨b, off, h1, h2⟩

/-- All amounts of a list. -/
def inkV : List PV → Nat
  | [] => 0
  | p :: r => p.n + inkV r

theorem inkV_append (L M : List PV) : inkV (L ++ M) = inkV L + inkV M := by
  induction L with
  | nil => simp [inkV]
  | cons p r ih => simp only [List.cons_append, inkV, ih]; omega

theorem inkV_take (L : List PV) (k : Nat) (h : k < L.length) : inkV (L.take (k + 1)) = inkV (L.take k) + (pv L k).n := by
  rw [List.take_succ_eq_append_getElem h, inkV_append]
  simp [inkV, pv, List.getD, List.getElem?_eq_getElem h]

theorem inkV_le (L : List PV) (k : Nat) : inkV (L.take k) ≤ inkV L := by
  have e : inkV L = inkV (L.take k) + inkV (L.drop k) := by rw [← inkV_append, List.take_append_drop]
  omega

theorem inkV_at (L : List PV) (k : Nat) (h : k < L.length) : (pv L k).n ≤ inkV L := by
  have h1 := inkV_take L k h
  have h2 := inkV_le L (k + 1)
  omega

theorem sizeV_ink (L : List PV) : sizeV L = 2 * L.length + inkV L := by
  induction L with
  | nil => rfl
  | cons p r ih => simp only [sizeV, inkV, List.length_cons, ih]; omega

theorem sizeV_le (L : List PV) (k : Nat) : sizeV (L.take k) ≤ sizeV L := by
  have e : sizeV L = sizeV (L.take k) + sizeV (L.drop k) := by rw [← sizeV_append, List.take_append_drop]
  omega

/-- The copy Q reads as L does, its memory its own. -/
def SameV (L Q : List PV) : Prop := Q.length = L.length ∧ ∀ k, k < L.length → (pv Q k).W = (pv L k).W ∧ (pv Q k).H = (pv L k).H ∧ (pv Q k).ink = (pv L k).ink ∧ (pv Q k).n = (pv L k).n ∧ (pv Q k).c = (pv L k).n

theorem SameV.pics {L Q : List PV} (h : SameV L Q) : picsV Q = picsV L := picsV_eq h.1 (fun k hk => by obtain ⟨a, b, c, _⟩ := h.2 k (by rw [← h.1]; exact hk); exact ⟨a, b, c⟩)

theorem SameV.ink {L Q : List PV} (h : SameV L Q) : inkV Q = inkV L := by
  have key : ∀ k, k ≤ L.length → inkV (Q.take k) = inkV (L.take k) := by
    intro k
    induction k with
    | zero => intro _; simp [inkV]
    | succ k ih =>
      intro hk
      rw [inkV_take Q k (by rw [h.1]; omega), inkV_take L k (by omega), ih (by omega), (h.2 k (by omega)).2.2.2.1]
  have := key L.length (Nat.le_refl _)
  rwa [List.take_length, List.take_of_length_le (by rw [h.1]; omega)] at this

theorem picsV_lt (L : List PV) (k : Nat) (h : k < L.length) : (picsV L)[k]? = some (pv L k).pic := by
  simp [picsV, pv, List.getD, List.getElem?_eq_getElem h]

theorem picsV_ext {L M : List PV} (hl : L.length = M.length) : picsV L = picsV M ↔ ∀ k, k < L.length → (pv L k).W = (pv M k).W ∧ (pv L k).H = (pv M k).H ∧ (pv L k).ink = (pv M k).ink := by
  constructor
  · intro h k hk
    have e : (picsV L)[k]? = (picsV M)[k]? := by rw [h]
    rw [picsV_lt L k hk, picsV_lt M k (by omega)] at e
    have e2 := Option.some.inj e
    unfold PV.pic at e2
    simp only [Pic.mk.injEq] at e2
    exact e2
  · exact picsV_eq hl

/-- The marks of the first k pictures; the others as they were. -/
def mkTo (s : Int) (L : List PV) (k : Nat) : List PV := (markV s L).take k ++ L.drop k

theorem mkTo_len (s : Int) (L : List PV) (k : Nat) : (mkTo s L k).length = L.length := by
  unfold mkTo
  simp [markV_len]
  omega

theorem mkTo_zero (s : Int) (L : List PV) : mkTo s L 0 = L := by simp [mkTo]

theorem mkTo_all (s : Int) (L : List PV) {n : Nat} (h : L.length = n) : mkTo s L n = markV s L := by
  unfold mkTo
  rw [List.take_of_length_le (by rw [markV_len]; omega), List.drop_of_length_le (by omega), List.append_nil]

theorem mkTo_at (s : Int) (L : List PV) {k : Nat} (h : k < L.length) : pv (mkTo s L k) k = pv L k := by
  unfold mkTo pv
  simp only [List.getD]
  rw [List.getElem?_append_right (by simp [markV_len]; omega)]
  simp only [List.length_take, markV_len, Nat.min_eq_left (Nat.le_of_lt h), Nat.sub_self, List.getElem?_drop, Nat.add_zero]

theorem mkTo_succ (s : Int) (L : List PV) {k : Nat} (h : k < L.length) : (mkTo s L k).set k (pv (markV s L) k) = mkTo s L (k + 1) := by
  unfold mkTo
  have hk : ((markV s L).take k).length = k := by rw [List.length_take, markV_len]; omega
  rw [List.set_append_right _ _ (by omega), hk, Nat.sub_self, List.drop_eq_getElem_cons h, List.set_cons_zero, List.take_succ_eq_append_getElem (by rw [markV_len]; exact h), List.append_assoc]
  have e : pv (markV s L) k = (markV s L)[k]'(by rw [markV_len]; exact h) := by
    unfold pv
    rw [List.getD, List.getElem?_eq_getElem (show k < (markV s L).length by rw [markV_len]; exact h)]
    rfl
  rw [e]
  rfl

theorem blocks_set {ad : Option Addr} {L : List PV} {k : Nat} {p : PV} (hp : p.a = (pv L k).a) (i : Nat) : OwnV.blocks ad (L.set k p) i ↔ OwnV.blocks ad L i := by
  unfold OwnV.blocks
  have e : ∀ j, (pv (L.set k p) j).a = (pv L j).a := fun j => by
    by_cases q : k = j
    · subst q
      by_cases hk : k < L.length
      · rw [pv_set_eq hk, hp]
      · rw [List.set_eq_of_length_le (by omega)]
    · rw [pv_set_ne q]
  simp only [List.length_set, e]

theorem markV_a (s : Int) (L : List PV) (k : Nat) : (pv (markV s L) k).a = (pv L k).a ∧ (pv (markV s L) k).n = (pv L k).n ∧ (pv (markV s L) k).c = (pv L k).c := by
  by_cases h : k < L.length
  · rw [markV_at s L k h]; exact ⟨rfl, rfl, rfl⟩
  · unfold pv
    simp [List.getD, List.getElem?_eq_none (show L.length ≤ k by omega), List.getElem?_eq_none (show (markV s L).length ≤ k by rw [markV_len]; omega)]

theorem blocks_mkTo {ad : Option Addr} {s : Int} {L : List PV} (k : Nat) (i : Nat) : OwnV.blocks ad (mkTo s L k) i ↔ OwnV.blocks ad L i := by
  unfold OwnV.blocks
  have e : ∀ j, (pv (mkTo s L k) j).a = (pv L j).a := fun j => by
    unfold mkTo
    by_cases q : j < k
    · have hq : pv ((markV s L).take k ++ L.drop k) j = pv (markV s L) j := by
        unfold pv
        by_cases hl : j < L.length
        · simp only [List.getD]
          rw [List.getElem?_append_left (by rw [List.length_take, markV_len]; omega), List.getElem?_take, if_pos q]
        · simp only [List.getD]
          rw [List.getElem?_eq_none (by simp [markV_len]; omega), List.getElem?_eq_none (by rw [markV_len]; omega)]
      rw [hq, (markV_a s L j).1]
    · unfold pv
      simp only [List.getD]
      by_cases hl : k ≤ L.length
      · rw [List.getElem?_append_right (by rw [List.length_take, markV_len]; omega), List.length_take, markV_len, Nat.min_eq_left hl, List.getElem?_drop]
        congr 3
        omega
      · rw [List.getElem?_eq_none (by simp [markV_len]; omega), List.getElem?_eq_none (by omega)]
  simp only [mkTo_len, e]

end Go.Proofs.Ytafjpmlakpfidaa
