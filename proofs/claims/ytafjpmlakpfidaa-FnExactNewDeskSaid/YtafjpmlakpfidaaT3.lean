/-
  Rows of pictures written into: numbers, inner rows; what a writer leaves as it was. Nothing of the program but types' numbers.
-/
import Derived.Test.YtafjpmlakpfidaaT2
namespace Go.Proofs.Ytafjpmlakpfidaa
open Go.RowKit
set_option linter.unusedVariables false
set_option linter.unusedSimpArgs false

/-- Everything that was there stands, but for the blocks of S. -/
structure KeepT (S : Nat → Prop) (w w' : World) : Prop where
  os : w'.os = w.os
  tape : w'.tape = w.tape
  output : w'.output = w.output
  size : w.heap.size ≤ w'.heap.size
  block : ∀ i, i < w.heap.size → ¬ S i → w'.heap[i]? = w.heap[i]?

namespace KeepT
variable {S : Nat → Prop} {w w' w2 : World}
theorem refl (S : Nat → Prop) (w : World) : KeepT S w w := ⟨rfl, rfl, rfl, Nat.le_refl _, fun _ _ _ => rfl⟩
theorem trans (h : KeepT S w w') (k : KeepT S w' w2) : KeepT S w w2 :=
  ⟨k.os.trans h.os, k.tape.trans h.tape, k.output.trans h.output, Nat.le_trans h.size k.size, fun i hi hs => (k.block i (Nat.lt_of_lt_of_le hi h.size) hs).trans (h.block i hi hs)⟩
theorem ofBelow (h : Below w.heap.size w w') : KeepT S w w' := ⟨h.os, h.tape, h.output, h.size, fun i hi _ => h.block i hi⟩
theorem ofGrown {row : Option Nat} (h : w.grownBy w' row) (hs : ∀ b, row = some b → S b) : KeepT S w w' :=
  ⟨h.os, h.tape, h.output, h.size, fun i hi hn => h.block i hi (fun e => hn (hs i e.symm))⟩
theorem below {B : Nat} (h : KeepT S w w') (hS : ∀ i, S i → B ≤ i) (hB : B ≤ w.heap.size) : Below B w w' :=
  ⟨h.os, h.tape, h.output, h.size, fun i hi => h.block i (by omega) (fun hs => by have := hS i hs; omega)⟩
theorem set (h : KeepT S w w') {a : Addr} (ha : S a.block) (u : Value) : KeepT S w (w'.setCell a u) :=
  ⟨h.os, h.tape, h.output, by simpa [World.setCell] using h.size, fun i hi hs => (Below.heap_setCell w' a u i (fun e => hs (by rw [e]; exact ha))).trans (h.block i hi hs)⟩
theorem call (h : KeepT S w w') (hb : Below w'.heap.size w' w2) : KeepT S w w2 := h.trans (ofBelow hb)
theorem mono {S2 : Nat → Prop} (h : KeepT S w w') (hs : ∀ i, S i → S2 i) : KeepT S2 w w' := ⟨h.os, h.tape, h.output, h.size, fun i hi h2 => h.block i hi (fun h3 => h2 (hs i h3))⟩
theorem blk {g T : Nat} {cs : Array Value} (h : KeepT S w w') (hb : Blk w g T cs) (hs : ¬ S g) : Blk w' g T cs := hb.of_block (h.block g hb.lt hs)
theorem ownA {B n cap : Nat} {ad : Option Addr} {xs : List Int} (h : KeepT S w w') (hb : OwnA w B ad n cap xs) (hs : ∀ b, blockOf ad = some b → ¬ S b) : OwnA w' B ad n cap xs := by
  rcases hb with hb | ⟨g, h1, h2, hb⟩
  · exact .inl hb
  · subst h1
    exact .inr ⟨g, rfl, h2, hb.of_block (h.block g hb.lt (hs g rfl))⟩
theorem rd {ad : Option Addr} {xs : List Int} (h : KeepT S w w') (hr : Rd w ad xs) (hs : ∀ b, blockOf ad = some b → ¬ S b) : Rd w' ad xs := fun k hk => by
  obtain ⟨b, off, h1, h2, h3⟩ := hr k hk
  subst h1
  exact ⟨b, off, rfl, Nat.lt_of_lt_of_le h2 h.size, (World.cell?_of_block (by exact h.block b h2 (hs b rfl))).trans h3⟩
theorem rowV {g cap : Nat} {L : List PV} (h : KeepT S w w') (hr : RowV w g cap L) (hs : ¬ S g) : RowV w' g cap L := hr.of_block (h.block g hr.lt hs)
theorem ownV {B n cap : Nat} {ad : Option Addr} {L : List PV} (h : KeepT S w w') (ho : OwnV w B ad n cap L) (hs : ∀ i, OwnV.blocks ad L i → ¬ S i) : OwnV w' B ad n cap L :=
  ⟨ho.len, by
    rcases ho.row with h0 | ⟨g, h1, h2, hr⟩
    · exact .inl h0
    · exact .inr ⟨g, h1, h2, h.rowV hr (hs g (.inl (by rw [h1]; rfl)))⟩,
    fun k hk => h.ownA (ho.ink k hk) (fun b hb => hs b (.inr ⟨k, by rw [ho.len]; exact hk, hb⟩)), ho.off, ho.apart⟩
end KeepT

theorem flatV_congr {L M : List PV} (hl : L.length = M.length) (h : ∀ k, k < L.length → (pv L k).W = (pv M k).W ∧ (pv L k).H = (pv M k).H ∧ (pv L k).a = (pv M k).a ∧ (pv L k).n = (pv M k).n ∧ (pv L k).c = (pv M k).c) : flatV L = flatV M := by
  induction L generalizing M with
  | nil =>
    cases M with
    | nil => rfl
    | cons q s => simp at hl
  | cons p r ih =>
    cases M with
    | nil => simp at hl
    | cons q s =>
      have h0 := h 0 (by simp)
      have hr := ih (M := s) (by simpa using hl) (fun k hk => by
        have := h (k + 1) (by simpa using hk)
        simpa [pv] using this)
      simp only [pv, List.getD_cons_zero] at h0
      obtain ⟨e1, e2, e3, e4, e5⟩ := h0
      have e : p.cells = q.cells := by unfold PV.cells; rw [e1, e2, e3, e4, e5]
      unfold flatV at hr ⊢
      simp only [List.flatMap_cons]
      rw [e, hr]

theorem OwnA.otherT {w : World} {B n cap : Nat} {ad : Option Addr} {xs : List Int} (h : OwnA w B ad n cap xs) {a : Addr} (ha : blockOf ad ≠ some a.block) (u : Value) : OwnA (w.setCell a u) B ad n cap xs := by
  rcases h with h | ⟨g, h1, h2, h⟩
  · exact .inl h
  · subst h1
    exact .inr ⟨g, rfl, h2, h.other (fun e => ha (by rw [e]; rfl)) u⟩

namespace OwnV
variable {w w' : World} {B n cap g k : Nat} {L : List PV}

/-- A number of picture k written (W or H). -/
theorem setNum (h : OwnV w B (some ⟨g, 0, none⟩) n cap L) (hk : k < n) (j : Nat) (v : Value) (p : PV) (ha : p.a = (pv L k).a) (hn : p.n = (pv L k).n) (hc : p.c = (pv L k).c) (hi : p.ink = (pv L k).ink) (hf : (flatV L).set j v = flatV (L.set k p)) : OwnV (w.setCell ⟨g, j, none⟩ v) B (some ⟨g, 0, none⟩) n cap (L.set k p) := by
  have hkl : k < L.length := by rw [h.len]; exact hk
  have same : ∀ i, (pv (L.set k p) i).a = (pv L i).a ∧ (pv (L.set k p) i).n = (pv L i).n ∧ (pv (L.set k p) i).c = (pv L i).c ∧ (pv (L.set k p) i).ink = (pv L i).ink := fun i => by
    by_cases e : k = i
    · subst e; rw [pv_set_eq hkl]; exact ⟨ha, hn, hc, hi⟩
    · rw [pv_set_ne e]; exact ⟨rfl, rfl, rfl, rfl⟩
  refine ⟨by rw [List.length_set]; exact h.len, ?_, fun i hin => ?_, fun i b hin hb => ?_, fun i j b hij hj hb => ?_⟩
  · rcases h.row with ⟨h0, _⟩ | ⟨g2, h1, h2, hr⟩
    · cases h0
    · cases h1
      exact .inr ⟨g, rfl, h2, hr.setAt hkl v hf⟩
  · obtain ⟨e1, e2, e3, e4⟩ := same i
    rw [e1, e2, e3, e4]
    exact (h.ink i hin).otherT (fun e => h.off i g hin e rfl) v
  · rw [(same i).1] at hb
    exact h.off i b hin hb
  · rw [(same i).1] at hb
    rw [(same j).1]
    exact h.apart i j b hij hj hb

theorem setW (h : OwnV w B (some ⟨g, 0, none⟩) n cap L) (hk : k < n) (x : Int) : OwnV (w.setCell ⟨g, k * 3, none⟩ (.int .i64 x)) B (some ⟨g, 0, none⟩) n cap (L.set k { pv L k with W := x }) :=
  h.setNum hk _ _ _ rfl rfl rfl rfl (flat_set0 L k x (by rw [h.len]; exact hk))

theorem setH (h : OwnV w B (some ⟨g, 0, none⟩) n cap L) (hk : k < n) (x : Int) : OwnV (w.setCell ⟨g, k * 3 + 1, none⟩ (.int .i64 x)) B (some ⟨g, 0, none⟩) n cap (L.set k { pv L k with H := x }) :=
  h.setNum hk _ _ _ rfl rfl rfl rfl (flat_set1 L k x (by rw [h.len]; exact hk))

/-- The amounts of picture k written. -/
theorem setInk {ad : Option Addr} {ys : List Int} (h : OwnV w B ad n cap L) (hk : k < n) (ho : OwnA w' B (pv L k).a (pv L k).n (pv L k).c ys) (hg : w.grownBy w' (blockOf (pv L k).a)) : OwnV w' B ad n cap (L.set k { pv L k with ink := ys }) := by
  have hkl : k < L.length := by rw [h.len]; exact hk
  have same : ∀ i, (pv (L.set k { pv L k with ink := ys }) i).a = (pv L i).a ∧ (pv (L.set k { pv L k with ink := ys }) i).n = (pv L i).n ∧ (pv (L.set k { pv L k with ink := ys }) i).c = (pv L i).c := fun i => by
    by_cases e : k = i
    · subst e; rw [pv_set_eq hkl]; exact ⟨rfl, rfl, rfl⟩
    · rw [pv_set_ne e]; exact ⟨rfl, rfl, rfl⟩
  have hfl : flatV (L.set k { pv L k with ink := ys }) = flatV L := by
    refine flatV_congr (by simp) (fun i hi => ?_)
    by_cases e : k = i
    · subst e; rw [pv_set_eq hkl]; exact ⟨rfl, rfl, rfl, rfl, rfl⟩
    · rw [pv_set_ne e]; exact ⟨rfl, rfl, rfl, rfl, rfl⟩
  refine ⟨by rw [List.length_set]; exact h.len, ?_, fun i hin => ?_, fun i b hin hb => ?_, fun i j b hij hj hb => ?_⟩
  · rcases h.row with h0 | ⟨g2, h1, h2, hr⟩
    · exact .inl h0
    · refine .inr ⟨g2, h1, h2, ?_⟩
      have hr2 : RowV w' g2 cap L := hr.of_block (hg.block g2 hr.lt (fun e => h.off k g2 hk e.symm (by rw [h1]; rfl)))
      obtain ⟨cur, q1, q2, q3, q4, q5⟩ := hr2
      exact ⟨cur, q1, by rw [List.length_set]; exact q2, q3, q4, by rw [List.length_set, hfl]; exact q5⟩
  · obtain ⟨e1, e2, e3⟩ := same i
    rw [e1, e2, e3]
    by_cases e : k = i
    · subst e
      rw [pv_set_eq hkl]
      exact ho
    · rw [pv_set_ne e]
      refine (h.ink i hin).grownS hg (fun b hb => ?_)
      intro hb2
      rcases Nat.lt_or_gt_of_ne e with q | q
      · exact h.apart k i b q hin hb hb2
      · exact h.apart i k b q hk hb2 hb
  · rw [(same i).1] at hb
    exact h.off i b hin hb
  · rw [(same i).1] at hb
    rw [(same j).1]
    exact h.apart i j b hij hj hb

/-- A further picture in a row that has room for it, or moves: the outer row as append leaves it. -/
theorem snoc {ad ad' : Option Addr} {cap' : Nat} {p : PV} (h : OwnV w B ad n cap L) (hr : RowVA w' B ad' (n + 1) cap' (L ++ [p])) (hg : w.grownBy w' (blockOf ad)) (hz : ∀ b, blockOf ad' = some b → blockOf ad = some b ∨ w.heap.size ≤ b)
    (hp : OwnA w' B p.a p.n p.c p.ink) (h1 : ∀ b, blockOf p.a = some b → b < w.heap.size ∧ ¬ blocks ad L b) : OwnV w' B ad' (n + 1) cap' (L ++ [p]) := by
  have at1 : ∀ i, i < n → pv (L ++ [p]) i = pv L i := fun i hi => pv_snoc_lt (by rw [h.len]; exact hi)
  have at2 : pv (L ++ [p]) n = p := by rw [← h.len]; exact pv_snoc
  refine ⟨hr.1, hr.2, fun i hi => ?_, fun i b hi hb => ?_, fun i j b hij hj hb => ?_⟩
  · by_cases e : i < n
    · rw [at1 i e]
      exact (h.ink i e).grownS hg (fun b hb hb2 => h.off i b e hb2 hb)
    · obtain rfl : i = n := by omega
      rw [at2]; exact hp
  · intro e
    by_cases q : i < n
    · rw [at1 i q] at hb
      rcases hz b e with z | z
      · exact h.off i b q hb z
      · have := (h.ink i q).bd b hb; omega
    · obtain rfl : i = n := by omega
      rw [at2] at hb
      obtain ⟨b1, b2⟩ := h1 b hb
      rcases hz b e with z | z
      · exact b2 (.inl z)
      · omega
  · by_cases q : j < n
    · rw [at1 i (by omega)] at hb
      rw [at1 j q]
      exact h.apart i j b hij q hb
    · obtain rfl : j = n := by omega
      rw [at1 i hij] at hb
      rw [at2]
      intro e
      exact (h1 b e).2 (.inr ⟨i, by rw [h.len]; exact hij, hb⟩)

end OwnV

/-- The pictures of a list. -/
def picsV (L : List PV) : List Pic := L.map PV.pic

theorem picsV_len (L : List PV) : (picsV L).length = L.length := by simp [picsV]

theorem picsV_at (L : List PV) (k : Nat) (h : k < L.length) : (picsV L).getD k noPic = (pv L k).pic := by
  simp [picsV, pv, List.getD, List.getElem?_eq_getElem h]

theorem picsV_eq {L M : List PV} (hl : L.length = M.length) (h : ∀ k, k < L.length → (pv L k).W = (pv M k).W ∧ (pv L k).H = (pv M k).H ∧ (pv L k).ink = (pv M k).ink) : picsV L = picsV M := by
  apply List.ext_getElem?
  intro k
  by_cases hk : k < L.length
  · have e := h k hk
    unfold pv at e
    simp only [List.getD, List.getElem?_eq_getElem hk, List.getElem?_eq_getElem (show k < M.length by omega), Option.getD_some] at e
    simp only [picsV, List.getElem?_map, List.getElem?_eq_getElem hk, List.getElem?_eq_getElem (show k < M.length by omega), Option.map_some]
    obtain ⟨e1, e2, e3⟩ := e
    unfold PV.pic
    rw [e1, e2, e3]
  · rw [List.getElem?_eq_none (by simp [picsV]; omega), List.getElem?_eq_none (by simp [picsV]; omega)]

end Go.Proofs.Ytafjpmlakpfidaa
