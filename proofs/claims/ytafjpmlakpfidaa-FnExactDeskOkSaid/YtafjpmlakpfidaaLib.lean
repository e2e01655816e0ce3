/-
  Plain lemmas on rows of integers in memory; nothing of the program but the number of int's type (3).
-/
import Derived.WalkKit
import Derived.WalkSpells
import Derived.WalkLawsBesides
import Derived.Lib.Hide
import Derived.Lib.SmallJoins
namespace Go.Proofs.Ytafjpmlakpfidaa
open Go.RowKit
set_option linter.unusedVariables false
set_option linter.unusedSimpArgs false

theorem ret_bool {a b : Bool} (h : a = b) : Ending.returned (.bool a) = .returned (.bool b) := by rw [h]

theorem ret_int {k : IntKind} {a b : Int} (h : a = b) : Ending.returned (.int k a) = .returned (.int k b) := by rw [h]

/-- The slice at `ad` reads in w as the numbers xs. -/
def Rd (w : World) (ad : Option Addr) (xs : List Int) : Prop :=
  ∀ k, k < xs.length → ∃ b off, ad = some ⟨b, off, none⟩ ∧ b < w.heap.size ∧ w.cell? ⟨b, off + k, none⟩ = some (.int .i64 (xs.getD k 0))

theorem Rd.at {w : World} {ad : Option Addr} {xs : List Int} (h : Rd w ad xs) (hx : 0 < xs.length) :
    ∃ b off, ad = some ⟨b, off, none⟩ ∧ b < w.heap.size ∧ ∀ k, k < xs.length → w.cell? ⟨b, off + k, none⟩ = some (.int .i64 (xs.getD k 0)) := by
  obtain ⟨b, off, hb, hl, _⟩ := h 0 hx
  refine ⟨b, off, hb, hl, fun k hk => ?_⟩
  obtain ⟨b', off', hb', _, hc⟩ := h k hk
  rw [hb] at hb'
  obtain ⟨rfl, rfl⟩ : b = b' ∧ off = off' := by
    have := Option.some.inj hb'
    simp only [Addr.mk.injEq] at this
    exact ⟨this.1, this.2.1⟩
  exact hc

theorem Rd.below {w w' : World} {ad : Option Addr} {xs : List Int} (h : Rd w ad xs) (hb : Below w.heap.size w w') : Rd w' ad xs := by
  intro k hk
  obtain ⟨b, off, h1, h2, h3⟩ := h k hk
  exact ⟨b, off, h1, Nat.lt_of_lt_of_le h2 hb.size, (hb.cell (p := ⟨b, off + k, none⟩) h2).trans h3⟩

theorem Rd.of_heap {w w' : World} {ad : Option Addr} {xs : List Int} (h : Rd w ad xs) (he : w'.heap = w.heap) : Rd w' ad xs := by
  intro k hk
  obtain ⟨b, off, h1, h2, h3⟩ := h k hk
  exact ⟨b, off, h1, by rw [he]; exact h2, (World.cell?_of_block (w := w) (by rw [he])).trans h3⟩

theorem Rd.alloc {w : World} {ad : Option Addr} {xs : List Int} (h : Rd w ad xs) (o : Obj) : Rd (w.alloc o) ad xs := h.below (Joins.below_alloc1 w o)

theorem Rd.drew {w : World} {ad : Option Addr} {xs : List Int} (h : Rd w ad xs) : Rd w.drew ad xs := h.of_heap rfl

theorem Rd.nil (w : World) (ad : Option Addr) : Rd w ad [] := fun _ hk => by simp at hk

/-- Block g of w is a row of numbers whose first n are xs. -/
def Own (w : World) (g n cap : Nat) (xs : List Int) : Prop :=
  xs.length = n ∧ ∃ cur, w.heap[g]? = some (.cells cur 3 (0, 0)) ∧ n ≤ cap ∧ cap ≤ maxLen ∧ cur.size = cap ∧ cur.toList.take n = xs.map (Value.int .i64)

namespace Own
variable {w w' : World} {g n cap : Nat} {xs : List Int}

theorem len (h : Own w g n cap xs) : xs.length = n := h.1

theorem lt (h : Own w g n cap xs) : g < w.heap.size := by
  obtain ⟨_, cur, hg, _⟩ := h
  exact (Array.getElem?_eq_some_iff.1 hg).1

theorem cell (h : Own w g n cap xs) {j : Nat} (hj : j < n) : w.cell? ⟨g, j, none⟩ = some (.int .i64 (xs.getD j 0)) := by
  obtain ⟨hl, cur, hg, _, _, _, ht⟩ := h
  rw [cell_of_row w g j cur 3 (0, 0) hg]
  have h2 : (cur.toList.take n)[j]? = (xs.map (Value.int .i64))[j]? := by rw [ht]
  rw [List.getElem?_take, if_pos hj] at h2
  simp only [Array.getElem?_toList] at h2
  rw [h2]
  simp [List.getD, List.getElem?_eq_getElem (show j < xs.length by omega)]

theorem frozen (h : Own w g n cap xs) (j : Nat) : w.frozen? ⟨g, j, none⟩ = false := by
  obtain ⟨_, cur, hg, _⟩ := h
  exact frozen_of_row w g j cur 3 hg

theorem set (h : Own w g n cap xs) (j : Nat) (v : Int) : Own (w.setCell ⟨g, j, none⟩ (.int .i64 v)) g n cap (xs.set j v) := by
  obtain ⟨hl, cur, hg, h1, h2, h3, ht⟩ := h
  refine ⟨by simpa using hl, cur.setIfInBounds j (.int .i64 v), heap_setCell_same w g j cur _ _ hg, h1, h2, by simpa using h3, ?_⟩
  rw [Array.toList_setIfInBounds, List.map_set, ← ht, List.take_set]

theorem of_block (h : Own w g n cap xs) (hb : w'.heap[g]? = w.heap[g]?) : Own w' g n cap xs := by
  obtain ⟨hl, cur, hg, r⟩ := h
  exact ⟨hl, cur, hb.trans hg, r⟩

theorem below {B : Nat} (h : Own w g n cap xs) (hb : Below B w w') (hg : g < B) : Own w' g n cap xs := h.of_block (hb.block g hg)

theorem grown {row : Option Nat} (h : Own w g n cap xs) (hb : w.grownBy w' row) (hg : some g ≠ row) : Own w' g n cap xs := h.of_block (hb.block g h.lt hg)

theorem alloc (h : Own w g n cap xs) (o : Obj) : Own (w.alloc o) g n cap xs := h.of_block (Below.heap_alloc w o g h.lt)

theorem drewN (h : Own w g n cap xs) (m : Nat) : Own (w.drewN m) g n cap xs := h.of_block rfl

theorem other (h : Own w g n cap xs) {a : Addr} (ha : a.block ≠ g) (u : Value) : Own (w.setCell a u) g n cap xs := h.of_block (Below.heap_setCell w a u g (by omega))

theorem rd (h : Own w g n cap xs) : Rd w (some ⟨g, 0, none⟩) xs := fun k hk => ⟨g, 0, rfl, h.lt, by rw [Nat.zero_add]; exact h.cell (by have := h.len; omega)⟩

end Own

/-- The cells M of a new row are the numbers xs. -/
def RowM (M : Array Value) (n : Nat) (xs : List Int) : Prop := xs.length = n ∧ n ≤ maxLen ∧ M.size = n ∧ M.toList = xs.map (Value.int .i64)

theorem RowM.zero (n : Nat) (hn : n ≤ maxLen) : RowM (madeCells #[.int .i64 0] n) n (List.replicate n 0) :=
  ⟨by simp, hn, size_madeCells _ _, by rw [toList_madeCells_one]; simp⟩

theorem RowM.own {M : Array Value} {n : Nat} {xs : List Int} (h : RowM M n xs) (w : World) : Own (w.alloc (.cells M 3)) w.heap.size n n xs :=
  ⟨h.1, M, heap_alloc_new w _, Nat.le_refl _, h.2.1, h.2.2.1, by rw [h.2.2.2, List.take_of_length_le (by simp [h.1])]⟩

theorem RowM.own' {M : Array Value} {n g : Nat} {xs : List Int} (h : RowM M n xs) (w : World) (hg : g = w.heap.size) : Own (w.alloc (.cells M 3)) g n n xs := by
  subst hg; exact h.own w

/-- A slice of the call's own, from block B on, or nil. -/
def OwnA (w : World) (B : Nat) (ad : Option Addr) (n cap : Nat) (xs : List Int) : Prop :=
  (ad = none ∧ n = 0 ∧ cap = 0 ∧ xs = []) ∨ ∃ g, ad = some ⟨g, 0, none⟩ ∧ B ≤ g ∧ Own w g n cap xs

def blockOf : Option Addr → Option Nat
  | some a => some a.block
  | none => none

namespace OwnA
variable {w w' : World} {B n cap : Nat} {ad : Option Addr} {xs : List Int}

theorem mk {g : Nat} (h : Own w g n cap xs) (hB : B ≤ g) : OwnA w B (some ⟨g, 0, none⟩) n cap xs := .inr ⟨g, rfl, hB, h⟩

theorem none (w : World) (B : Nat) : OwnA w B none 0 0 [] := .inl ⟨rfl, rfl, rfl, rfl⟩

theorem len (h : OwnA w B ad n cap xs) : xs.length = n := by
  rcases h with ⟨_, rfl, _, rfl⟩ | ⟨g, _, _, h⟩
  · rfl
  · exact h.len

theorem rd (h : OwnA w B ad n cap xs) : Rd w ad xs := by
  rcases h with ⟨_, _, _, rfl⟩ | ⟨g, rfl, _, h⟩
  · exact Rd.nil _ _
  · exact h.rd

theorem below {B' : Nat} (h : OwnA w B ad n cap xs) (hb : Below B' w w') (hg : w.heap.size ≤ B') : OwnA w' B ad n cap xs := by
  rcases h with h | ⟨g, h1, h2, h⟩
  · exact .inl h
  · exact .inr ⟨g, h1, h2, h.below hb (by have := h.lt; omega)⟩

theorem grown {row : Option Nat} (h : OwnA w B ad n cap xs) (hb : w.grownBy w' row) (hg : ∀ k, row = some k → k < B) : OwnA w' B ad n cap xs := by
  rcases h with h | ⟨g, h1, h2, h⟩
  · exact .inl h
  · exact .inr ⟨g, h1, h2, h.grown hb (fun e => by have := hg g e.symm; omega)⟩

theorem grown2 {row : Option Nat} (h : OwnA w B ad n cap xs) (hb : w.grownBy w' row) (hg : ∀ k, row = some k → w.heap.size ≤ k ∨ blockOf ad ≠ some k) : OwnA w' B ad n cap xs := by
  rcases h with h | ⟨g, h1, h2, h⟩
  · exact .inl h
  · refine .inr ⟨g, h1, h2, h.grown hb (fun e => ?_)⟩
    have hl := h.lt
    rcases hg g e.symm with h3 | h3
    · omega
    · subst h1; simp [blockOf] at h3

theorem drewN (h : OwnA w B ad n cap xs) (m : Nat) : OwnA (w.drewN m) B ad n cap xs := by
  rcases h with h | ⟨g, h1, h2, h⟩
  · exact .inl h
  · exact .inr ⟨g, h1, h2, h.drewN m⟩

theorem drew (h : OwnA w B ad n cap xs) : OwnA w.drew B ad n cap xs := h.drewN 1

theorem below' (h : OwnA w B ad n cap xs) (hb : Below w.heap.size w w') : OwnA w' B ad n cap xs := h.below hb (Nat.le_refl _)

theorem alloc (h : OwnA w B ad n cap xs) (o : Obj) : OwnA (w.alloc o) B ad n cap xs := h.below (Joins.below_alloc1 w o) (Nat.le_refl _)

theorem grownS {o : Option Addr} (h : OwnA w B ad n cap xs) (hb : w.grownBy w' (blockOf o)) (hs : ∀ b, blockOf o = some b → blockOf ad ≠ some b) : OwnA w' B ad n cap xs :=
  h.grown2 hb (fun k hk => .inr (hs k hk))

theorem bd (h : OwnA w B ad n cap xs) : ∀ b, blockOf ad = some b → B ≤ b ∧ b < w.heap.size := by
  intro b hb
  rcases h with ⟨rfl, _⟩ | ⟨g, rfl, h2, h⟩
  · simp [blockOf] at hb
  · simp only [blockOf, Option.some.injEq] at hb
    subst hb
    exact ⟨h2, h.lt⟩

theorem mono {B' : Nat} (h : OwnA w B ad n cap xs) (hB : B' ≤ B) : OwnA w B' ad n cap xs := by
  rcases h with h | ⟨g, h1, h2, h⟩
  · exact .inl h
  · exact .inr ⟨g, h1, by omega, h⟩
end OwnA

theorem bAlloc {w w1 : World} (h : Below w.heap.size w w1) (o : Obj) : Below w.heap.size w (w1.alloc o) := h.alloc h.size o

theorem bTrans {w w1 w2 : World} (h : Below w.heap.size w w1) (hb : Below w1.heap.size w1 w2) : Below w.heap.size w w2 := h.trans (hb.mono h.size)

theorem bcell {W w1 : World} {B : Nat} (hb : Below B W w1) : (∀ b o, b < B → w1.cell? ⟨b, o, none⟩ = W.cell? ⟨b, o, none⟩) ∧ (∀ b o, b < B → w1.frozen? ⟨b, o, none⟩ = W.frozen? ⟨b, o, none⟩) :=
  ⟨fun b o h => hb.cell (p := ⟨b, o, none⟩) h, fun b o h => hb.frozen (p := ⟨b, o, none⟩) h⟩

/-- Block g of w holds the cells cs, of type T, and may be written. -/
def Blk (w : World) (g T : Nat) (cs : Array Value) : Prop := w.heap[g]? = some (.cells cs T (0, 0))

namespace Blk
variable {w w' : World} {g T : Nat} {cs : Array Value}

theorem lt (h : Blk w g T cs) : g < w.heap.size := (Array.getElem?_eq_some_iff.1 h).1

theorem cell (h : Blk w g T cs) (i : Nat) : w.cell? ⟨g, i, none⟩ = cs[i]? := Joins.cell_of_block h i

theorem frozen (h : Blk w g T cs) (i : Nat) : w.frozen? ⟨g, i, none⟩ = false := Joins.unfrozen_of_block h i

theorem of_block (h : Blk w g T cs) (hb : w'.heap[g]? = w.heap[g]?) : Blk w' g T cs := hb.trans h

theorem below {B : Nat} (h : Blk w g T cs) (hb : Below B w w') (hg : g < B) : Blk w' g T cs := h.of_block (hb.block g hg)

theorem below' (h : Blk w g T cs) (hb : Below w.heap.size w w') : Blk w' g T cs := h.below hb h.lt

theorem alloc (h : Blk w g T cs) (o : Obj) : Blk (w.alloc o) g T cs := h.of_block (Below.heap_alloc w o g h.lt)

theorem drewN (h : Blk w g T cs) (m : Nat) : Blk (w.drewN m) g T cs := h.of_block rfl

theorem grown {row : Option Nat} (h : Blk w g T cs) (hb : w.grownBy w' row) (hg : some g ≠ row) : Blk w' g T cs := h.of_block (hb.block g h.lt hg)

theorem drew (h : Blk w g T cs) : Blk w.drew g T cs := h.of_block rfl

theorem grownS {o : Option Addr} (h : Blk w g T cs) (hb : w.grownBy w' (blockOf o)) (hs : ∀ b, blockOf o = some b → b ≠ g) : Blk w' g T cs :=
  h.grown hb (fun e => hs g e.symm rfl)

theorem other (h : Blk w g T cs) {a : Addr} (ha : a.block ≠ g) (u : Value) : Blk (w.setCell a u) g T cs := h.of_block (Below.heap_setCell w a u g (by omega))

theorem set (h : Blk w g T cs) (i : Nat) (u : Value) : Blk (w.setCell ⟨g, i, none⟩ u) g T (cs.setIfInBounds i u) := Joins.block_setCell h u

theorem new (w : World) (T : Nat) (cs : Array Value) : Blk (w.alloc (.cells cs T)) w.heap.size T cs := heap_alloc_new w _

theorem new' {w : World} {g : Nat} (T : Nat) (cs : Array Value) (h : g = w.heap.size) : Blk (w.alloc (.cells cs T)) g T cs := by subst h; exact new w T cs
/-- Three cells, as the walk wants them. -/
theorem c3 {a b c : Value} (h : Blk w g T #[a, b, c]) : g < w.heap.size ∧ w.cell? ⟨g, 0, none⟩ = some a ∧ w.cell? ⟨g, 1, none⟩ = some b ∧ w.cell? ⟨g, 2, none⟩ = some c :=
  ⟨h.lt, by rw [h.cell]; rfl, by rw [h.cell]; rfl, by rw [h.cell]; rfl⟩

theorem f3 (h : Blk w g T cs) : w.frozen? ⟨g, 0, none⟩ = false ∧ w.frozen? ⟨g, 1, none⟩ = false ∧ w.frozen? ⟨g, 2, none⟩ = false := ⟨h.frozen 0, h.frozen 1, h.frozen 2⟩
end Blk

theorem grown_below {w w' : World} {row : Option Nat} {B : Nat} (hg : w.grownBy w' row) (hB : B ≤ w.heap.size) (hr : ∀ k, row = some k → B ≤ k) : Below B w w' := (Below.refl B w).grown hg hB hr

theorem grown_trans {a b c : World} {row : Option Nat} (h : a.grownBy b row) (k : b.grownBy c row) : a.grownBy c row :=
  ⟨k.os.trans h.os, k.tape.trans h.tape, k.output.trans h.output, Nat.le_trans h.size k.size, fun i hi hr => (k.block i (Nat.lt_of_lt_of_le hi h.size) hr).trans (h.block i hi hr)⟩

theorem grown_refl (w : World) (row : Option Nat) : w.grownBy w row := World.grownBy.refl w row

theorem grown_drewN {a b : World} {row : Option Nat} (h : a.grownBy b row) (n : Nat) : a.grownBy (b.drewN n) row := ⟨h.os, h.tape, h.output, h.size, h.block⟩

theorem grown_set {a b : World} {g j : Nat} (h : a.grownBy b (some g)) (u : Value) : a.grownBy (b.setCell ⟨g, j, none⟩ u) (some g) :=
  grown_trans h ⟨rfl, rfl, rfl, by simp [World.setCell], fun k _ hk => Below.heap_setCell b _ u k (fun e => hk (by simp [e]))⟩

theorem take_succ_eq {xs ys : List Int} {k : Nat} (h1 : k < xs.length) (h2 : k < ys.length) (h : xs.take k = ys.take k) (he : xs.getD k 0 = ys.getD k 0) : xs.take (k + 1) = ys.take (k + 1) := by
  rw [List.take_succ_eq_append_getElem h1, List.take_succ_eq_append_getElem h2, h]
  simp only [List.getD, List.getElem?_eq_getElem h1, List.getElem?_eq_getElem h2, Option.getD_some] at he
  rw [he]

theorem draws1 (w : World) (q : Nat) : ∃ k, w.drewN q = w.drewN k := ⟨q, rfl⟩

theorem draws2 (w : World) (q m : Nat) : ∃ k, (w.drewN q).drewN m = w.drewN k := ⟨q + m, by simp⟩

/-- n numbers from s on. -/
def upFrom (s : Int) (n : Nat) : List Int := (List.range n).map (fun (i : Nat) => s + (i : Int))

theorem upFrom_len (s : Int) (n : Nat) : (upFrom s n).length = n := by simp [upFrom]

theorem upFrom_get (s : Int) (n i : Nat) (h : i < n) : (upFrom s n).getD i 0 = s + (i : Int) := by
  simp [upFrom, List.getD, h]

/-- A loop that writes ys, one after the other, over xs: behind k rounds. -/
def filled (ys xs : List Int) (k : Nat) : List Int := ys.take k ++ xs.drop k

theorem filled_zero (ys xs : List Int) : filled ys xs 0 = xs := by simp [filled]

theorem filled_all (ys xs : List Int) (h : xs.length = ys.length) : filled ys xs ys.length = ys := by rw [filled, List.take_of_length_le (by omega), List.drop_of_length_le (by omega), List.append_nil]

theorem filled_self (xs : List Int) (k : Nat) : filled xs xs k = xs := by simp [filled]

theorem filled_at (ys xs : List Int) (k : Nat) (h1 : ys.length = k) (h2 : xs.length = k) : filled ys xs k = ys := by rw [filled, List.take_of_length_le (by omega), List.drop_of_length_le (by omega), List.append_nil]

theorem filled_succ (ys xs : List Int) (k : Nat) (v : Int) (hk : k < ys.length) (hx : k < xs.length) (hv : ys.getD k 0 = v) : (filled ys xs k).set k v = filled ys xs (k + 1) := by
  subst hv
  apply List.ext_getElem?
  intro i
  simp only [filled, List.getElem?_set, List.length_append, List.length_take, List.length_drop]
  by_cases h : k = i
  · subst h
    rw [if_pos rfl, if_pos (by omega), List.getElem?_append_left (by simp; omega), List.getElem?_take, if_pos (by omega)]
    simp [List.getD, hk]
  · rw [if_neg h]
    by_cases hi : i < k
    · rw [List.getElem?_append_left (by simp; omega), List.getElem?_append_left (by simp; omega), List.getElem?_take, List.getElem?_take, if_pos hi, if_pos (by omega)]
    · rw [List.getElem?_append_right (by simp; omega), List.getElem?_append_right (by simp; omega), List.getElem?_drop, List.getElem?_drop]
      simp only [List.length_take]
      congr 1; omega
end Go.Proofs.Ytafjpmlakpfidaa
