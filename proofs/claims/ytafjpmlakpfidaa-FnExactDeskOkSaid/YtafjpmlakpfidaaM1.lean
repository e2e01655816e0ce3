/-
  What the functions of chapter 2 come to, as plain functions on lists; nothing of the program.
-/
import Derived.Test.YtafjpmlakpfidaaLib
namespace Go.Proofs.Ytafjpmlakpfidaa
set_option linter.unusedVariables false
set_option linter.unusedSimpArgs false

def sizeOk (W H : Int) : Bool := decide (1 ≤ W ∧ W ≤ 64 ∧ 1 ≤ H ∧ H ≤ 64 ∧ W * H ≤ 1024)
def within (xs : List Int) (m : Int) : Bool := xs.all (fun v => decide (0 ≤ v ∧ v ≤ m))
def picOk (W H : Int) (xs : List Int) (m : Int) : Bool := sizeOk W H && (decide ((xs.length : Int) = W * H) && within xs m)

theorem mul_bd (W H : Int) (h1 : 1 ≤ W) (h2 : W ≤ 64) (h3 : 1 ≤ H) (h4 : H ≤ 64) : 1 ≤ W * H ∧ W * H ≤ 4096 := by
  constructor
  · have := Int.mul_le_mul h1 h3 (by omega) (by omega); omega
  · have := Int.mul_le_mul h2 h4 (by omega) (by omega); omega

theorem sizeOk_in {W H : Int} (h1 : 1 ≤ W) (h2 : W ≤ 64) (h3 : 1 ≤ H) (h4 : H ≤ 64) : sizeOk W H = decide (W * H ≤ 1024) := by unfold sizeOk; simp [h1, h2, h3, h4]

theorem sizeOk_out {W H : Int} (c : ¬ (1 ≤ W ∧ W ≤ 64 ∧ 1 ≤ H ∧ H ≤ 64)) : sizeOk W H = false := by
  unfold sizeOk; rw [decide_eq_false_iff_not]; exact fun h => c ⟨h.1, h.2.1, h.2.2.1, h.2.2.2.1⟩

theorem sizeOk_bd {W H : Int} (h : sizeOk W H = true) : 1 ≤ W ∧ W ≤ 64 ∧ 1 ≤ H ∧ H ≤ 64 ∧ W * H ≤ 1024 ∧ 1 ≤ W * H := by
  unfold sizeOk at h
  have h := of_decide_eq_true h
  exact ⟨h.1, h.2.1, h.2.2.1, h.2.2.2.1, h.2.2.2.2, (mul_bd W H h.1 h.2.1 h.2.2.1 h.2.2.2.1).1⟩

theorem within_snoc (xs : List Int) (k : Nat) (m : Int) (hk : k < xs.length) : within (xs.take (k + 1)) m = (within (xs.take k) m && decide (0 ≤ xs[k]?.getD 0 ∧ xs[k]?.getD 0 ≤ m)) := by
  unfold within
  rw [List.take_succ_eq_append_getElem hk, List.all_append]
  simp [List.getElem?_eq_getElem hk]

theorem within_no (xs : List Int) (k : Nat) (m : Int) (hk : k < xs.length) (h : ¬ (0 ≤ xs[k]?.getD 0 ∧ xs[k]?.getD 0 ≤ m)) : within xs m = false := by
  unfold within
  rw [List.all_eq_false]
  refine ⟨xs[k], List.getElem_mem hk, ?_⟩
  simpa [List.getElem?_eq_getElem hk] using h

theorem within_at {xs : List Int} {m : Int} (h : within xs m = true) (k : Nat) (hk : k < xs.length) : 0 ≤ xs[k]?.getD 0 ∧ xs[k]?.getD 0 ≤ m := by
  unfold within at h
  have := List.all_eq_true.1 h xs[k] (List.getElem_mem hk)
  simpa [List.getElem?_eq_getElem hk] using this

theorem picOk_no1 {W H : Int} {xs : List Int} {m : Int} (h : sizeOk W H = false) : picOk W H xs m = false := by unfold picOk; simp [h]

theorem picOk_no2 {W H : Int} {xs : List Int} {m : Int} {n : Nat} (hn : xs.length = n) (h : ¬ (n : Int) = W * H) : picOk W H xs m = false := by unfold picOk; rw [hn]; simp [h]

theorem picOk_in {W H : Int} {xs : List Int} {m : Int} {n : Nat} (hn : xs.length = n) (h1 : sizeOk W H = true) (h : (n : Int) = W * H) : picOk W H xs m = within xs m := by unfold picOk; rw [hn]; simp [h, h1]

theorem picOk_bd {W H : Int} {xs : List Int} {m : Int} {n : Nat} (hn : xs.length = n) (h : picOk W H xs m = true) : sizeOk W H = true ∧ (n : Int) = W * H ∧ within xs m = true := by
  unfold picOk at h
  simp only [Bool.and_eq_true, decide_eq_true_eq] at h
  exact ⟨h.1, by rw [← hn]; exact h.2.1, h.2.2⟩

/-- n numbers, by their places. -/
def gen (n : Nat) (f : Nat → Int) : List Int := (List.range n).map f

theorem gen_len (n : Nat) (f : Nat → Int) : (gen n f).length = n := by simp [gen]

theorem gen_get (n : Nat) (f : Nat → Int) (k : Nat) (h : k < n) : (gen n f).getD k 0 = f k := by simp [gen, List.getD, h]

theorem gen_ext (n : Nat) (f : Nat → Int) (ys : List Int) (hl : ys.length = n) (h : ∀ k, k < n → ys.getD k 0 = f k) : ys = gen n f := by
  apply List.ext_getElem?
  intro i
  by_cases hi : i < n
  · have := h i hi
    simp only [List.getD, List.getElem?_eq_getElem (show i < ys.length by omega), Option.getD_some] at this
    rw [List.getElem?_eq_getElem (show i < ys.length by omega), this]
    simp [gen, hi]
  · rw [List.getElem?_eq_none (by omega), List.getElem?_eq_none (by simp [gen]; omega)]

def isum : List Int → Int
  | [] => 0
  | x :: xs => x + isum xs

theorem isum_append (a b : List Int) : isum (a ++ b) = isum a + isum b := by
  induction a with
  | nil => simp [isum]
  | cons x a ih => simp [isum, ih]; omega

theorem isum_snoc (xs : List Int) (k : Nat) (h : k < xs.length) : isum (xs.take (k + 1)) = isum (xs.take k) + xs[k]?.getD 0 := by
  rw [List.take_succ_eq_append_getElem h, isum_append]
  simp [isum, h]

theorem isum_take_bd {xs : List Int} (h : within xs 255 = true) (k : Nat) : 0 ≤ isum (xs.take k) ∧ isum (xs.take k) ≤ 255 * k := by
  induction k with
  | zero => simp [isum]
  | succ k ih =>
    by_cases hk : k < xs.length
    · have := within_at h k hk
      rw [isum_snoc xs k hk]
      omega
    · rw [List.take_of_length_le (by omega)] at ih ⊢
      omega
def icount (v : Int) (xs : List Int) : Nat := (xs.filter (fun x => x == v)).length

theorem icount_yes (v : Int) (xs : List Int) (k : Nat) (h : k < xs.length) (e : xs[k]?.getD 0 = v) : icount v (xs.take (k + 1)) = icount v (xs.take k) + 1 := by
  simp only [List.getElem?_eq_getElem h, Option.getD_some] at e
  unfold icount
  rw [List.take_succ_eq_append_getElem h, List.filter_append, List.length_append, e]
  simp

theorem icount_no (v : Int) (xs : List Int) (k : Nat) (h : k < xs.length) (e : ¬ xs[k]?.getD 0 = v) : icount v (xs.take (k + 1)) = icount v (xs.take k) := by
  simp only [List.getElem?_eq_getElem h, Option.getD_some] at e
  unfold icount
  rw [List.take_succ_eq_append_getElem h, List.filter_append, List.length_append]
  simp [e]

theorem icount_take_bd (v : Int) (xs : List Int) (k : Nat) : icount v (xs.take k) ≤ k := by
  unfold icount
  have := List.length_filter_le (fun x => x == v) (xs.take k)
  simp at this ⊢
  omega

/-- A picture as plain data. -/
structure Pic where
  W : Int
  H : Int
  ink : List Int

def noPic : Pic := ⟨0, 0, []⟩
def inkAt (W H : Int) (xs : List Int) (x y : Int) : Int := if picOk W H xs 255 = true ∧ 0 ≤ x ∧ x < W ∧ 0 ≤ y ∧ y < H then xs.getD (y * W + x).toNat 0 else -1
def flatF (W H ink : Int) : Pic × Bool := if sizeOk W H = true ∧ 0 ≤ ink ∧ ink ≤ 255 then (⟨W, H, List.replicate (W * H).toNat ink⟩, true) else (noPic, false)
def rampF (W H : Int) : Pic × Bool := if sizeOk W H = true then (⟨W, H, gen (W * H).toNat (fun i => if 1 < W then (i : Int) % W * 255 / (W - 1) else 0)⟩, true) else (noPic, false)
def sumF (W H : Int) (xs : List Int) : Int := if picOk W H xs 255 = true then isum xs else 0
def countF (W H : Int) (xs : List Int) (v : Int) : Int := if picOk W H xs 255 = true then (icount v xs : Int) else 0
def mirrorF (W H : Int) (xs : List Int) : Pic := if picOk W H xs 255 = true then ⟨W, H, gen (W * H).toNat (fun i => xs.getD ((i : Int) / W * W + W - 1 - (i : Int) % W).toNat 0)⟩ else noPic
def turnF (W H : Int) (xs : List Int) : Pic := if picOk W H xs 255 = true then ⟨H, W, gen (W * H).toNat (fun i => xs.getD ((i : Int) % H * W + (W - 1 - (i : Int) / H)).toNat 0)⟩ else noPic
def negF (W H : Int) (xs : List Int) : Pic := if picOk W H xs 255 = true then ⟨W, H, xs.map (fun v => (if picOk W H xs 1 = true then 1 else 255) - v)⟩ else noPic
def cropF (W H : Int) (xs : List Int) (x y w h : Int) : Pic × Bool :=
  if picOk W H xs 255 = true ∧ 1 ≤ w ∧ 0 ≤ x ∧ x ≤ W - w ∧ 1 ≤ h ∧ 0 ≤ y ∧ y ≤ H - h then (⟨w, h, gen (w * h).toNat (fun i => xs.getD ((y + (i : Int) / w) * W + x + (i : Int) % w).toNat 0)⟩, true) else (noPic, false)
def tileF (W H : Int) (xs : List Int) (w h : Int) : Pic × Bool :=
  if picOk W H xs 255 = true ∧ sizeOk w h = true then (⟨w, h, gen (w * h).toNat (fun i => xs.getD ((i : Int) / w % H * W + (i : Int) % w % W).toNat 0)⟩, true) else (noPic, false)
def pairOk (W H : Int) (xs : List Int) (W' H' : Int) (ys : List Int) : Bool := picOk W H xs 255 && (picOk W' H' ys 255 && decide (W = W' ∧ H = H'))
def coversF (W H : Int) (xs : List Int) (W' H' : Int) (ys : List Int) : Bool := pairOk W H xs W' H' ys && (List.range ys.length).all (fun i => decide (ys.getD i 0 ≤ xs.getD i 0))
def addF (W H : Int) (xs : List Int) (W' H' : Int) (ys : List Int) : Pic × Bool :=
  if pairOk W H xs W' H' ys = true then (⟨W, H, gen ys.length (fun i => min (xs.getD i 0 + ys.getD i 0) 255)⟩, true) else (noPic, false)

/-- A picture is handed back, in new memory or none. -/
def PicOut (w : World) (R : Pic) (e : Ending) (w' : World) : Prop :=
  ∃ a n c, e = .returned (.agg #[.int .i64 R.W, .int .i64 R.H, .slice a n c]) ∧ OwnA w' w.heap.size a n c R.ink ∧ n ≤ 1048576 ∧ Go.RowKit.Below w.heap.size w w'
/-- A picture and a bool are handed back. -/
def PicOut2 (w : World) (R : Pic × Bool) (e : Ending) (w' : World) : Prop :=
  ∃ a n c, e = .returned (.tuple #[.agg #[.int .i64 R.1.W, .int .i64 R.1.H, .slice a n c], .bool R.2]) ∧ OwnA w' w.heap.size a n c R.1.ink ∧ n ≤ 1048576 ∧ Go.RowKit.Below w.heap.size w w'

end Go.Proofs.Ytafjpmlakpfidaa
