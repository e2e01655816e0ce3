/-
  Contracts of chapter 8: plates grown and shrunk (model).
-/
import Derived.Test.YtipcahcljfheaaaW1
import Derived.Test.YtipcahcljfheaaaC2
import Derived.Test.YtipcahcljfheaaaD3
namespace Go.Proofs.Ytipcahcljfheaaa
open Go.RowKit
set_option linter.unusedVariables false
set_option linter.unusedSimpArgs false

def growF (m : Int) (W H : Int) (xs : List Int) : Pic := if picOk W H xs 1 = true then ⟨W, H, leastG W.toNat H.toNat xs xs.length m⟩ else noPic
def gainF (W H : Int) (xs : List Int) : Int := if picOk W H xs 1 = true then isum (leastG W.toNat H.toNat xs xs.length 1) - isum xs else 0

theorem growF_no {m W H : Int} {xs : List Int} (h : ¬ picOk W H xs 1 = true) : growF m W H xs = noPic := by unfold growF; rw [if_neg h]

theorem growF_yes {m W H : Int} {xs : List Int} {n : Nat} (hn : xs.length = n) (h : picOk W H xs 1 = true) : growF m W H xs = ⟨W, H, leastG W.toNat H.toNat xs n m⟩ := by unfold growF; rw [if_pos h, hn]

theorem grown_callW {a b c : World} {row : Option Nat} (h : a.grownBy b row) (hb : Below b.heap.size b c) : a.grownBy c row :=
  grown_trans h ⟨hb.os, hb.tape, hb.output, hb.size, fun i hi _ => hb.block i hi⟩

theorem filled_skipW (ys xs : List Int) (k : Nat) (hk : k < ys.length) (hx : k < xs.length) (hv : ys.getD k 0 = xs.getD k 0) : filled ys xs k = filled ys xs (k + 1) := by
  rw [← filled_succ ys xs k _ hk hx rfl, hv]
  apply List.ext_getElem?
  intro i
  rw [List.getElem?_set]
  by_cases h : k = i
  · subst h
    rw [if_pos rfl, if_pos (by simp [filled]; omega)]
    simp only [filled]
    rw [List.getElem?_append_right (by simp; omega)]
    simp only [List.length_take, Nat.min_eq_left (Nat.le_of_lt hk), Nat.sub_self, List.getElem?_drop, Nat.add_zero]
    simp [List.getD, List.getElem?_eq_getElem hx]
  · rw [if_neg h]

theorem leastG_len (w h : Nat) (xs : List Int) (n : Nat) (m : Int) : (leastG w h xs n m).length = n := gen_len _ _

theorem leastG_at {w h : Nat} {xs : List Int} {n : Nat} {m : Int} {k : Nat} (hk : k < n) : (leastG w h xs n m).getD k 0 = if m ≤ nearS w h xs k then 1 else 0 := gen_get _ _ _ hk

theorem grow_plate {m W H : Int} {xs : List Int} (h : picOk W H xs 1 = true) : picOk W H (leastG W.toNat H.toNat xs xs.length m) 1 = true := by
  obtain ⟨h1, h2, h3⟩ := picOk_bd rfl h
  unfold picOk
  rw [h1, decide_eq_true (by rw [leastG_len]; exact h2), least_within]
  rfl

theorem gain_small {W H : Int} {xs : List Int} {n : Nat} (hn : xs.length = n) (h : within xs 1 = true) (hn2 : n ≤ 1024) : 0 ≤ isum xs ∧ isum xs ≤ 1024 := by
  have h2 : ∀ ys : List Int, within ys 1 = true → 0 ≤ isum ys ∧ isum ys ≤ ys.length := by
    intro ys
    induction ys with
    | nil => intro _; exact ⟨Int.le_refl _, Int.le_refl _⟩
    | cons a r ih =>
      intro hw
      unfold within at hw ih
      simp only [List.all_cons, Bool.and_eq_true, decide_eq_true_eq] at hw
      have := ih hw.2
      unfold isum
      simp only [List.length_cons]
      omega
  have := h2 xs h
  omega

end Go.Proofs.Ytipcahcljfheaaa
