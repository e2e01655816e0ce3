/-
  Contracts at matrices and plates that are valid, as the laws call them.
-/
import Derived.Test.YtepaklcobkdfdaaR7
namespace Go.Proofs.Ytepaklcobkdfdaa
open Go.RowKit
set_option linter.unusedVariables false
set_option linter.unusedSimpArgs false

theorem cells_call (W H : Int) (a : Option Addr) (n cp : Nat) (xs : List Int) (l : Nat) (w : World) (hl : xs.length = n) (ha : Rd w a xs) (mk : matOk W H xs = true) (mw : W ≤ 16) (mh : H ≤ 16) (h : l ≤ n) (hn : n ≤ 9223372036854775807) :
    Calls Try.prog 65 #[.agg #[.int .i64 W, .int .i64 H, .slice a n cp], .int .i64 (l : Int)] w fun e w' =>
      ∃ a' n' c', e = .returned (.agg #[.int .i64 W, .int .i64 H, .slice a' n' c']) ∧ OwnA w' w.heap.size a' n' c' (xs.map (cellsG l)) ∧ n' ≤ 1048576 ∧ Below w.heap.size w w' := by
  refine (impl_CellsBelow W H a n cp xs l w hl ha hn).mono ?_
  rintro e w' ⟨a', n', c', he, ho, hn', hb⟩
  rw [(cells_ok hl mk mw mh l h).1] at he ho
  exact ⟨a', n', c', he, ho, hn', hb⟩

theorem plate_call (W H : Int) (a : Option Addr) (n cp : Nat) (xs : List Int) (w : World) (hl : xs.length = n) (ha : Rd w a xs) (hn : n ≤ 9223372036854775807) (h : picOk W H xs 1 = true) :
    Calls Try.prog 19 #[.agg #[.int .i64 W, .int .i64 H, .slice a n cp]] w fun e w' => e = .returned (.bool true) ∧ Below w.heap.size w w' :=
  (impl_IsPlate W H a n cp xs w hl ha hn).mono fun e w' ⟨he, hb⟩ => ⟨by rw [he, h], hb⟩

theorem count_call (W H : Int) (a : Option Addr) (n cp : Nat) (xs : List Int) (l : Nat) (w : World) (hl : xs.length = n) (ha : Rd w a xs) (hn : n ≤ 9223372036854775807) (h : countF W H xs 1 = l) :
    Calls Try.prog 20 #[.agg #[.int .i64 W, .int .i64 H, .slice a n cp], .int .i64 1] w fun e w' => e = .returned (.int .i64 (l : Int)) ∧ Below w.heap.size w w' :=
  (impl_CountInk W H a n cp xs 1 w hl ha hn).mono fun e w' ⟨he, hb⟩ => ⟨by rw [he, h], hb⟩

theorem isM_call (W H : Int) (a : Option Addr) (n cp : Nat) (xs : List Int) (w : World) (hl : xs.length = n) (ha : Rd w a xs) (mk : matOk W H xs = true) (hn : n ≤ 9223372036854775807) :
    Calls Try.prog 78 #[.agg #[.int .i64 W, .int .i64 H, .slice a n cp]] w fun e w' => e = .returned (.bool true) ∧ Below w.heap.size w w' :=
  (impl_IsMatrix W H a n cp xs w hl ha hn).mono fun e w' ⟨he, hb⟩ => ⟨by rw [he, mk], hb⟩

theorem same_call (W H : Int) (a : Option Addr) (n cp : Nat) (xs : List Int) (a' : Option Addr) (n' cp' : Nat) (ys : List Int) (w : World) (hl : xs.length = n) (ha : Rd w a xs) (hn : n ≤ 9223372036854775807) (hl' : ys.length = n') (ha' : Rd w a' ys) (hn' : n' ≤ 9223372036854775807) (h : xs = ys) :
    Calls Try.prog 25 #[.agg #[.int .i64 W, .int .i64 H, .slice a n cp], .agg #[.int .i64 W, .int .i64 H, .slice a' n' cp']] w fun e w' => e = .returned (.bool true) ∧ Below w.heap.size w w' :=
  (laws_same W H a n cp xs W H a' n' cp' ys w hl ha hn hl' ha' hn').mono fun e w' ⟨he, hb⟩ => ⟨by rw [he]; exact ret_bool (by simp [h]), hb⟩

theorem at_call (B : Nat) (ac : Option Addr) (nc capc : Nat) (bs : List Int) (i : Int) (w : World) (hl : bs.length = nc) (hr : RdU B w ac bs) (hn : nc ≤ 1048576) (h0 : 0 ≤ i) (h1 : i ≤ 100) :
    Calls Try.prog 12 #[.slice ac nc capc, .int .i64 i] w fun e w' => ∃ v : Nat, e = .returned (.int .i64 (v : Int)) ∧ v ≤ 255 ∧ w = w' := by
  have h := laws_at B ac nc capc bs i.toNat w hl hr hn (by omega)
  rw [Int.toNat_of_nonneg h0] at h
  exact h

end Go.Proofs.Ytepaklcobkdfdaa
