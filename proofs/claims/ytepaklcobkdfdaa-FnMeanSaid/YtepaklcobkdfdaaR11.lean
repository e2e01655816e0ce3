/-
  Contracts of chapter 2 at pictures that are valid, as the laws call them.
-/
import Derived.Test.YtepaklcobkdfdaaM10
import Derived.Test.YtepaklcobkdfdaaR2
import Derived.Test.YtepaklcobkdfdaaR8
import Derived.Test.YtepaklcobkdfdaaC7b
import Derived.Test.YtepaklcobkdfdaaC5
namespace Go.Proofs.Ytepaklcobkdfdaa
open Go.RowKit
set_option linter.unusedVariables false
set_option linter.unusedSimpArgs false

theorem mir_call (W H : Int) (a : Option Addr) (n cp : Nat) (xs ys : List Int) (w : World) (hl : xs.length = n) (ha : Rd w a xs) (hp : picOk W H xs 255 = true) (hn : n ≤ 9223372036854775807) (hy : mirL W n xs = ys) :
    Calls Try.prog 30 #[.agg #[.int .i64 W, .int .i64 H, .slice a n cp]] w fun e w' =>
      ∃ a' c', e = .returned (.agg #[.int .i64 W, .int .i64 H, .slice a' n c']) ∧ OwnA w' w.heap.size a' n c' ys ∧ Below w.heap.size w w' := by
  subst hy
  refine (impl_MirrorPicture W H a n cp xs w hl ha hn).mono ?_
  rintro e w' ⟨a', n', c', he, ho, hn', hb⟩
  rw [(mir_ok hl hp).1] at he ho
  have hm : n' = n := by have := ho.len; rw [mirL_len] at this; exact this.symm
  subst hm
  exact ⟨a', c', he, ho, hb⟩

theorem sum_call (W H : Int) (a : Option Addr) (n cp : Nat) (xs : List Int) (s : Int) (w : World) (hl : xs.length = n) (ha : Rd w a xs) (hp : picOk W H xs 255 = true) (hn : n ≤ 9223372036854775807) (hs : isum xs = s) :
    Calls Try.prog 61 #[.agg #[.int .i64 W, .int .i64 H, .slice a n cp]] w fun e w' => e = .returned (.int .i64 s) ∧ Below w.heap.size w w' := by
  refine (impl_SumInk W H a n cp xs w hl ha hn).mono ?_
  rintro e w' ⟨he, hb⟩
  unfold sumF at he
  rw [if_pos hp, hs] at he
  exact ⟨he, hb⟩

theorem cnt_call (W H : Int) (a : Option Addr) (n cp : Nat) (xs : List Int) (v c : Int) (w : World) (hl : xs.length = n) (ha : Rd w a xs) (hp : picOk W H xs 255 = true) (hn : n ≤ 9223372036854775807) (hs : (icount v xs : Int) = c) :
    Calls Try.prog 20 #[.agg #[.int .i64 W, .int .i64 H, .slice a n cp], .int .i64 v] w fun e w' => e = .returned (.int .i64 c) ∧ Below w.heap.size w w' := by
  refine (impl_CountInk W H a n cp xs v w hl ha hn).mono ?_
  rintro e w' ⟨he, hb⟩
  unfold countF at he
  rw [if_pos hp, hs] at he
  exact ⟨he, hb⟩

theorem total_call (a : Option Addr) (n cp : Nat) (xs : List Int) (s : Int) (w : World) (hl : xs.length = n) (ha : Rd w a xs) (hw : within xs 255 = true) (hn : n ≤ 1048576) (hs : isum xs = s) :
    Calls Try.prog 15 #[.slice a n cp] w fun e w' => e = .returned (.int .i64 s) ∧ Below w.heap.size w w' := by
  refine (laws_total a n cp xs w hl ha hw hn).mono ?_
  rintro e w' ⟨he, rfl⟩
  rw [hs] at he
  exact ⟨he, Below.refl _ _⟩

theorem pic_call (ac : Option Addr) (nc capc : Nat) (bs : List Int) (most : Int) (w : World) (hl : bs.length = nc) (hr : RdU w.heap.size w ac bs) (hn : nc ≤ 4611686018427387904) (h1 : 1 ≤ most) (h2 : most ≤ 9) :
    Calls Try.prog 16 #[.slice ac nc capc, .int .i64 most] w fun e w' =>
      ∃ (W H : Int) (a : Option Addr) (n c : Nat) (xs : List Int), e = .returned (.agg #[.int .i64 W, .int .i64 H, .slice a n c]) ∧ 1 ≤ W ∧ 1 ≤ H ∧ (n : Int) = W * H ∧ 1 ≤ n ∧ n ≤ 81 ∧ xs.length = n ∧ Rd w' a xs ∧ picOk W H xs 255 = true ∧ within xs 255 = true ∧ Below w.heap.size w w' := by
  refine (spec_MakePicture ac nc capc bs most w hl hr hn h1 (by omega)).mono ?_
  rintro e w' ⟨W, H, g, n, xs, rfl, b1, b2, b3, b4, hq, hg, ho, hw, hb⟩
  have e1 : W * H ≤ 9 * 9 := Int.mul_le_mul (by omega) (by omega) (by omega) (by omega)
  have e2 : 1 * 1 ≤ W * H := Int.mul_le_mul b1 b3 (by omega) (by omega)
  have hs : sizeOk W H = true := by
    unfold sizeOk
    rw [decide_eq_true_iff]
    omega
  exact ⟨W, H, _, n, n, xs, rfl, b1, b3, hq, by omega, by omega, ho.len, ho.rd, picOk_mk hs ho.len hq hw, hw, hb⟩

end Go.Proofs.Ytepaklcobkdfdaa
