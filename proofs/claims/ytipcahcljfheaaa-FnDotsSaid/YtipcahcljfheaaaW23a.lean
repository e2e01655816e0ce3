/-
  Chapter 8: the draw of a plate and the sum of its inks, as the laws call them.
-/
import Derived.Test.YtipcahcljfheaaaQL
import Derived.Test.YtipcahcljfheaaaN0
namespace Go.Proofs.Ytipcahcljfheaaa
open Go.RowKit
set_option linter.unusedVariables false
set_option linter.unusedSimpArgs false

theorem picOk_mkW {W H : Int} {xs : List Int} {m : Int} {n : Nat} (hs : sizeOk W H = true) (hn : xs.length = n) (hq : (n : Int) = W * H) (hw : within xs m = true) : picOk W H xs m = true := by
  rw [picOk_in hn hs hq]; exact hw

def PlateOut (w : World) (M : Int) (e : Ending) (w' : World) : Prop :=
  ∃ (W H : Int) (g n : Nat) (xs : List Int), e = .returned (.agg #[.int .i64 W, .int .i64 H, .slice (some ⟨g, 0, none⟩) n n]) ∧ 1 ≤ W ∧ W ≤ M ∧ 1 ≤ H ∧ H ≤ M ∧ (n : Int) = W * H ∧ 1 ≤ n ∧ n ≤ 64 ∧ w.heap.size ≤ g ∧ Own w' g n n xs ∧ picOk W H xs 1 = true ∧ Below w.heap.size w w'

theorem mkpl_call (ac : Option Addr) (nc capc : Nat) (bs : List Int) (M : Int) (w : World) (hl : bs.length = nc) (hr : RdU w.heap.size w ac bs) (hn : nc ≤ 4611686018427387904) (h1 : 2 ≤ M) (h2 : M ≤ 8) :
    Calls Try.prog 6 #[.slice ac nc capc, .int .i64 M] w (PlateOut w M) := by
  refine (spec_MakePlate ac nc capc bs M w hl hr hn h1 (by omega)).mono ?_
  rintro e w' ⟨W, H, g, n, xs, rfl, b1, b2, b3, b4, hq, hg, ho, hw, hb⟩
  have e1 : W * H ≤ 8 * 8 := Int.mul_le_mul (by omega) (by omega) (by omega) (by omega)
  have e2 : 1 * 1 ≤ W * H := Int.mul_le_mul b1 b3 (by omega) (by omega)
  have hs : sizeOk W H = true := by
    unfold sizeOk
    rw [decide_eq_true_iff]
    omega
  exact ⟨W, H, g, n, xs, rfl, b1, b2, b3, b4, hq, by omega, by omega, hg, ho, picOk_mkW hs ho.len hq hw, hb⟩

theorem totp_call (a : Option Addr) (n c : Nat) (xs : List Int) (s : Int) (w : World) (hl : xs.length = n) (ha : Rd w a xs) (hw : within xs 255 = true) (hn : n ≤ 1048576) (hs : isum xs = s) :
    Calls Try.prog 13 #[.slice a n c] w fun e w' => e = .returned (.int .i64 s) ∧ Below w.heap.size w w' :=
  (laws_total6 a n c xs w hl ha hw hn).mono fun e w' ⟨he, hw'⟩ => ⟨by rw [he, hs], by rw [← hw']; exact Below.refl _ _⟩

end Go.Proofs.Ytipcahcljfheaaa
