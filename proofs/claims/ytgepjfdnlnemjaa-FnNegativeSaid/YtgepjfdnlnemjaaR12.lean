/-
  Contracts of tiling and cutting at pictures that are valid, as the laws call them.
-/
import Derived.Test.YtgepjfdnlnemjaaM11
import Derived.Test.YtgepjfdnlnemjaaR11
import Derived.Test.YtgepjfdnlnemjaaC6
import Derived.Test.YtgepjfdnlnemjaaC7c
namespace Go.Proofs.Ytgepjfdnlnemjaa
open Go.RowKit
set_option linter.unusedVariables false
set_option linter.unusedSimpArgs false

theorem OwnA.cap {w : World} {B n cap : Nat} {ad : Option Addr} {xs : List Int} (h : OwnA w B ad n cap xs) : n ≤ cap ∧ cap ≤ 9223372036854775807 := by
  rcases h with ⟨h1, h2, h3, h4⟩ | ⟨g, h1, h2, hl, cur, hg, r1, r2, r3⟩
  · omega
  · unfold maxLen at r2; omega

theorem pic_call8 (ac : Option Addr) (nc capc : Nat) (bs : List Int) (w : World) (hl : bs.length = nc) (hr : RdU w.heap.size w ac bs) (hn : nc ≤ 4611686018427387904) :
    Calls Try.prog 19 #[.slice ac nc capc, .int .i64 8] w fun e w' =>
      ∃ (W H : Int) (a : Option Addr) (n c : Nat) (xs : List Int), e = .returned (.agg #[.int .i64 W, .int .i64 H, .slice a n c]) ∧ 1 ≤ W ∧ W ≤ 8 ∧ 1 ≤ H ∧ H ≤ 8 ∧ (n : Int) = W * H ∧ 1 ≤ n ∧ n ≤ 64 ∧ xs.length = n ∧ Rd w' a xs ∧ picOk W H xs 255 = true ∧ within xs 255 = true ∧ Below w.heap.size w w' := by
  refine (spec_MakePicture ac nc capc bs 8 w hl hr hn (by omega) (by omega)).mono ?_
  rintro e w' ⟨W, H, g, n, xs, rfl, b1, b2, b3, b4, hq, hg, ho, hw, hb⟩
  have e1 : W * H ≤ 8 * 8 := Int.mul_le_mul (by omega) (by omega) (by omega) (by omega)
  have e2 : 1 * 1 ≤ W * H := Int.mul_le_mul b1 b3 (by omega) (by omega)
  have hs : sizeOk W H = true := by
    unfold sizeOk
    rw [decide_eq_true_iff]
    omega
  exact ⟨W, H, _, n, n, xs, rfl, b1, b2, b3, b4, hq, by omega, by omega, ho.len, ho.rd, picOk_mk hs ho.len hq hw, hw, hb⟩

theorem tile_ok {W H tw th : Int} {n N : Nat} {xs : List Int} (hl : xs.length = n) (hp : picOk W H xs 255 = true) (hs : sizeOk tw th = true) (hN : (N : Int) = tw * th) : picOk tw th (tileL W H tw N xs) 255 = true := by
  obtain ⟨hs2, hn, hw⟩ := picOk_bd hl hp
  obtain ⟨b1, b2, b3, b4, b5, b6⟩ := sizeOk_bd hs2
  refine picOk_mk hs (gen_len _ _) hN (within_gen (fun i hi => ?_))
  obtain ⟨m0, m1⟩ := mod_bd ((i : Int) % tw) b1
  obtain ⟨m2, m3⟩ := mod_bd ((i : Int) / tw) b3
  obtain ⟨r0, r1⟩ := row_bd m0 m1 m2 m3
  exact within_getD hw _ (by omega)

end Go.Proofs.Ytgepjfdnlnemjaa
