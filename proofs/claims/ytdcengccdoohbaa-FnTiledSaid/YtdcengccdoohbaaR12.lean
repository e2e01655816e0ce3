/-
  Contracts of tiling and cutting at pictures that are valid, as the laws call them.
-/
import Derived.Test.YtdcengccdoohbaaM11
import Derived.Test.YtdcengccdoohbaaR11
import Derived.Test.YtdcengccdoohbaaC6
import Derived.Test.YtdcengccdoohbaaC7c
namespace Go.Proofs.Ytdcengccdoohbaa
open Go.RowKit
set_option linter.unusedVariables false
set_option linter.unusedSimpArgs false

theorem OwnA.cap {w : World} {B n cap : Nat} {ad : Option Addr} {xs : List Int} (h : OwnA w B ad n cap xs) : n ≤ cap ∧ cap ≤ 9223372036854775807 := by
  rcases h with ⟨h1, h2, h3, h4⟩ | ⟨g, h1, h2, hl, cur, hg, r1, r2, r3⟩
  · omega
  · unfold maxLen at r2; omega

theorem tile_call (W H : Int) (a : Option Addr) (n cp : Nat) (xs : List Int) (tw th : Int) (N : Nat) (w : World) (hl : xs.length = n) (ha : Rd w a xs) (hp : picOk W H xs 255 = true) (hn : n ≤ 9223372036854775807) (hs : sizeOk tw th = true) (hN : (N : Int) = tw * th) :
    Calls Try.prog 16 #[.agg #[.int .i64 W, .int .i64 H, .slice a n cp], .int .i64 tw, .int .i64 th] w fun e w' =>
      ∃ a' c', e = .returned (.tuple #[.agg #[.int .i64 tw, .int .i64 th, .slice a' N c'], .bool true]) ∧ OwnA w' w.heap.size a' N c' (tileL W H tw N xs) ∧ N ≤ c' ∧ c' ≤ 9223372036854775807 ∧ Below w.heap.size w w' := by
  refine (impl_TilePicture W H a n cp xs tw th w hl ha hn).mono ?_
  rintro e w' ⟨a', n', c', he, ho, hn', hb⟩
  have eN : (tw * th).toNat = N := by omega
  unfold tileF at he ho
  rw [if_pos ⟨hp, hs⟩, eN] at he ho
  have hm : n' = N := by have := ho.len; rw [gen_len] at this; exact this.symm
  subst hm
  exact ⟨a', c', he, ho, ho.cap.1, ho.cap.2, hb⟩

theorem crop_call (W H : Int) (a : Option Addr) (n cp : Nat) (xs : List Int) (x y cw ch : Int) (m : Nat) (ys : List Int) (w : World) (hl : xs.length = n) (ha : Rd w a xs) (hp : picOk W H xs 255 = true) (hc : n ≤ cp) (hc2 : cp ≤ 9223372036854775807)
    (h1 : 1 ≤ cw) (h2 : 0 ≤ x) (h3 : x ≤ W - cw) (h4 : 1 ≤ ch) (h5 : 0 ≤ y) (h6 : y ≤ H - ch) (h7 : cw ≤ 9223372036854775807) (h8 : ch ≤ 9223372036854775807) (hm : (m : Int) = cw * ch) (hy : gen m (fun i => xs.getD ((y + (i : Int) / cw) * W + x + (i : Int) % cw).toNat 0) = ys) :
    Calls Try.prog 19 #[.agg #[.int .i64 W, .int .i64 H, .slice a n cp], .int .i64 x, .int .i64 y, .int .i64 cw, .int .i64 ch] w fun e w' =>
      ∃ a' c', e = .returned (.tuple #[.agg #[.int .i64 cw, .int .i64 ch, .slice a' m c'], .bool true]) ∧ OwnA w' w.heap.size a' m c' ys ∧ Below w.heap.size w w' := by
  subst hy
  refine (impl_CropPicture W H a n cp xs x y cw ch w hl ha (by omega) hc hc2 h7 h8).mono ?_
  rintro e w' ⟨a', n', c', he, ho, hn', hb⟩
  have eN : (cw * ch).toNat = m := by omega
  unfold cropF at he ho
  rw [if_pos ⟨hp, h1, h2, h3, h4, h5, h6⟩, eN] at he ho
  have hm : n' = m := by have := ho.len; rw [gen_len] at this; exact this.symm
  subst hm
  exact ⟨a', c', he, ho, hb⟩

theorem crop_no (W H : Int) (a : Option Addr) (n cp : Nat) (xs : List Int) (x y cw ch : Int) (w : World) (hl : xs.length = n) (ha : Rd w a xs) (hc : n ≤ cp) (hc2 : cp ≤ 9223372036854775807)
    (h3 : ¬ x ≤ W - cw) (h7 : cw ≤ 9223372036854775807) (h8 : ch ≤ 9223372036854775807) :
    Calls Try.prog 19 #[.agg #[.int .i64 W, .int .i64 H, .slice a n cp], .int .i64 x, .int .i64 y, .int .i64 cw, .int .i64 ch] w fun e w' =>
      ∃ a' n' c', e = .returned (.tuple #[.agg #[.int .i64 0, .int .i64 0, .slice a' n' c'], .bool false]) ∧ Below w.heap.size w w' := by
  refine (impl_CropPicture W H a n cp xs x y cw ch w hl ha (by omega) hc hc2 h7 h8).mono ?_
  rintro e w' ⟨a', n', c', he, ho, hn', hb⟩
  unfold cropF at he ho
  rw [if_neg (fun h => h3 h.2.2.2.1)] at he ho
  exact ⟨a', n', c', he, hb⟩

theorem pic_call8 (ac : Option Addr) (nc capc : Nat) (bs : List Int) (w : World) (hl : bs.length = nc) (hr : RdU w.heap.size w ac bs) (hn : nc ≤ 4611686018427387904) :
    Calls Try.prog 14 #[.slice ac nc capc, .int .i64 8] w fun e w' =>
      ∃ (W H : Int) (a : Option Addr) (n c : Nat) (xs : List Int), e = .returned (.agg #[.int .i64 W, .int .i64 H, .slice a n c]) ∧ 1 ≤ W ∧ W ≤ 8 ∧ 1 ≤ H ∧ H ≤ 8 ∧ (n : Int) = W * H ∧ 1 ≤ n ∧ n ≤ 64 ∧ xs.length = n ∧ Rd w' a xs ∧ picOk W H xs 255 = true ∧ within xs 255 = true ∧ Below w.heap.size w w' := by
  refine (spec_MakePicture ac nc capc bs 8 w hl hr hn (by omega) (by omega)).mono ?_
  rintro e w' ⟨W, H, g, n, xs, rfl, b1, b2, b3, b4, hq, hg, ho, hw, hb⟩
  have e1 : W * H ≤ 8 * 8 := Int.mul_le_mul (by omega) (by omega) (by omega) (by omega)
  have e2 : 1 * 1 ≤ W * H := Int.mul_le_mul b1 b3 (by omega) (by omega)
  have hs : sizeOk W H = true := by
    unfold sizeOk
    rw [decide_eq_true_iff]
    omega
  exact ⟨W, H, _, n, n, xs, rfl, b1, b2, b3, b4, hq, by omega, by omega, ho.len, ho.rd, picOk_mk hs ho.len hq hw, hw, hb⟩

theorem tile_ok {W H tw th : Int} {n N : Nat} {xs : List Int} (hl : xs.length = n) (hp : picOk W H xs 255 = true) (hs : sizeOk tw th = true) (hN : (N : Int) = tw * th) : picOk tw th (tileL W H tw N xs) 255 = true := by
  obtain ⟨hs2, hn, hw⟩ := picOk_bd hl hp
  obtain ⟨b1, b2, b3, b4, b5, b6⟩ := sizeOk_bd hs2
  refine picOk_mk hs (gen_len _ _) hN (within_gen (fun i hi => ?_))
  obtain ⟨m0, m1⟩ := mod_bd ((i : Int) % tw) b1
  obtain ⟨m2, m3⟩ := mod_bd ((i : Int) / tw) b3
  obtain ⟨r0, r1⟩ := row_bd m0 m1 m2 m3
  exact within_getD hw _ (by omega)

end Go.Proofs.Ytdcengccdoohbaa
