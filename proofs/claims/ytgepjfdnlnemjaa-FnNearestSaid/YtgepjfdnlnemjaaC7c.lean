/-
  Contracts of CropPicture (program and model).
-/
import Derived.Test.YtgepjfdnlnemjaaC7
import Derived.StillTailTactics
namespace Go.Proofs.Ytgepjfdnlnemjaa
open Go.RowKit
set_option linter.unusedVariables false
set_option linter.unusedSimpArgs false

def cropG (W : Int) (xs : List Int) (x y cw : Int) (i : Nat) : Int := xs.getD ((y + (i : Int) / cw) * W + x + (i : Int) % cw).toNat 0
def cropOk (W H : Int) (xs : List Int) (x y cw ch : Int) : Prop := picOk W H xs 255 = true ∧ 1 ≤ cw ∧ 0 ≤ x ∧ x ≤ W - cw ∧ 1 ≤ ch ∧ 0 ≤ y ∧ y ≤ H - ch
theorem cropF_no {W H : Int} {xs : List Int} {x y cw ch : Int} (h : ¬ cropOk W H xs x y cw ch) : cropF W H xs x y cw ch = (noPic, false) := by unfold cropF; exact if_neg h
theorem cropF_yes {W H : Int} {xs : List Int} {x y cw ch : Int} {m : Nat} (h : cropOk W H xs x y cw ch) (hm : (m : Int) = cw * ch) : cropF W H xs x y cw ch = (⟨cw, ch, gen m (cropG W xs x y cw)⟩, true) := by
  unfold cropF; refine (if_pos h).trans ?_; rw [← hm]; rfl
theorem crop_size {W H : Int} {cw ch : Int} (hs : sizeOk W H = true) (h1 : 1 ≤ cw) (h2 : cw ≤ W) (h3 : 1 ≤ ch) (h4 : ch ≤ H) : sizeOk cw ch = true := by
  obtain ⟨b1, b2, b3, b4, b5, b6⟩ := sizeOk_bd hs
  unfold sizeOk
  rw [decide_eq_true_iff]
  refine ⟨h1, by omega, h3, by omega, ?_⟩
  have := Int.mul_le_mul h2 h4 (by omega) (by omega)
  omega
theorem crop_bd {W H x y cw ch i : Int} {n : Nat} (hn : (n : Int) = W * H) (h1 : 1 ≤ cw) (hx : 0 ≤ x) (hx2 : x ≤ W - cw) (hy : 0 ≤ y) (hy2 : y ≤ H - ch) (i0 : 0 ≤ i) (i1 : i < cw * ch) :
    0 ≤ i % cw ∧ i % cw < cw ∧ 0 ≤ i / cw ∧ i / cw < ch ∧ 0 ≤ (y + i / cw) * W ∧ (y + i / cw) * W + x + i % cw < n := by
  obtain ⟨a, b, a0, a1, b0, b1, e, ea, eb⟩ := split_dm (W := cw) (H := ch) h1 i0 i1
  rw [ea, eb]
  obtain ⟨r1, r2⟩ := row_bd (x := x + a) (y := y + b) (W := W) (H := H) (by omega) (by omega) (by omega) (by omega)
  omega

theorem splice_get (L cs : List Int) (off p : Nat) (h : off + cs.length ≤ L.length) : (splice L off cs).getD p 0 = if off ≤ p ∧ p < off + cs.length then cs.getD (p - off) 0 else L.getD p 0 := by
  have hl : (L.take off).length = off := by simp; omega
  simp only [splice, List.getD]
  by_cases a : p < off
  · rw [if_neg (by omega), List.getElem?_append_left (by omega), List.getElem?_take, if_pos a]
  · rw [List.getElem?_append_right (by omega), hl]
    by_cases b : p < off + cs.length
    · rw [if_pos ⟨by omega, b⟩, List.getElem?_append_left (by omega)]
    · rw [if_neg (by omega), List.getElem?_append_right (by omega), List.getElem?_drop]
      congr 2
      omega

/-- The first s numbers of the part are there. -/
def cropK (W : Int) (xs : List Int) (x y cw : Int) (m s : Nat) : List Int := gen m (fun p => if p < s then cropG W xs x y cw p else 0)
theorem takedrop_get (xs : List Int) (a b j : Nat) (h : j < b) : ((xs.drop a).take b).getD j 0 = xs.getD (a + j) 0 := by
  simp [List.getD, List.getElem?_take, h]

theorem cropK_zero (W : Int) (xs : List Int) (x y cw : Int) (m : Nat) : cropK W xs x y cw m 0 = List.replicate m 0 := gen_zero _ _ (fun k => by simp)
theorem cropK_all (W : Int) (xs : List Int) (x y cw : Int) (m : Nat) : cropK W xs x y cw m m = gen m (cropG W xs x y cw) := by
  refine gen_ext _ _ _ (gen_len _ _) (fun p hp => ?_)
  unfold cropK
  rw [gen_get _ _ _ hp, if_pos hp]
theorem cropK_step (W : Int) (xs zs : List Int) (x y cw : Int) (m s r st w : Nat) (hw : (w : Int) = cw) (hw1 : 1 ≤ w) (hs : s = r * w) (hst : (st : Int) = (y + r) * W + x) (hz : zs.length = w) (hzg : ∀ j, j < w → zs.getD j 0 = xs.getD (st + j) 0) (hm : s + w ≤ m) :
    splice (cropK W xs x y cw m s) s zs = cropK W xs x y cw m (s + w) := by
  have hl : (cropK W xs x y cw m s).length = m := gen_len _ _
  refine gen_ext _ _ _ (by rw [length_splice _ _ _ (by omega), hl]) (fun p hp => ?_)
  rw [splice_get _ _ _ _ (by omega)]
  by_cases c : s ≤ p ∧ p < s + zs.length
  · rw [if_pos c, hzg _ (by omega), if_pos (by omega)]
    have e : (p : Int) = (r : Int) * cw + ((p - s : Nat) : Int) := by rw [← hw, ← Int.natCast_mul, ← hs]; omega
    obtain ⟨j1, j2⟩ := join_dm (q := (r : Int)) (r := ((p - s : Nat) : Int)) (m := cw) (by omega) (by omega)
    unfold cropG
    rw [e, j1, j2, ← hst]
    congr 1
  · rw [if_neg c]
    unfold cropK
    rw [gen_get _ _ _ hp]
    by_cases d : p < s
    · rw [if_pos d, if_pos (by omega)]
    · rw [if_neg d, if_neg (by omega)]

end Go.Proofs.Ytgepjfdnlnemjaa
