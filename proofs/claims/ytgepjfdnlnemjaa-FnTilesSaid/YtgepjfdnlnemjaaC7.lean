/-
  Contracts of copyPicture, slices.Reverse, MirrorPicture (program), CropPicture (program and model).
-/
import Derived.Test.YtgepjfdnlnemjaaC5
import Derived.Laws.CopyOwn
import Derived.BigRegion
namespace Go.Proofs.Ytgepjfdnlnemjaa
open Go.RowKit
set_option linter.unusedVariables false
set_option linter.unusedSimpArgs false

theorem infoInt1 : (Try.prog.info? 3).map (·.size) = some 1 := by kernel_rfl

/-- 'copy(dst, src)', dst a row of the call's own. -/
theorem wp_copy (w : World) {ops : Array Oper} {rest : List Oper} {o : Oper} {a : Act} {Q : Exit → Act → World → Prop}
    (hgd : o.guard = none) (d s : Operand) (hop : o.op = .call { callee := .builtin .copy, args := #[d, s], argTypes := #[23, 23] })
    (g n cap off dLen dCap : Nat) (ad : Addr) (sLen sCap : Nat) (ys zs : List Int) (hd : a.eval d = .slice (some ⟨g, off, none⟩) dLen dCap) (hs : a.eval s = .slice (some ad) sLen sCap)
    (ho : Own w g n cap ys) (hz : zs.length = Nat.min sLen dLen) (hsrc : ∀ j, j < zs.length → w.cell? (ad.add j) = some (.int .i64 (zs.getD j 0))) (hfit : off + zs.length ≤ n)
    (hK : ∀ w', Own w' g n cap (splice ys off zs) → w.grownBy w' (some g) → wpList Try.prog ops Q rest (a.put o.dst (goInt zs.length)) w') :
    wpList Try.prog ops Q (o :: rest) a w := by
  obtain ⟨hl, cur, hg, h1, h2, h3, ht⟩ := ho
  have hlc : cur.toList.length = cap := by simp [h3]
  refine wpList_copy_own hgd d s 23 23 hop 3 Try.underlying23 infoInt1 g off dLen dCap ad sLen sCap hd hs cur 3 hg (zs.map (Value.int .i64)) (by simpa using hz) ?_ (by simp; omega) (ints_oneCell _ _) ?_
  · intro j v hv
    have hj : j < zs.length := by have := (List.getElem?_eq_some_iff.1 hv).1; simpa using this
    rw [hsrc j hj, ← hv]
    simp [List.getD, hj]
  · rw [List.length_map]
    refine hK _ ⟨?_, _, setRow_heap w g _ _ _ _ hg, h1, h2, ?_, ?_⟩ ⟨rfl, rfl, rfl, by simp [World.setRow], fun k hk hne => setRow_other w g k _ (fun e => hne (by rw [e]))⟩
    · rw [length_splice _ _ _ (by omega)]; exact hl
    · simp; omega
    · simp only [List.length_map]
      have e1 : cur.toList.take off = (ys.take off).map (Value.int .i64) := by
        rw [List.map_take, ← ht, List.take_take, Nat.min_eq_left (by omega)]
      have e2 : (cur.toList.drop (off + zs.length)).take (n - (off + zs.length)) = (ys.drop (off + zs.length)).map (Value.int .i64) := by
        rw [List.map_drop, ← ht, List.drop_take]
      simp only [splice, List.map_append, ← e1, ← e2]
      rw [List.take_append, List.take_of_length_le (by simp; omega), List.take_append, List.take_of_length_le (l := List.map _ zs) (by simp; omega)]
      congr 2
      simp only [List.length_take, List.length_map]
      congr 1; omega

theorem splice_all (ys zs : List Int) (h : zs.length = ys.length) : splice ys 0 zs = zs := by
  simp [splice, List.drop_of_length_le (show ys.length ≤ zs.length by omega)]

/-- ys, its m places from off on reversed in the first and last k of them. -/
def revK (ys : List Int) (off m k : Nat) : List Int :=
  gen ys.length (fun p => if off ≤ p ∧ p < off + m ∧ (p < off + k ∨ off + m < p + 1 + k) then ys.getD (2 * off + m - 1 - p) 0 else ys.getD p 0)

theorem revK_len (ys : List Int) (off m k : Nat) : (revK ys off m k).length = ys.length := gen_len _ _

theorem revK_zero (ys : List Int) (off m : Nat) : revK ys off m 0 = ys := by
  symm
  refine gen_ext _ _ _ rfl (fun p hp => ?_)
  rw [if_neg (by omega)]

theorem revK_get (ys : List Int) (off m k p : Nat) (hp : p < ys.length) : (revK ys off m k).getD p 0 = if off ≤ p ∧ p < off + m ∧ (p < off + k ∨ off + m < p + 1 + k) then ys.getD (2 * off + m - 1 - p) 0 else ys.getD p 0 := gen_get _ _ _ hp

theorem revK_step (ys : List Int) (off m k j : Nat) (h1 : off + m ≤ ys.length) (h2 : k + j + 1 = m) (h3 : k < j) :
    ((revK ys off m k).set (off + k) ((revK ys off m k).getD (off + j) 0)).set (off + j) ((revK ys off m k).getD (off + k) 0) = revK ys off m (k + 1) := by
  refine gen_ext _ _ _ (by simp [revK_len]) (fun p hp => ?_)
  rw [getD_set _ _ _ _ (by simp [revK_len]; omega), getD_set _ _ _ _ (by rw [revK_len]; omega), revK_get _ _ _ _ (off + k) (by omega), revK_get _ _ _ _ (off + j) (by omega), revK_get _ _ _ _ p hp]
  by_cases e1 : off + j = p
  · subst e1
    rw [if_pos rfl, if_neg (by omega), if_pos (by omega)]
    congr 1; omega
  · rw [if_neg e1]
    by_cases e2 : off + k = p
    · subst e2
      rw [if_pos rfl, if_neg (by omega), if_pos (by omega)]
      congr 1; omega
    · rw [if_neg e2]
      by_cases c : off ≤ p ∧ p < off + m ∧ (p < off + k ∨ off + m < p + 1 + k)
      · rw [if_pos c, if_pos (by omega)]
      · rw [if_neg c, if_neg (by omega)]

end Go.Proofs.Ytgepjfdnlnemjaa
