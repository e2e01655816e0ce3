/-
  Contracts of copyPicture, slices.Reverse, MirrorPicture (program), CropPicture (program and model).
-/
import Derived.Test.YtnhjdmdnicnmmaaC5
import Derived.Laws.CopyOwn
import Derived.BigRegion
namespace Go.Proofs.Ytnhjdmdnicnmmaa
open Go.RowKit
set_option linter.unusedVariables false
set_option linter.unusedSimpArgs false

theorem infoInt1 : (Try.prog.info? 3).map (·.size) = some 1 := by kernel_rfl

/-- 'copy(dst, src)', dst a row of the call's own. -/
theorem wp_copy (w : World) {ops : Array Oper} {rest : List Oper} {o : Oper} {a : Act} {Q : Exit → Act → World → Prop}
    (hgd : o.guard = none) (d s : Operand) (hop : o.op = .call { callee := .builtin .copy, args := #[d, s], argTypes := #[23, 23] })
    (g n cap off dLen dCap : Nat) (ad : Addr) (sLen sCap : Nat) (ys zs : List Int) (hd : a.eval d = .slice (some ⟨g, off, none⟩) dLen dCap) (hs : a.eval s = .slice (some ad) sLen sCap)
    (ho : Own w g n cap ys) (hz : zs.length = Nat.min sLen dLen) (hsrc : ∀ j, j < zs.length → w.cell? (ad.add j) = some (.int .i64 (zs.getD j 0))) (hfit : off + zs.length ≤ n)
    (hK : ∀ w', Own w' g n cap (splice ys off zs) → w.grownBy w' (some g) → wpList Try.prog ops Q rest (a.put o.dst (goInt zs.length)) w') :
    wpList Try.prog ops Q (o :: rest) a w := by
  obtain ⟨hl, cur, hg, h1, h2, h3, ht⟩ := ho
  have hlc : cur.toList.length = cap := by simp [h3]
  refine wpList_copy_own hgd d s 23 23 hop 3 Try.underlying23 infoInt1 g off dLen dCap ad sLen sCap hd hs cur 3 hg (zs.map (Value.int .i64)) (by simpa using hz) ?_ (by simp; omega) (ints_oneCell _ _) ?_
  · intro j v hv
    have hj : j < zs.length := by have := (List.getElem?_eq_some_iff.1 hv).1; simpa using this
    rw [hsrc j hj, ← hv]
    simp [List.getD, hj]
  · rw [List.length_map]
    refine hK _ ⟨?_, _, setRow_heap w g _ _ _ _ hg, h1, h2, ?_, ?_⟩ ⟨rfl, rfl, rfl, by simp [World.setRow], fun k hk hne => setRow_other w g k _ (fun e => hne (by rw [e]))⟩
    · rw [length_splice _ _ _ (by omega)]; exact hl
    · simp; omega
    · simp only [List.length_map]
      have e1 : cur.toList.take off = (ys.take off).map (Value.int .i64) := by
        rw [List.map_take, ← ht, List.take_take, Nat.min_eq_left (by omega)]
      have e2 : (cur.toList.drop (off + zs.length)).take (n - (off + zs.length)) = (ys.drop (off + zs.length)).map (Value.int .i64) := by
        rw [List.map_drop, ← ht, List.drop_take]
      simp only [splice, List.map_append, ← e1, ← e2]
      rw [List.take_append, List.take_of_length_le (by simp; omega), List.take_append, List.take_of_length_le (l := List.map _ zs) (by simp; omega)]
      congr 2
      simp only [List.length_take, List.length_map]
      congr 1; omega

theorem splice_all (ys zs : List Int) (h : zs.length = ys.length) : splice ys 0 zs = zs := by
  simp [splice, List.drop_of_length_le (show ys.length ≤ zs.length by omega)]

set_option maxHeartbeats 400000 in
theorem impl_copyPicture (W H : Int) (ad : Option Addr) (n cap : Nat) (xs : List Int) (w : World) (hn : xs.length = n) (ha : Rd w ad xs) (hs : sizeOk W H = true) (hq : (n : Int) = W * H) :
    Calls Try.prog 54 #[.agg #[.int .i64 W, .int .i64 H, .slice ad n cap]] w fun e w' => ∃ g, e = .returned (.agg #[.int .i64 W, .int .i64 H, .slice (some ⟨g, 0, none⟩) n n]) ∧ w.heap.size ≤ g ∧ Own w' g n n xs ∧ Below w.heap.size w w' := by
  have HN := Lib.hid hn
  have HA := Lib.hid ha
  clear hn ha
  obtain ⟨b1, b2, b3, b4, b5, b6⟩ := sizeOk_bd hs
  have HQ := Lib.hid hq
  have HS := Lib.hid hs
  have hn1 : 1 ≤ n := by omega
  have hn2 : n ≤ 1024 := by omega
  clear hq hs
  go_enter Try.func54, Try.ntmps54
  go_wp2_with fail
  refine (impl_blank W H n _ HS.out HQ.out).mono ?_
  rintro e w2 ⟨g, rfl, hg, ho, hb⟩
  have HB2 := Lib.hid ((Joins.below_alloc2 _ _ _).trans (hb.mono (by simp; omega)))
  have KP2 := Lib.hid (((Blk.new w 25 #[.int .i64 W, .int .i64 H, .slice ad n cap]).alloc _).below' hb)
  have KR2 : Hid (Blk w2 (w.heap.size + 1) 25 #[.int .i64 0, .int .i64 0, .slice none 0 0]) := by
    have h := (Blk.new (w.alloc (.cells #[.int .i64 W, .int .i64 H, .slice ad n cap] 25)) 25 #[.int .i64 0, .int .i64 0, .slice none 0 0]).below' hb
    exact Lib.hid (by simpa using h)
  have HO := Lib.hid ho
  have HG : Hid (w.heap.size + 1 + 1 ≤ g) := Lib.hid (by simpa using hg)
  clear hb ho hg
  obtain ⟨l2, c0, c1, c2⟩ := KP2.out.c3
  obtain ⟨ba, oa, hae, hal, hac⟩ := (HA.out.below HB2.out).at (by have := HN.out; omega)
  have HAC := Lib.hid hac
  subst hae
  clear hac
  go_wp2_with (with_reducible refine wp_copy _ rfl (.tmp 10) (.tmp 12) rfl g n n 0 n n ⟨ba, oa, none⟩ n cap (List.replicate n 0) xs rfl rfl ?_ ?_ ?_ ?_ ?_)
  · exact HO.out.alloc _
  · have := HN.out; simp [this]
  · intro j hj
    have := HAC.out j hj
    rw [Addr.add_lit]
    go_simp
  · have := HN.out; omega
  · intro w3 ho3 hg3
    rw [splice_all _ _ (by simp [HN.out])] at ho3
    have HO3 := Lib.hid ho3
    have HB3 := Lib.hid ((bAlloc HB2.out _).grown hg3 (bAlloc HB2.out _).size (by intro k hk; cases hk; have := HG.out; omega))
    have KR3 := Lib.hid ((KR2.out.alloc _).grown hg3 (by have := HG.out; simp; omega))
    have KO3 := Lib.hid ((Blk.new w2 25 #[.int .i64 W, .int .i64 H, .slice (some ⟨g, 0, none⟩) n n]).grown hg3 (by have := HO.out.lt; simp; omega))
    obtain ⟨k0, k1, k2, k3⟩ := KO3.out.c3
    obtain ⟨r0, r1, r2, r3⟩ := KR3.out.c3
    obtain ⟨q0, q1, q2⟩ := KR3.out.f3
    clear ho3 hg3 c0 c1 c2
    go_wp2_with fail
    exact bodyPost_ret (v := .agg #[.int .i64 W, .int .i64 H, .slice (some ⟨g, 0, none⟩) n n]) (by simp [results, Try.results54, go_sem, r1, r2, r3]) rfl
      ⟨_, rfl, by have := HG.out; omega, (((HO3.out.other (by have := HG.out; simp; omega) _).other (by have := HG.out; simp; omega) _).other (by have := HG.out; simp; omega) _),
        ((HB3.out.setCell (by simp) _).setCell (by simp) _).setCell (by simp) _⟩

/-- ys, its m places from off on reversed in the first and last k of them. -/
def revK (ys : List Int) (off m k : Nat) : List Int :=
  gen ys.length (fun p => if off ≤ p ∧ p < off + m ∧ (p < off + k ∨ off + m < p + 1 + k) then ys.getD (2 * off + m - 1 - p) 0 else ys.getD p 0)

theorem revK_len (ys : List Int) (off m k : Nat) : (revK ys off m k).length = ys.length := gen_len _ _

theorem revK_zero (ys : List Int) (off m : Nat) : revK ys off m 0 = ys := by
  symm
  refine gen_ext _ _ _ rfl (fun p hp => ?_)
  rw [if_neg (by omega)]

theorem revK_get (ys : List Int) (off m k p : Nat) (hp : p < ys.length) : (revK ys off m k).getD p 0 = if off ≤ p ∧ p < off + m ∧ (p < off + k ∨ off + m < p + 1 + k) then ys.getD (2 * off + m - 1 - p) 0 else ys.getD p 0 := gen_get _ _ _ hp

theorem revK_step (ys : List Int) (off m k j : Nat) (h1 : off + m ≤ ys.length) (h2 : k + j + 1 = m) (h3 : k < j) :
    ((revK ys off m k).set (off + k) ((revK ys off m k).getD (off + j) 0)).set (off + j) ((revK ys off m k).getD (off + k) 0) = revK ys off m (k + 1) := by
  refine gen_ext _ _ _ (by simp [revK_len]) (fun p hp => ?_)
  rw [getD_set _ _ _ _ (by simp [revK_len]; omega), getD_set _ _ _ _ (by rw [revK_len]; omega), revK_get _ _ _ _ (off + k) (by omega), revK_get _ _ _ _ (off + j) (by omega), revK_get _ _ _ _ p hp]
  by_cases e1 : off + j = p
  · subst e1
    rw [if_pos rfl, if_neg (by omega), if_pos (by omega)]
    congr 1; omega
  · rw [if_neg e1]
    by_cases e2 : off + k = p
    · subst e2
      rw [if_pos rfl, if_neg (by omega), if_pos (by omega)]
      congr 1; omega
    · rw [if_neg e2]
      by_cases c : off ≤ p ∧ p < off + m ∧ (p < off + k ∨ off + m < p + 1 + k)
      · rw [if_pos c, if_pos (by omega)]
      · rw [if_neg c, if_neg (by omega)]

end Go.Proofs.Ytnhjdmdnicnmmaa
