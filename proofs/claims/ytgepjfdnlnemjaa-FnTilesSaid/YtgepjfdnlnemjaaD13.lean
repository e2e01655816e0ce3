/-
  Contracts of chapter 4: slices.Repeat of one number (program).
-/
import Derived.Test.YtgepjfdnlnemjaaD12
import Derived.Test.YtgepjfdnlnemjaaC7
namespace Go.Proofs.Ytgepjfdnlnemjaa
open Go.RowKit
set_option linter.unusedVariables false
set_option linter.unusedSimpArgs false

theorem u64_and32 (n : Nat) (h : n < 4294967296) : bits .and .u64 (n : Int) 4294967295 = (n : Int) := by
  have h1 : (BitVec.ofInt 64 4294967295).toNat = 2 ^ 32 - 1 := by decide
  have key : (BitVec.ofInt 64 (n : Int) &&& BitVec.ofInt 64 4294967295).toNat = ((n : Int) % ((2 ^ 64 : Nat) : Int)).toNat % 2 ^ 32 := by
    rw [BitVec.toNat_and, BitVec.toNat_ofInt, h1, Nat.and_two_pow_sub_one_eq_mod]
  show IntKind.u64.wrap ((BitVec.ofInt 64 (n : Int) &&& BitVec.ofInt 64 4294967295).toNat : Nat) = (n : Int)
  rw [key]
  have e : (((n : Int) % ((2 ^ 64 : Nat) : Int)).toNat % 2 ^ 32) = n := by omega
  rw [e]
  rw [IntKind.wrap_u64]
  omega

set_option maxHeartbeats 400000 in
theorem mul64_one (c : Nat) (hc : c ≤ 1024) (w : World) : Calls Try.prog 96 #[.int .u64 1, .int .u64 c] w fun e w' => e = .returned (.tuple #[.int .u64 0, .int .u64 c]) ∧ w = w' := by
  have h1 := u64_and32 c (by omega)
  have h2 : IntKind.u64.wrap (c : Int) = c := by rw [IntKind.wrap_u64]; omega
  have h3 : (c : Int) / 4294967296 = 0 := by omega
  have h4 : bits .and .u64 0 4294967295 = 0 := by decide
  have h5 : bits .and .u64 1 4294967295 = 1 := by decide
  have h6 : IntKind.u64.wrap 0 = 0 := by decide
  go_enter Try.func96, Try.ntmps96
  go_wp2_with fail
  exact bodyPost_ret (v := .tuple #[.int .u64 0, .int .u64 c]) (by simp [results, Try.results96, go_sem]) rfl ⟨rfl, rfl⟩

set_option maxHeartbeats 400000 in
theorem mul_one (c : Nat) (hc : c ≤ 1024) (w : World) : Calls Try.prog 86 #[.int .u64 1, .int .u64 c] w fun e w' => e = .returned (.tuple #[.int .u64 0, .int .u64 c]) ∧ w = w' := by
  go_enter Try.func86, Try.ntmps86
  go_wp2_with fail
  refine (mul64_one c hc _).mono ?_
  rintro e w' ⟨rfl, rfl⟩
  go_wp2_with fail
  exact bodyPost_ret (v := .tuple #[.int .u64 0, .int .u64 c]) (by simp [results, Try.results86, go_sem]) rfl ⟨rfl, rfl⟩

set_option maxRecDepth 100000 in
/-- 'copy(dst, src)' at a step of a region that draws, dst a row of the call's own. -/
theorem step_copy (w : World) {ops : Array Oper} {o : Oper} {a : Act} {K : Act → World → Prop} {Q : Exit → Act → World → Prop} {E : Prop}
    (hgd : o.guard = none) (d s : Operand) (hop : o.op = .call { callee := .builtin .copy, args := #[d, s], argTypes := #[23, 23] })
    (g n cap off dLen dCap : Nat) (ad : Addr) (sLen sCap : Nat) (ys zs : List Int) (hd : a.eval d = .slice (some ⟨g, off, none⟩) dLen dCap) (hs : a.eval s = .slice (some ad) sLen sCap)
    (ho : Own w g n cap ys) (hz : zs.length = Nat.min sLen dLen) (hsrc : ∀ j, j < zs.length → w.cell? (ad.add j) = some (.int .i64 (zs.getD j 0))) (hfit : off + zs.length ≤ n)
    (hK : ∀ w', Own w' g n cap (splice ys off zs) → w.grownBy w' (some g) → K (a.put o.dst (goInt zs.length)) w') :
    if Region.wanted o (yielded ops a.tmps) = true then Oper.wp Try.prog o a w K Q else E := by
  have hw : Region.wanted o (yielded ops a.tmps) = true := by simp [Region.wanted, hgd]
  rw [if_pos hw]
  obtain ⟨hl, cur, hg, h1, h2, h3, ht⟩ := ho
  have hlc : cur.toList.length = cap := by simp [h3]
  have hrun := run_copy_row (P := Try.prog) w 23 23 o.type 3 g off dLen dCap ad sLen sCap cur 3 (zs.map (Value.int .i64)) Try.underlying23 infoInt1 hg (by simpa using hz) ?_ (by simp; omega) (ints_oneCell _ _)
  · unfold Oper.wp
    simp [execOp, hop, resolve, invoke, builtin, hd, hs, hrun, Result.andThen]
    refine hK _ ⟨?_, _, setRow_heap w g _ _ _ _ hg, h1, h2, ?_, ?_⟩ ⟨rfl, rfl, rfl, by simp [World.setRow], fun k hk hne => setRow_other w g k _ (fun e => hne (by rw [e]))⟩
    · rw [length_splice _ _ _ (by omega)]; exact hl
    · simp; omega
    · try simp only [List.length_map]
      have e1 : cur.toList.take off = (ys.take off).map (Value.int .i64) := by
        rw [List.map_take, ← ht, List.take_take, Nat.min_eq_left (by omega)]
      have e2 : (cur.toList.drop (off + zs.length)).take (n - (off + zs.length)) = (ys.drop (off + zs.length)).map (Value.int .i64) := by
        rw [List.map_drop, ← ht, List.drop_take]
      simp only [splice, List.map_append, ← e1, ← e2]
      rw [List.take_append, List.take_of_length_le (by simp; omega), List.take_append, List.take_of_length_le (l := List.map _ zs) (by simp; omega)]
      congr 2
      simp only [List.length_take, List.length_map]
      congr 1; omega
  · intro j v hv
    have hj : j < zs.length := by have := (List.getElem?_eq_some_iff.1 hv).1; simpa using this
    rw [hsrc j hj, ← hv]
    simp [List.getD, hj]

/-- A row whose first k numbers are v, the others 0. -/
def some1 (v : Int) (k m : Nat) : List Int := List.replicate k v ++ List.replicate (m - k) 0

theorem some1_len {v : Int} {k m : Nat} (h : k ≤ m) : (some1 v k m).length = m := by simp [some1]; omega

theorem some1_at {v : Int} {k m j : Nat} (h : j < k) : (some1 v k m).getD j 0 = v := by
  simp [some1, List.getD, List.getElem?_append, h]

theorem some1_src {w : World} {g k c : Nat} {v : Int} (ho : Own w g c c (some1 v k c)) (hk : k ≤ c) :
    ∀ j, j < (List.replicate (Nat.min k (c - k)) v).length → w.cell? (Addr.add ⟨g, 0, none⟩ j) = some (.int .i64 ((List.replicate (Nat.min k (c - k)) v).getD j 0)) := by
  intro j hj
  rw [List.length_replicate] at hj
  have h1 : j < k := Nat.lt_of_lt_of_le hj (Nat.min_le_left _ _)
  rw [Addr.add_lit, Nat.zero_add, ho.cell (by omega), some1_at h1]
  simp [List.getD, hj]

theorem some1_step {v : Int} {k c : Nat} (hk : k ≤ c) : splice (some1 v k c) k (List.replicate (Nat.min k (c - k)) v) = some1 v (k + Nat.min k (c - k)) c := by
  have h1 : Nat.min k (c - k) ≤ c - k := Nat.min_le_right _ _
  generalize Nat.min k (c - k) = q at *
  simp only [splice, some1, List.length_replicate]
  rw [List.take_append_of_le_length (by simp), List.take_of_length_le (by simp), List.drop_append, List.drop_of_length_le (by simp), List.nil_append, List.drop_replicate, ← List.append_assoc, List.replicate_append_replicate]
  congr 2
  simp
  omega

theorem grown_undrew {a b : World} {row : Option Nat} (h : a.drew.grownBy b row) : a.grownBy b row := ⟨h.os, h.tape, h.output, h.size, h.block⟩

set_option maxRecDepth 100000 in
set_option maxHeartbeats 800000 in
theorem impl_Repeat (ad : Option Addr) (cap : Nat) (v : Int) (c : Nat) (w : World) (ha : Rd w ad [v]) (h1 : 1 ≤ c) (hc : c ≤ 1024) :
    Calls Try.prog 51 #[.slice ad 1 cap, .int .i64 c] w fun e w' => ∃ g, e = .returned (.slice (some ⟨g, 0, none⟩) c c) ∧ w.heap.size ≤ g ∧ Own w' g c c (List.replicate c v) ∧ Below w.heap.size w w' := by
  obtain ⟨ba, oa, rfl, hal, hac⟩ := ha.at (by simp)
  have h0 := hac 0 (by simp)
  have HA := Lib.hid hac
  clear hac ha
  have h2 : IntKind.u64.wrap (c : Int) = c := by rw [IntKind.wrap_u64]; omega
  have h3 : IntKind.u64.wrap 1 = 1 := by decide
  go_enter Try.func51, Try.ntmps51
  go_wp2_with fail
  refine (mul_one c hc _).mono ?_
  rintro e w' ⟨rfl, rfl⟩
  go_wp2_with (first | (at_make; refine wp_make _ rfl _ _ rfl .i64 .i64 c c c rfl rfl rfl rfl (by omega) ?_; intro M hM; have HM := Lib.hid hM; clear hM) | (with_reducible refine wp_copy _ rfl (.tmp 31) (.tmp 32) rfl w.heap.size c c 0 c c ⟨ba, oa, none⟩ 1 cap (List.replicate c 0) [v] rfl rfl ?_ ?_ ?_ ?_ ?_))
  · exact HM.out.own _
  · show 1 = min 1 c; omega
  · intro j hj
    simp at hj
    subst hj
    rw [Addr.add_lit]
    go_simp
    simpa using h0
  · simp; omega
  intro w1 ho1 hg1
  have e1 : splice (List.replicate c 0) 0 [v] = some1 v 1 c := by
    simp [splice, some1]
    try omega
  rw [e1] at ho1
  have HO1 := Lib.hid ho1
  have HG1 := Lib.hid hg1
  clear ho1 hg1 e1 h0 h2 h3
  go_wp2_with fail
  go_loopw [8] (fun i wr => ∃ k : Nat, 1 ≤ k ∧ k ≤ c ∧ i = .int .i64 k ∧ Own wr w.heap.size c c (some1 v k c) ∧ w1.grownBy wr (some w.heap.size)) (fun i _ => c - (intOf i).toNat)
  case atStart => exact ⟨1, Nat.le_refl _, h1, rfl, HO1.out, grown_refl _ _⟩
  case round =>
    obtain ⟨k, hk1, hk, rfl, ho, hg⟩ := hrel
    by_cases hlt : k < c
    · have HO := Lib.hid ho
      have HG := Lib.hid hg
      clear ho hg
      have f1 : (0 : Int) ≤ (k : Int) := by omega
      have f2 : (k : Int) ≤ (c : Int) := by omega
      have f3 : (c : Int) ≤ (c : Int) := by omega
      have f4 : ¬ c = k := by omega
      go_wp2_with fail
      have hsrc := some1_src (HO.out.drewN 1) hk
      have HS := Lib.hid hsrc
      clear hsrc
      have hj0 : Nat.min k (c - k) ≤ c - k := Nat.min_le_right _ _
      go_region_held3 (fun v => True) (trivial)
        (first
          | (refine step_copy _ (by rfl) (.tmp 41) (.tmp 44) (by rfl) w.heap.size c c k _ _ _ _ _ (some1 v k c) (List.replicate (Nat.min k (c - k)) v) (by rfl) (by rfl) (HO.out.drewN 1) (by simp) (by exact HS.out) (by simp; omega) ?_; intro w5 ho5 hg5))
      rw [some1_step hk] at ho5
      have HO5 := Lib.hid ho5
      have HG5 := Lib.hid (grown_trans HG.out (grown_undrew hg5))
      have hj1 : 1 ≤ Nat.min k (c - k) := by show 1 ≤ min k (c - k); omega
      clear ho5 hg5
      rw [List.length_replicate]
      obtain ⟨q, hq⟩ : ∃ q, q = Nat.min k (c - k) := ⟨_, rfl⟩
      rw [← hq] at HO5 hj0 hj1 ⊢
      clear hq HS
      have HWR : Hid (IntKind.i64.wrap ((k : Int) + (q : Int)) = ((k + q : Nat) : Int)) := Lib.hid (by rw [IntWalk.i64_in _ (by omega)]; omega)
      go_wp2_with fail
      go_roundw
      case rel => exact ⟨k + q, by omega, by omega, by rw [HWR.out], HO5.out, HG5.out⟩
      case measure => (have h := HWR.out; simp [intOf, h]; omega)
    · go_wp2_with fail
      go_ret
      obtain rfl : k = c := by omega
      refine ⟨_, rfl, Nat.le_refl _, ?_, ?_⟩
      · have h := ho
        simpa [some1] using h
      · exact grown_below (grown_trans (grown_trans (World.grownBy_alloc _ _ _) HG1.out) hg) (Nat.le_refl _) (fun b hb => by cases hb; exact Nat.le_refl _)

end Go.Proofs.Ytgepjfdnlnemjaa
