/-
  Contracts of chapter 5: the shares of an error, of the program and of the model.
-/
import Derived.Test.YtbopeibommnjgaaK4
import Derived.Test.YtbopeibommnjgaaD3
namespace Go.Proofs.Ytbopeibommnjgaa
open Go.RowKit
set_option linter.unusedVariables false
set_option linter.unusedSimpArgs false

theorem neg_down {a n : Int} (hn : 1 ≤ n) : -((-a + n - 1) / n) = a / n := by
  have h1 := Int.emod_add_mul_ediv a n
  have h2 := Int.emod_nonneg a (show n ≠ 0 by omega)
  have h3 := Int.emod_lt_of_pos a (show 0 < n by omega)
  have e : -a + n - 1 = (n - 1 - a % n) + n * (-(a / n)) := by rw [Int.mul_neg]; omega
  rw [e, Int.add_mul_ediv_left _ _ (by omega), Int.ediv_eq_zero_of_lt (by omega) (by omega)]
  omega

set_option maxHeartbeats 400000 in
theorem impl_dividedDown (a n : Int) (w : World) (h1 : 1 ≤ n) (h2 : n ≤ 100000) (h3 : -100000000 ≤ a) (h4 : a ≤ 100000000) :
    Calls Try.prog 77 #[.int .i64 a, .int .i64 n] w fun e w' => e = .returned (.int .i64 (a / n)) ∧ w = w' := by
  have z1 : ¬ n = 0 := by omega
  have z2 : (n == 0) = false := by simp; omega
  by_cases ha : a < 0
  · have b1 : 0 ≤ (-a + n - 1) / n := Int.ediv_nonneg (by omega) (by omega)
    have b2 : (-a + n - 1) / n ≤ -a + n - 1 := Int.ediv_le_self _ (by omega)
    go_enter Try.func77, Try.ntmps77
    go_wp2_with fail
    go_ret
    exact ⟨ret_int (neg_down h1), rfl⟩
  · have b1 : 0 ≤ a / n := Int.ediv_nonneg (by omega) (by omega)
    have b2 : a / n ≤ a := Int.ediv_le_self _ (by omega)
    go_enter Try.func77, Try.ntmps77
    go_wp2_with fail
    go_ret
    exact ⟨rfl, rfl⟩

theorem quo_exact {V W : Int} (hW : 1 ≤ W) : (V - V % W).tdiv W = V / W := by
  have h1 := Int.emod_add_mul_ediv V W
  rw [show V - V % W = W * (V / W) by omega]
  exact Int.mul_tdiv_cancel_left _ (by omega)

/-- A list of numbers is handed back. -/
def ListOut (w : World) (xs : List Int) (e : Ending) (w' : World) : Prop :=
  ∃ a n c, e = .returned (.slice a n c) ∧ OwnA w' w.heap.size a n c xs ∧ n ≤ 1048576 ∧ Below w.heap.size w w'

theorem gen_set0 {n : Nat} {f : Nat → Int} {v : Int} {ks : List Prt} {W e : Int} (hn : ks.length = n) (h1 : 1 ≤ n) (hv : v = (gen n (shareB ks W e)).getD 0 0 + (e - shSum ks W e n)) : (gen n (shareB ks W e)).set 0 v = sharesG ks W e := by
  subst hv
  rw [gen_get _ _ _ (by omega)]
  unfold sharesG
  rw [hn]

set_option maxHeartbeats 1600000 in
theorem spec_l4Shares (ad : Option Addr) (n cap : Nat) (ks : List Prt) (W e : Int) (w : World) (hn : ks.length = n) (ha : Rd w ad (flat ks)) (h1 : 1 ≤ n) (h2 : n ≤ 12) (hk : kernTo ks n = true) (hW : W = wtTo ks n) (he1 : -1000000 ≤ e) (he2 : e ≤ 1000000) :
    Calls Try.prog 59 #[.slice ad n cap, .int .i64 W, .int .i64 e] w (ListOut w (sharesG ks (wtTo ks n) e)) := by
  have HN := Lib.hid hn
  have HA := Lib.hid ha
  have HK := Lib.hid hk
  have HWD := Lib.hid hW
  obtain ⟨w1, w2⟩ := wtTo_bd hk n (Nat.le_refl _)
  have hW1 : 1 ≤ W := by omega
  have hW2 : W ≤ 1200 := by omega
  have z1 : ¬ W = 0 := by omega
  have z2 : (W == 0) = false := by simp; omega
  clear hn ha hk hW w1 w2
  go_enter Try.func59, Try.ntmps59
  go_wp2_with fail
  go_loopw [7, 8, 17] (fun o r i wr => ∃ (k : Nat) (ad' : Option Addr) (cap' : Nat), k ≤ n ∧ i = .int .i64 k ∧ o = .slice ad' k cap' ∧ r = .int .i64 (e - shSum ks W e k) ∧ OwnA wr w.heap.size ad' k cap' (gen k (shareB ks W e)) ∧ Below w.heap.size w wr) (fun _ _ i _ => n - (intOf i).toNat)
  case atStart => exact ⟨0, _, _, Nat.zero_le _, rfl, rfl, by simp [shSum], by first | exact OwnA.mk ⟨rfl, _, heap_alloc_new w _, Nat.le_refl _, by unfold maxLen; omega, rfl, rfl⟩ (Nat.le_refl _) | exact OwnA.none _ _, by first | exact Joins.below_alloc1 _ _ | exact Below.refl _ _⟩
  case round =>
    obtain ⟨k, ad', cap', hk, rfl, rfl, rfl, ho, hw⟩ := hrel
    have HO := Lib.hid ho
    have HX := Lib.hid hw
    clear ho
    have sw := shSum_wide (e := e) HK.out he1 he2 k hk
    rw [← HWD.out] at sw
    by_cases hlt : k < n
    · obtain ⟨ba, oa, hae, hal, c0, c1, c2⟩ := rd_part (HA.out.below hw) (k := k) (by have := HN.out; omega)
      subst hae
      obtain ⟨p, hp⟩ : ∃ p, prt ks k = p := ⟨_, rfl⟩
      obtain ⟨q1, q2, q3, q4⟩ := shareB_wide (e := e) HK.out k hlt he1 he2
      have sq := shSum_wide (e := e) HK.out he1 he2 (k + 1) (by omega)
      rw [← HWD.out] at q3 q4 sq
      have HS : Hid (shSum ks W e (k + 1) = shSum ks W e k + shareB ks W e k) := Lib.hid rfl
      have HQ : Hid (shareB ks W e k = e * (prt ks k).wt / W) := Lib.hid rfl
      obtain ⟨Q, hQ⟩ : ∃ Q, shareB ks W e k = Q := ⟨_, rfl⟩
      rw [hp] at c0 c1 c2 q1 q2 HQ
      rw [hQ] at HS HQ q3 q4
      rw [HS.out] at sq
      obtain ⟨X, Y, T⟩ := p
      dsimp only at c0 c1 c2 q1 q2 HQ
      obtain ⟨S, hS⟩ : ∃ S, shSum ks W e k = S := ⟨_, rfl⟩
      rw [hS] at sw sq HS ⊢
      obtain ⟨V, hV⟩ : ∃ V, e * T = V := ⟨_, rfl⟩
      obtain ⟨M, hM⟩ : ∃ M, V % W = M := ⟨_, rfl⟩
      have m1 := Int.emod_nonneg V z1
      have m2 := Int.emod_lt_of_pos V (show 0 < W by omega)
      rw [hV] at q1 q2 HQ
      have hD : (V - M).tdiv W = Q := by rw [← hM, quo_exact hW1]; exact HQ.out.symm
      rw [hM] at m1 m2
      have HQ2 := Lib.hid hQ
      have HS2 := Lib.hid hS
      clear hp hw hQ HQ hS
      go_wp2_with fail
      refine (spec_l2Mod V W _ hW1 (by omega)).mono ?_
      rintro e2 w3 ⟨rfl, rfl⟩
      go_wp2_with (at_builtin; refine wp_append _ rfl (.tmp 32) (.tmp 34) rfl w.heap.size k cap' ad' _ rfl ((HO.out.alloc _).alloc _) (wr.heap.size + 1) Q rfl (by go_simp) (by omega) (by have := HX.out.size; simp; omega) ?_; intro ad2 cap2 w5 ho5 hg5)
      have HX5 := Lib.hid (((HX.out.alloc HX.out.size (.cells #[.int .i64 X, .int .i64 Y, .int .i64 T] 66)).alloc (by have := HX.out.size; simp; omega) (.cells #[.int .i64 Q] 3)).grown hg5 (by have := HX.out.size; simp; omega) (fun b hb1 => by have := HO.out.bd b hb1; omega))
      have HO5 := Lib.hid ho5
      clear ho5 hg5 hV hM hD
      go_roundw
      case rel => exact ⟨k + 1, ad2, cap2, by omega, by go_num, rfl, by rw [HS.out]; go_num, by rw [← gen_snoc, HQ2.out]; exact HO5.out, HX5.out⟩
      case measure => simp [intOf]; omega
    · obtain rfl : k = n := by omega
      obtain ⟨g, hg, hB, hoo⟩ : ∃ g, ad' = some ⟨g, 0, none⟩ ∧ w.heap.size ≤ g ∧ Own wr g k cap' (gen k (shareB ks W e)) := by
        rcases HO.out with ⟨_, h, _, _⟩ | h
        · omega
        · exact h
      subst hg
      obtain ⟨V, hV⟩ : ∃ V, (gen k (shareB ks W e)).getD 0 0 = V := ⟨_, rfl⟩
      have q0 := hoo.cell (j := 0) (by omega)
      have f0 := hoo.frozen 0
      rw [hV] at q0
      have HV := Lib.hid hV
      have q3 := (shareB_wide (e := e) HK.out 0 (by omega) he1 he2).2.2
      rw [← HWD.out] at q3
      rw [gen_get _ _ _ (by omega)] at hV
      rw [hV] at q3
      have HSET := Lib.hid (hoo.set 0 (V + (e - shSum ks W e k)))
      obtain ⟨S, hS⟩ : ∃ S, shSum ks W e k = S := ⟨_, rfl⟩
      have HS := Lib.hid hS
      rw [hS] at sw HSET ⊢
      clear hw hV hoo hS
      go_wp2_with fail
      go_ret
      refine ⟨_, _, _, rfl, OwnA.mk ?_ hB, by omega, HX.out.setCell hB _⟩
      have h := HSET.out
      rw [gen_set0 (f := shareB ks W e) HN.out h1 (by rw [HV.out, HS.out])] at h
      rw [← HWD.out]
      exact h

end Go.Proofs.Ytbopeibommnjgaa
