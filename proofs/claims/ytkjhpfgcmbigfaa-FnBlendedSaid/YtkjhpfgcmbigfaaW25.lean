/-
  Chapter 8: the blend of two plates whose colors are sums, as FnBlended calls for it.
-/
import Derived.Test.YtkjhpfgcmbigfaaW23a
import Derived.Test.YtkjhpfgcmbigfaaU1b
import Derived.Test.YtkjhpfgcmbigfaaW19
import Derived.Test.YtkjhpfgcmbigfaaCut
namespace Go.Proofs.Ytkjhpfgcmbigfaa
open Go.RowKit
set_option linter.unusedVariables false
set_option linter.unusedSimpArgs false

theorem sum_small {xs : List Int} {n : Nat} (hl : xs.length = n) (h : within xs 1 = true) : 0 ≤ isum xs ∧ isum xs ≤ (n : Int) := by
  have hb : ∀ k, k < n → 0 ≤ xs.getD k 0 ∧ xs.getD k 0 ≤ 1 := fun k hk => within_at h k (by omega)
  rw [isum_list hl]
  refine ⟨sumJ_nn (fun i hi => (hb i hi).1), ?_⟩
  have h2 := sumJ_le (f := fun i => xs.getD i 0) (g := fun _ => 1) (n := n) (fun i hi => (hb i hi).2)
  rw [sumJ_const] at h2
  omega

def two (W H : Int) (a a' : Option Addr) (n c c' : Nat) (xs ys : List Int) : List PV := [⟨W, H, a, n, c, xs⟩, ⟨W, H, a', n, c', ys⟩]

theorem two_ok {W H : Int} {a a' : Option Addr} {n c c' : Nat} {xs ys : List Int} (hp : picOk W H xs 1 = true) (hq : picOk W H ys 1 = true) : stackOk (picsV (two W H a a' n c c' xs ys)) = true := by
  refine stack_mk (by simp [two, picsV]) (by simp [two, picsV]) (fun k hk => ?_)
  have hk2 : k < 2 := by simpa [two, picsV] using hk
  rcases (show k = 0 ∨ k = 1 by omega) with rfl | rfl
  · exact ⟨hp, rfl, rfl⟩
  · exact ⟨hq, rfl, rfl⟩

theorem two_blend {W H : Int} {a a' : Option Addr} {n c c' : Nat} {xs ys : List Int} {A B : Int} (hl : xs.length = n) (hl' : ys.length = n) (hx : within xs 1 = true) (hy : within ys 1 = true) :
    blendS (picsV (two W H a a' n c c' xs ys)) [0, A, B, A + B] = A * isum xs + B * isum ys := by
  unfold blendS
  have e0 : ((picsV (two W H a a' n c c' xs ys)).getD 0 noPic).ink = xs := rfl
  rw [e0, hl, isum_list hl, isum_list hl', ← sumJ_mul, ← sumJ_mul, ← sumJ_add]
  refine sumJ_congr (fun i hi => ?_)
  have e1 : markG (picsV (two W H a a' n c c' xs ys)) i = xs.getD i 0 + ys.getD i 0 * 2 := by
    show 0 + xs.getD i 0 * 2 ^ 0 + ys.getD i 0 * 2 ^ 1 = _
    omega
  rw [e1]
  have h1 : 0 ≤ xs.getD i 0 ∧ xs.getD i 0 ≤ 1 := within_at hx i (by omega)
  have h2 : 0 ≤ ys.getD i 0 ∧ ys.getD i 0 ≤ 1 := within_at hy i (by omega)
  obtain ⟨u, hu⟩ : ∃ u, xs.getD i 0 = u := ⟨_, rfl⟩
  obtain ⟨v, hv⟩ : ∃ v, ys.getD i 0 = v := ⟨_, rfl⟩
  rw [hu] at h1 ⊢
  rw [hv] at h2 ⊢
  rcases (show u = 0 ∨ u = 1 by omega) with rfl | rfl <;> rcases (show v = 0 ∨ v = 1 by omega) with rfl | rfl <;> simp

/-- What the blend of two plates is, where the colors are sums. -/
def BlendTwo (w : World) (n : Nat) (T : Int) (e : Ending) (w' : World) : Prop :=
  ∃ x y G : Int, e = .returned (.tuple #[.int .i64 x, .int .i64 y, .bool true]) ∧ 0 ≤ x ∧ x ≤ T ∧ 1 ≤ y ∧ y ≤ (n : Int) ∧ (n : Int).tmod y = 0 ∧ (n : Int).tdiv y = G ∧ 1 ≤ G ∧ G ≤ (n : Int) ∧ x * G = T ∧ Below w.heap.size w w'

theorem blend2_call (W H : Int) (a a' ad ac : Option Addr) (n c c' cap capc : Nat) (xs ys : List Int) (A B : Int) (w : World) (hl : xs.length = n) (hl' : ys.length = n) (hp : picOk W H xs 1 = true) (hq : picOk W H ys 1 = true) (h1 : 1 ≤ n) (hn : n ≤ 64)
    (ha : RdV w ad (two W H a a' n c c' xs ys)) (hac : Rd w ac [0, A, B, A + B]) (A0 : 0 ≤ A) (A1 : A ≤ 25500) (B0 : 0 ≤ B) (B1 : B ≤ 1785) :
    Calls Try.prog 19 #[.slice ad 2 cap, .slice ac 4 capc] w (BlendTwo w n (A * isum xs + B * isum ys)) := by
  refine (impl_BlendOf ad 2 cap (two W H a a' n c c' xs ys) ac 4 capc [0, A, B, A + B] w rfl ha (by omega) (fun k hk => ?_) rfl hac (by omega)).mono ?_
  · have hk2 : k < 2 := by simpa [two] using hk
    rcases (show k = 0 ∨ k = 1 by omega) with rfl | rfl
    · show n ≤ 1048576
      omega
    · show n ≤ 1048576
      omega
  have hxw := (picOk_bd hl hp).2.2
  have hyw := (picOk_bd hl' hq).2.2
  obtain ⟨N, W2, H2, T⟩ := stk_of (ps := two W H a a' n c c' xs ys) (n := 2) rfl (two_ok hp hq)
  have hN : N = n := by
    have h := T.inkLen
    have e0 : ((picsV (two W H a a' n c c' xs ys)).getD 0 noPic).ink = xs := rfl
    rw [e0, hl] at h
    exact h.symm
  subst hN
  obtain ⟨x0, x1⟩ := sum_small hl hxw
  obtain ⟨y0, y1⟩ := sum_small hl' hyw
  have hS := two_blend (W := W) (H := H) (a := a) (a' := a') (c := c) (c' := c') (A := A) (B := B) hl hl' hxw hyw
  obtain ⟨X, hX⟩ : ∃ v, isum xs = v := ⟨_, rfl⟩
  obtain ⟨Y, hY⟩ : ∃ v, isum ys = v := ⟨_, rfl⟩
  rw [hX] at x0 x1 hS ⊢
  rw [hY] at y0 y1 hS ⊢
  have m1 : 0 ≤ A * X := Int.mul_nonneg A0 x0
  have m2 : 0 ≤ B * Y := Int.mul_nonneg B0 y0
  obtain ⟨R, hR⟩ : ∃ v, A * X + B * Y = v := ⟨_, rfl⟩
  have R0 : 0 ≤ R := by omega
  obtain ⟨S, rfl⟩ : ∃ S : Nat, R = (S : Int) := ⟨R.toNat, by omega⟩
  rw [hR] at hS ⊢
  obtain ⟨G, hG⟩ : ∃ G, Nat.gcd S N = G := ⟨_, rfl⟩
  have hcs : within [0, A, B, A + B] 1000000 = true := by
    unfold within
    simp only [List.all_cons, List.all_nil, Bool.and_true, Bool.and_eq_true, decide_eq_true_eq]
    omega
  rw [blend_yes T (by rfl) hcs hS hG]
  rintro e w' ⟨he, hb⟩
  have G1 : 1 ≤ G := by
    rw [← hG]
    exact Nat.gcd_pos_of_pos_right S (by omega)
  obtain ⟨u, hu⟩ : G ∣ S := by rw [← hG]; exact Nat.gcd_dvd_left S N
  obtain ⟨v, hv⟩ : G ∣ N := by rw [← hG]; exact Nat.gcd_dvd_right S N
  have v1 : 1 ≤ v := by
    rcases Nat.eq_zero_or_pos v with h0 | h0
    · rw [h0, Nat.mul_zero] at hv; omega
    · exact h0
  have e1 : (S : Int) / (G : Int) = (u : Int) := by rw [hu]; push_cast; exact Int.mul_ediv_cancel_left _ (by omega)
  have e2 : (N : Int) / (G : Int) = (v : Int) := by rw [hv]; push_cast; exact Int.mul_ediv_cancel_left _ (by omega)
  have uS : u ≤ S := by rw [hu]; exact Nat.le_mul_of_pos_left u (by omega)
  have vN : v ≤ N := by rw [hv]; exact Nat.le_mul_of_pos_left v (by omega)
  have GN : G ≤ N := by rw [hv]; exact Nat.le_mul_of_pos_right G (by omega)
  have e3 : (N : Int).tmod (v : Int) = 0 := by
    rw [Int.tmod_eq_emod_of_nonneg (by omega), hv]
    push_cast
    exact Int.mul_emod_left _ _
  have e4 : (N : Int).tdiv (v : Int) = (G : Int) := by
    rw [Int.tdiv_eq_ediv_of_nonneg (by omega), hv]
    push_cast
    exact Int.mul_ediv_cancel _ (by omega)
  have e5 : (u : Int) * (G : Int) = (S : Int) := by rw [hu]; push_cast; exact Int.mul_comm _ _
  refine ⟨(u : Int), (v : Int), (G : Int), ?_, by omega, by omega, by omega, by omega, e3, e4, by omega, by omega, e5, hb⟩
  rw [he, e1, e2]

end Go.Proofs.Ytkjhpfgcmbigfaa
