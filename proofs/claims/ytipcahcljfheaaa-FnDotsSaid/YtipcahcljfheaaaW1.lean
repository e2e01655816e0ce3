/-
  Contracts of chapter 8: a point's cross, plates grown and shrunk (model).
-/
import Derived.Test.YtipcahcljfheaaaC4
import Derived.Test.YtipcahcljfheaaaD1
import Derived.Test.YtipcahcljfheaaaM44
import Derived.Test.YtipcahcljfheaaaN0
import Derived.Deep.RegionHeld3
import Derived.Deep.QuietTactic
namespace Go.Proofs.Ytipcahcljfheaaa
open Go.RowKit
set_option linter.unusedVariables false
set_option linter.unusedSimpArgs false

theorem near_facts {W H : Int} {n i : Nat} (b1 : 1 ≤ W) (b3 : 1 ≤ H) (hq : (n : Int) = W * H) (hi : i < n) :
    ∃ P Q r R L D U d u : Int, (i : Int) % W = P ∧ (i : Int) / W = Q ∧ Q * W = r ∧ (P + 1) % W = R ∧ (P - 1) % W = L ∧ (Q + 1) % H = D ∧ (Q - 1) % H = U ∧ D * W = d ∧ U * W = u ∧
      (0 ≤ P ∧ P < W) ∧ (0 ≤ Q ∧ Q < H) ∧ (0 ≤ R ∧ R < W) ∧ (0 ≤ L ∧ L < W) ∧ (0 ≤ D ∧ D < H) ∧ (0 ≤ U ∧ U < H) ∧ (0 ≤ r ∧ r ≤ n) ∧ (0 ≤ d ∧ d ≤ n) ∧ (0 ≤ u ∧ u ≤ n) ∧
      ((r + R).toNat = rightI W.toNat i ∧ r + R < n) ∧ ((r + L).toNat = leftI W.toNat i ∧ r + L < n) ∧ ((d + P).toNat = downI W.toNat H.toNat i ∧ d + P < n) ∧ ((u + P).toNat = upI W.toNat H.toNat i ∧ u + P < n) := by
  obtain ⟨w, rfl⟩ : ∃ w : Nat, W = w := ⟨W.toNat, by omega⟩
  obtain ⟨h, rfl⟩ : ∃ h : Nat, H = h := ⟨H.toNat, by omega⟩
  have hn : n = w * h := by have : ((w * h : Nat) : Int) = (w : Int) * (h : Int) := Int.natCast_mul _ _; omega
  obtain ⟨g1, g2, g3⟩ := grid_at (by omega : 0 < w) hn hi
  have r1 := right_lt (by omega : 0 < w) hn hi
  have r2 := left_lt (by omega : 0 < w) hn hi
  have r3 := down_lt (by omega : 0 < w) hn hi
  have r4 := up_lt (by omega : 0 < w) hn hi
  have eP : (i : Int) % (w : Int) = ((i % w : Nat) : Int) := by norm_cast
  have eQ : (i : Int) / (w : Int) = ((i / w : Nat) : Int) := by norm_cast
  unfold rightI at r1 ⊢
  unfold leftI at r2 ⊢
  unfold downI at r3 ⊢
  unfold upI at r4 ⊢
  simp only [Int.toNat_natCast]
  obtain ⟨X, hX⟩ : ∃ X, i % w = X := ⟨_, rfl⟩
  obtain ⟨Y, hY⟩ : ∃ Y, i / w = Y := ⟨_, rfl⟩
  rw [hX] at g1 eP r1 r2 r3 r4 ⊢
  rw [hY] at g2 eQ r1 r2 r3 r4 ⊢
  clear g3 hX hY
  have m1 : (Y : Int) * (w : Int) = ((w * Y : Nat) : Int) := by rw [Nat.mul_comm]; norm_cast
  have eR : ((X : Int) + 1) % (w : Int) = (((X + 1) % w : Nat) : Int) := by norm_cast
  have eL : ((X : Int) - 1) % (w : Int) = (((X + (w - 1)) % w : Nat) : Int) := by
    have h1 : ((X : Int) - 1) % (w : Int) = ((X : Int) - 1 + (w : Int)) % (w : Int) := by rw [Int.add_emod_right]
    have h2 : (X : Int) - 1 + (w : Int) = ((X + (w - 1) : Nat) : Int) := by omega
    rw [h1, h2]; norm_cast
  have eD : ((Y : Int) + 1) % (h : Int) = (((Y + 1) % h : Nat) : Int) := by norm_cast
  have eU : ((Y : Int) - 1) % (h : Int) = (((Y + (h - 1)) % h : Nat) : Int) := by
    have h1 : ((Y : Int) - 1) % (h : Int) = ((Y : Int) - 1 + (h : Int)) % (h : Int) := by rw [Int.add_emod_right]
    have h2 : (Y : Int) - 1 + (h : Int) = ((Y + (h - 1) : Nat) : Int) := by omega
    rw [h1, h2]; norm_cast
  have k1 := Nat.mod_lt (X + 1) (show 0 < w by omega)
  have k2 := Nat.mod_lt (X + (w - 1)) (show 0 < w by omega)
  have k3 := Nat.mod_lt (Y + 1) (show 0 < h by omega)
  have k4 := Nat.mod_lt (Y + (h - 1)) (show 0 < h by omega)
  obtain ⟨R, hR⟩ : ∃ R, (X + 1) % w = R := ⟨_, rfl⟩
  obtain ⟨L, hL⟩ : ∃ R, (X + (w - 1)) % w = R := ⟨_, rfl⟩
  obtain ⟨D, hD⟩ : ∃ R, (Y + 1) % h = R := ⟨_, rfl⟩
  obtain ⟨U, hU⟩ : ∃ R, (Y + (h - 1)) % h = R := ⟨_, rfl⟩
  rw [hR] at eR k1 r1 ⊢
  rw [hL] at eL k2 r2 ⊢
  rw [hD] at eD k3 r3 ⊢
  rw [hU] at eU k4 r4 ⊢
  have m2 : (D : Int) * (w : Int) = ((w * D : Nat) : Int) := by rw [Nat.mul_comm]; norm_cast
  have m3 : (U : Int) * (w : Int) = ((w * U : Nat) : Int) := by rw [Nat.mul_comm]; norm_cast
  clear hR hL hD hU
  obtain ⟨a1, ha1⟩ : ∃ a, w * Y = a := ⟨_, rfl⟩
  obtain ⟨a2, ha2⟩ : ∃ a, w * D = a := ⟨_, rfl⟩
  obtain ⟨a3, ha3⟩ : ∃ a, w * U = a := ⟨_, rfl⟩
  rw [ha1] at m1 r1 r2 ⊢
  rw [ha2] at m2 r3 ⊢
  rw [ha3] at m3 r4 ⊢
  exact ⟨_, _, _, _, _, _, _, _, _, eP, eQ, m1, eR, eL, eD, eU, m2, m3, ⟨by omega, by omega⟩, ⟨by omega, by omega⟩, ⟨by omega, by omega⟩, ⟨by omega, by omega⟩, ⟨by omega, by omega⟩, ⟨by omega, by omega⟩, ⟨by omega, by omega⟩, ⟨by omega, by omega⟩, ⟨by omega, by omega⟩, ⟨by omega, by omega⟩, ⟨by omega, by omega⟩, ⟨by omega, by omega⟩, ⟨by omega, by omega⟩⟩

end Go.Proofs.Ytipcahcljfheaaa
