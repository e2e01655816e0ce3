/-
  Contracts of chapter 8: a point's cross, plates grown and shrunk (model).
-/
import Derived.Test.YthokmanjiebimaaC4
import Derived.Test.YthokmanjiebimaaD1
import Derived.Test.YthokmanjiebimaaM44
import Derived.Test.YthokmanjiebimaaN0
import Derived.Deep.RegionHeld3
import Derived.Deep.QuietTactic
namespace Go.Proofs.Ythokmanjiebimaa
open Go.RowKit
set_option linter.unusedVariables false
set_option linter.unusedSimpArgs false

theorem near_facts {W H : Int} {n i : Nat} (b1 : 1 ≤ W) (b3 : 1 ≤ H) (hq : (n : Int) = W * H) (hi : i < n) :
    ∃ P Q r R L D U d u : Int, (i : Int) % W = P ∧ (i : Int) / W = Q ∧ Q * W = r ∧ (P + 1) % W = R ∧ (P - 1) % W = L ∧ (Q + 1) % H = D ∧ (Q - 1) % H = U ∧ D * W = d ∧ U * W = u ∧
      (0 ≤ P ∧ P < W) ∧ (0 ≤ Q ∧ Q < H) ∧ (0 ≤ R ∧ R < W) ∧ (0 ≤ L ∧ L < W) ∧ (0 ≤ D ∧ D < H) ∧ (0 ≤ U ∧ U < H) ∧ (0 ≤ r ∧ r ≤ n) ∧ (0 ≤ d ∧ d ≤ n) ∧ (0 ≤ u ∧ u ≤ n) ∧
      ((r + R).toNat = rightI W.toNat i ∧ r + R < n) ∧ ((r + L).toNat = leftI W.toNat i ∧ r + L < n) ∧ ((d + P).toNat = downI W.toNat H.toNat i ∧ d + P < n) ∧ ((u + P).toNat = upI W.toNat H.toNat i ∧ u + P < n) := by
  obtain ⟨w, rfl⟩ : ∃ w : Nat, W = w := ⟨W.toNat, by omega⟩
  obtain ⟨h, rfl⟩ : ∃ h : Nat, H = h := ⟨H.toNat, by omega⟩
  have hn : n = w * h := by have : ((w * h : Nat) : Int) = (w : Int) * (h : Int) := Int.natCast_mul _ _; omega
  obtain ⟨g1, g2, g3⟩ := grid_at (by omega : 0 < w) hn hi
  have r1 := right_lt (by omega : 0 < w) hn hi
  have r2 := left_lt (by omega : 0 < w) hn hi
  have r3 := down_lt (by omega : 0 < w) hn hi
  have r4 := up_lt (by omega : 0 < w) hn hi
  have eP : (i : Int) % (w : Int) = ((i % w : Nat) : Int) := by norm_cast
  have eQ : (i : Int) / (w : Int) = ((i / w : Nat) : Int) := by norm_cast
  unfold rightI at r1 ⊢
  unfold leftI at r2 ⊢
  unfold downI at r3 ⊢
  unfold upI at r4 ⊢
  simp only [Int.toNat_natCast]
  obtain ⟨X, hX⟩ : ∃ X, i % w = X := ⟨_, rfl⟩
  obtain ⟨Y, hY⟩ : ∃ Y, i / w = Y := ⟨_, rfl⟩
  rw [hX] at g1 eP r1 r2 r3 r4 ⊢
  rw [hY] at g2 eQ r1 r2 r3 r4 ⊢
  clear g3 hX hY
  have m1 : (Y : Int) * (w : Int) = ((w * Y : Nat) : Int) := by rw [Nat.mul_comm]; norm_cast
  have eR : ((X : Int) + 1) % (w : Int) = (((X + 1) % w : Nat) : Int) := by norm_cast
  have eL : ((X : Int) - 1) % (w : Int) = (((X + (w - 1)) % w : Nat) : Int) := by
    have h1 : ((X : Int) - 1) % (w : Int) = ((X : Int) - 1 + (w : Int)) % (w : Int) := by rw [Int.add_emod_right]
    have h2 : (X : Int) - 1 + (w : Int) = ((X + (w - 1) : Nat) : Int) := by omega
    rw [h1, h2]; norm_cast
  have eD : ((Y : Int) + 1) % (h : Int) = (((Y + 1) % h : Nat) : Int) := by norm_cast
  have eU : ((Y : Int) - 1) % (h : Int) = (((Y + (h - 1)) % h : Nat) : Int) := by
    have h1 : ((Y : Int) - 1) % (h : Int) = ((Y : Int) - 1 + (h : Int)) % (h : Int) := by rw [Int.add_emod_right]
    have h2 : (Y : Int) - 1 + (h : Int) = ((Y + (h - 1) : Nat) : Int) := by omega
    rw [h1, h2]; norm_cast
  have k1 := Nat.mod_lt (X + 1) (show 0 < w by omega)
  have k2 := Nat.mod_lt (X + (w - 1)) (show 0 < w by omega)
  have k3 := Nat.mod_lt (Y + 1) (show 0 < h by omega)
  have k4 := Nat.mod_lt (Y + (h - 1)) (show 0 < h by omega)
  obtain ⟨R, hR⟩ : ∃ R, (X + 1) % w = R := ⟨_, rfl⟩
  obtain ⟨L, hL⟩ : ∃ R, (X + (w - 1)) % w = R := ⟨_, rfl⟩
  obtain ⟨D, hD⟩ : ∃ R, (Y + 1) % h = R := ⟨_, rfl⟩
  obtain ⟨U, hU⟩ : ∃ R, (Y + (h - 1)) % h = R := ⟨_, rfl⟩
  rw [hR] at eR k1 r1 ⊢
  rw [hL] at eL k2 r2 ⊢
  rw [hD] at eD k3 r3 ⊢
  rw [hU] at eU k4 r4 ⊢
  have m2 : (D : Int) * (w : Int) = ((w * D : Nat) : Int) := by rw [Nat.mul_comm]; norm_cast
  have m3 : (U : Int) * (w : Int) = ((w * U : Nat) : Int) := by rw [Nat.mul_comm]; norm_cast
  clear hR hL hD hU
  obtain ⟨a1, ha1⟩ : ∃ a, w * Y = a := ⟨_, rfl⟩
  obtain ⟨a2, ha2⟩ : ∃ a, w * D = a := ⟨_, rfl⟩
  obtain ⟨a3, ha3⟩ : ∃ a, w * U = a := ⟨_, rfl⟩
  rw [ha1] at m1 r1 r2 ⊢
  rw [ha2] at m2 r3 ⊢
  rw [ha3] at m3 r4 ⊢
  exact ⟨_, _, _, _, _, _, _, _, _, eP, eQ, m1, eR, eL, eD, eU, m2, m3, ⟨by omega, by omega⟩, ⟨by omega, by omega⟩, ⟨by omega, by omega⟩, ⟨by omega, by omega⟩, ⟨by omega, by omega⟩, ⟨by omega, by omega⟩, ⟨by omega, by omega⟩, ⟨by omega, by omega⟩, ⟨by omega, by omega⟩, ⟨by omega, by omega⟩, ⟨by omega, by omega⟩, ⟨by omega, by omega⟩, ⟨by omega, by omega⟩⟩

theorem spec_l2Mod_same (a n m : Int) (w : World) (h : 1 ≤ n) (h2 : n ≤ 64) (hm : a % n = m) :
    Calls Try.prog 81 #[.int .i64 a, .int .i64 n] w fun e w' => e = .returned (.int .i64 m) ∧ w = w' := by
  subst hm
  exact spec_l2Mod a n w h (by omega)

set_option maxRecDepth 100000 in
set_option maxHeartbeats 4000000 in
theorem spec_l7Near (W H : Int) (ad : Option Addr) (n cap : Nat) (xs : List Int) (i : Nat) (w : World) (hn : xs.length = n) (ha : Rd w ad xs) (b1 : 1 ≤ W) (b2 : W ≤ 64) (b3 : 1 ≤ H) (b4 : H ≤ 64) (hq : (n : Int) = W * H) (hn2 : n ≤ 1024) (hx : DotsN n xs) (hi : i < n) :
    Calls Try.prog 78 #[.agg #[.int .i64 W, .int .i64 H, .slice ad n cap], .int .i64 i] w fun e w' => e = .returned (.int .i64 (nearS W.toNat H.toNat xs i)) ∧ Below w.heap.size w w' := by
  obtain ⟨P, Q, r, R, L, D, U, d, u, eP, eQ, er, eR, eL, eD, eU, ed, eu, ⟨P0, P1⟩, ⟨Q0, Q1⟩, ⟨R0, R1⟩, ⟨L0, L1⟩, ⟨D0, D1⟩, ⟨U0, U1⟩, ⟨r0, r1⟩, ⟨d0, d1⟩, ⟨u0, u1⟩, ⟨t1, l1⟩, ⟨t2, l2⟩, ⟨t3, l3⟩, ⟨t4, l4⟩⟩ := near_facts b1 b3 hq hi
  obtain ⟨ba, oa, hae, hal, hac⟩ := (ha.alloc (.cells #[.int .i64 W, .int .i64 H, .slice ad n cap] 44)).at (by omega)
  have c0 := hac i (by omega)
  have c1 := hac (r + R).toNat (by omega)
  have c2 := hac (r + L).toNat (by omega)
  have c3 := hac (d + P).toNat (by omega)
  have c4 := hac (u + P).toNat (by omega)
  have x0 := hx i hi
  have x1 := hx (r + R).toNat (by omega)
  have x2 := hx (r + L).toNat (by omega)
  have x3 := hx (d + P).toNat (by omega)
  have x4 := hx (u + P).toNat (by omega)
  have E : Hid (nearS W.toNat H.toNat xs i = xs.getD i 0 + xs.getD (r + R).toNat 0 + xs.getD (r + L).toNat 0 + xs.getD (d + P).toNat 0 + xs.getD (u + P).toNat 0) := Lib.hid (by unfold nearS; rw [t1, t2, t3, t4])
  obtain ⟨V, hV⟩ : ∃ V, nearS W.toNat H.toNat xs i = V := ⟨_, rfl⟩
  rw [hV] at E ⊢
  obtain ⟨v0, h0⟩ : ∃ v, xs.getD i 0 = v := ⟨_, rfl⟩
  obtain ⟨v1, h1⟩ : ∃ v, xs.getD (r + R).toNat 0 = v := ⟨_, rfl⟩
  obtain ⟨v2, h2⟩ : ∃ v, xs.getD (r + L).toNat 0 = v := ⟨_, rfl⟩
  obtain ⟨v3, h3⟩ : ∃ v, xs.getD (d + P).toNat 0 = v := ⟨_, rfl⟩
  obtain ⟨v4, h4⟩ : ∃ v, xs.getD (u + P).toNat 0 = v := ⟨_, rfl⟩
  rw [h0, h1, h2, h3, h4] at E
  rw [h0] at c0 x0
  rw [h1] at c1 x1
  rw [h2] at c2 x2
  rw [h3] at c3 x3
  rw [h4] at c4 x4
  have y0 : 0 ≤ v0 ∧ v0 ≤ 1 := by omega
  have y1 : 0 ≤ v1 ∧ v1 ≤ 1 := by omega
  have y2 : 0 ≤ v2 ∧ v2 ≤ 1 := by omega
  have y3 : 0 ≤ v3 ∧ v3 ≤ 1 := by omega
  have y4 : 0 ≤ v4 ∧ v4 ≤ 1 := by omega
  obtain ⟨y00, y01⟩ := y0
  obtain ⟨y10, y11⟩ := y1
  obtain ⟨y20, y21⟩ := y2
  obtain ⟨y30, y31⟩ := y3
  obtain ⟨y40, y41⟩ := y4
  have ML := Lib.hid (fun v : World => spec_l2Mod_same (P - 1) W L v b1 b2 eL)
  have MU := Lib.hid (fun v : World => spec_l2Mod_same (Q - 1) H U v b3 b4 eU)
  have tR : (P + 1).tmod W = R := by rw [Int.tmod_eq_emod_of_nonneg (by omega), eR]
  have tD : (Q + 1).tmod H = D := by rw [Int.tmod_eq_emod_of_nonneg (by omega), eD]
  have k1 : IntKind.i64.wrap (P + 1) = P + 1 := IntWalk.i64_in _ (by omega)
  have k2 : IntKind.i64.wrap R = R := IntWalk.i64_in _ (by omega)
  have k3 : IntKind.i64.wrap (r + R) = r + R := IntWalk.i64_in _ (by omega)
  have k4 : IntKind.i64.wrap (P - 1) = P - 1 := IntWalk.i64_in _ (by omega)
  have k5 : IntKind.i64.wrap (r + L) = r + L := IntWalk.i64_in _ (by omega)
  have k6 : IntKind.i64.wrap (Q + 1) = Q + 1 := IntWalk.i64_in _ (by omega)
  have k7 : IntKind.i64.wrap D = D := IntWalk.i64_in _ (by omega)
  have k8 : IntKind.i64.wrap d = d := IntWalk.i64_in _ (by omega)
  have k9 : IntKind.i64.wrap (d + P) = d + P := IntWalk.i64_in _ (by omega)
  have k10 : IntKind.i64.wrap (Q - 1) = Q - 1 := IntWalk.i64_in _ (by omega)
  have k11 : IntKind.i64.wrap u = u := IntWalk.i64_in _ (by omega)
  have k12 : IntKind.i64.wrap (u + P) = u + P := IntWalk.i64_in _ (by omega)
  have k13 : IntKind.i64.wrap (v0 + v1) = v0 + v1 := IntWalk.i64_in _ (by omega)
  have k14 : IntKind.i64.wrap (v0 + v1 + v2) = v0 + v1 + v2 := IntWalk.i64_in _ (by omega)
  have k15 : IntKind.i64.wrap (v0 + v1 + v2 + v3) = v0 + v1 + v2 + v3 := IntWalk.i64_in _ (by omega)
  have k16 : IntKind.i64.wrap (v0 + v1 + v2 + v3 + v4) = v0 + v1 + v2 + v3 + v4 := IntWalk.i64_in _ (by omega)
  have z1 : ¬ W = 0 := by omega
  have z2 : (W == 0) = false := by simp; omega
  have z3 : ¬ H = 0 := by omega
  have z4 : (H == 0) = false := by simp; omega
  have g1 : 0 ≤ r + R := by omega
  have g2 : 0 ≤ r + L := by omega
  have g3 : 0 ≤ d + P := by omega
  have g4 : 0 ≤ u + P := by omega
  have i0 : (0 : Int) ≤ (i : Int) := by omega
  have i1 : (i : Int) < (n : Int) := by omega
  subst hae
  have KP := Lib.hid (Blk.new w 44 #[.int .i64 W, .int .i64 H, .slice (some ⟨ba, oa, none⟩) n cap])
  obtain ⟨l0, o0, o1, o2⟩ := KP.out.c3
  clear hac x0 x1 x2 x3 x4 h0 h1 h2 h3 h4 hV t1 t2 t3 t4 eL eU eR eD hq ha hn hx hal
  have w1 : (i : Int) % W = P := eP
  have w2 : (i : Int) / W = Q := eQ
  have w3 : (i : Int).tmod W = P := by rw [Int.tmod_eq_emod_of_nonneg (by omega), eP]
  have k17 : IntKind.i64.wrap P = P := IntWalk.i64_in _ (by omega)
  clear eP eQ
  go_enter Try.func78, Try.ntmps78
  go_wp2_with fail
  clear w1 w2 w3
  go_region_held3 (fun v => v.cell? ⟨w.heap.size, 0, none⟩ = some (.int .i64 W) ∧ v.cell? ⟨w.heap.size, 2, none⟩ = some (.slice (some ⟨ba, oa, none⟩) n cap) ∧ v.cell? ⟨ba, oa + i, none⟩ = some (.int .i64 v0) ∧ v.cell? ⟨ba, oa + (r + R).toNat, none⟩ = some (.int .i64 v1) ∧ v.cell? ⟨ba, oa + (r + L).toNat, none⟩ = some (.int .i64 v2))
    (first | exact ⟨o0, o2, c0, c1, c2⟩)
    (first | (go_at_call 81; ((with_reducible refine (ML.out _).mono ?_); rintro e v9 ⟨rfl, rfl⟩)))
  go_wp2_with fail
  go_region_held3 (fun v => v.cell? ⟨w.heap.size, 0, none⟩ = some (.int .i64 W) ∧ v.cell? ⟨w.heap.size, 1, none⟩ = some (.int .i64 H) ∧ v.cell? ⟨w.heap.size, 2, none⟩ = some (.slice (some ⟨ba, oa, none⟩) n cap) ∧ v.cell? ⟨ba, oa + (d + P).toNat, none⟩ = some (.int .i64 v3) ∧ v.cell? ⟨ba, oa + (u + P).toNat, none⟩ = some (.int .i64 v4))
    (first | exact ⟨o0, o1, o2, c3, c4⟩)
    (first | (go_at_call 81; ((with_reducible refine (MU.out _).mono ?_); rintro e v9 ⟨rfl, rfl⟩)))
  go_wp2_with fail
  go_ret
  exact ⟨ret_int (by rw [E.out]), by first | exact (Joins.below_alloc1 _ _) | exact (Joins.below_alloc1 _ _).drew | exact (Joins.below_alloc1 _ _).drew.drew⟩

end Go.Proofs.Ythokmanjiebimaa
