/-
  The library's stable sort: exchanging ranges, rotating.
-/
import Derived.Test.YtnhjdmdnicnmmaaM33
import Derived.Test.YtnhjdmdnicnmmaaCore
import Derived.Test.YtnhjdmdnicnmmaaM3
import Derived.Test.YtnhjdmdnicnmmaaN0
import Derived.Deep.RegionHeld3
import Derived.BigRegion
import Derived.Shelf.SlSortCmp.QuietGrown
import Derived.Deep.LoopGhost
namespace Go.Proofs.Ytnhjdmdnicnmmaa
open Go.RowKit
set_option linter.unusedVariables false
set_option linter.unusedSimpArgs false

theorem sw_row {W : World} {blk n cap : Nat} {f : Nat → Int} (h : Own W blk n cap (gen n f)) {i j : Nat} (hi : i < n) (hj : j < n) (hne : i ≠ j) :
    Own ((W.setCell ⟨blk, i, none⟩ (.int .i64 (f j))).setCell ⟨blk, j, none⟩ (.int .i64 (f i))) blk n cap (gen n (sw f i j)) := by
  have h1 := (h.set i (f j)).set j (f i)
  have e : ((gen n f).set i (f j)).set j (f i) = gen n (sw f i j) := by
    rw [gen_set n f (fun k => if k = i then f j else f k) i (f j) hi (by simp) (fun k _ hk => by simp [hk])]
    exact gen_set n _ _ j (f i) hj (by unfold sw; simp [Ne.symm hne]) (fun k _ hk => by unfold sw; simp [hk])
  rwa [e] at h1

theorem own_c {W : World} {blk n cap : Nat} {f : Nat → Int} (h : Own W blk n cap (gen n f)) {i : Nat} (hi : i < n) : W.cell? ⟨blk, i, none⟩ = some (.int .i64 (f i)) := by
  have := h.cell hi
  rwa [gen_get _ _ _ hi] at this

theorem own_c2 {W : World} {blk n cap : Nat} {f : Nat → Int} (h : Own W blk n cap (gen n f)) {i j : Nat} (hi : i < n) (hj : j < n) (hne : i ≠ j) (v : Value) : ∃ u, (W.setCell ⟨blk, i, none⟩ v).cell? ⟨blk, j, none⟩ = some u :=
  ⟨_, (World.cell?_setCell_other _ _ _ _ (by intro e; simp only [Addr.mk.injEq] at e; omega)).trans (own_c h hj)⟩

set_option maxRecDepth 100000 in
set_option maxHeartbeats 3200000 in
theorem swapRange5 (g : Nat) (cb : Array Value) (blk n a b m : Nat) (f : Nat → Int) (w : World) (ho : Own w blk n n (gen n f)) (hn : n ≤ 100000) (h1 : a + m ≤ b) (h2 : b + m ≤ n) :
    Calls Try.prog 70 #[.slice (some ⟨blk, 0, none⟩) n n, .int .i64 a, .int .i64 b, .int .i64 m, .func (.func g) #[] cb] w fun e w' => e = .returned (.tuple #[]) ∧ Own w' blk n n (gen n (swapF a b m f)) ∧ w.grownBy w' (some blk) := by
  have HO := Lib.hid ho
  clear ho
  go_enter Try.func70, Try.ntmps70
  go_wp2_with fail
  go_loopw [10] (fun i wr => ∃ k : Nat, k ≤ m ∧ i = .int .i64 k ∧ Hid (Own wr blk n n (gen n (swapF a b k f))) ∧ Hid (w.grownBy wr (some blk))) (fun i _ => m - (intOf i).toNat)
  case atStart => exact ⟨0, Nat.zero_le _, rfl, Lib.hid (by rw [swapF_zero]; exact HO.out), Lib.hid (grown_refl _ _)⟩
  case round =>
    obtain ⟨k, hk, rfl, HR, HG⟩ := hrel
    by_cases hlt : k < m
    · obtain ⟨iN, hiN⟩ : ∃ zz, zz = a + k := ⟨_, rfl⟩
      obtain ⟨jN, hjN⟩ : ∃ zz, zz = b + k := ⟨_, rfl⟩
      have ea : ((a : Int) + (k : Int)).toNat = iN := by omega
      have pa : (0 : Int) ≤ (a : Int) + (k : Int) := by omega
      have ba : (a : Int) + (k : Int) < (n : Int) := by omega
      have ra : IntKind.i64.wrap ((a : Int) + (k : Int)) = (a : Int) + (k : Int) := by rw [IntKind.wrap_i64]; omega
      have ec : ((b : Int) + (k : Int)).toNat = jN := by omega
      have pc : (0 : Int) ≤ (b : Int) + (k : Int) := by omega
      have bc : (b : Int) + (k : Int) < (n : Int) := by omega
      have rc : IntKind.i64.wrap ((b : Int) + (k : Int)) = (b : Int) + (k : Int) := by rw [IntKind.wrap_i64]; omega
      have hij : iN ≠ jN := by omega
      have hiB : iN < n := by omega
      have hjB : jN < n := by omega
      obtain ⟨sx, hx⟩ : ∃ zz, zz = (swapF a b k f) iN := ⟨_, rfl⟩
      obtain ⟨sy, hy⟩ : ∃ zz, zz = (swapF a b k f) jN := ⟨_, rfl⟩
      have SO := Lib.hid (sw_row HR.out hiB hjB hij)
      have ca := own_c HR.out hiB
      have cb' := own_c HR.out hjB
      have fa := HR.out.frozen iN
      have fb := HR.out.frozen jN
      rw [← hx] at ca SO
      rw [← hy] at cb' SO
      obtain ⟨u, cu⟩ := own_c2 HR.out hiB hjB hij (.int .i64 sy)
      have SE : sw (swapF a b k f) iN jN = sw (swapF a b k f) (a + k) (b + k) := by rw [hiN, hjN]
      rw [SE] at SO
      clear hx hy hij hiN hjN SE
      go_wp2_with fail
      go_big_region
      clear ca cb' fa fb cu
      go_wp2_with fail
      go_roundw
      case rel => exact ⟨k + 1, by omega, by go_num, Lib.hid (by rw [← swapF_step a b k f (by omega)]; exact SO.out.drewN 1), Lib.hid (grown_drewN (grown_set (grown_set HG.out _) _) 1)⟩
      case measure => simp [intOf]; omega
    · obtain rfl : k = m := by omega
      go_wp2_with fail
      go_end0
      exact ⟨rfl, HR.out, HG.out⟩

set_option maxRecDepth 100000 in
set_option maxHeartbeats 1000000 in
theorem rotate5 (g : Nat) (cb : Array Value) (blk n a m b : Nat) (f : Nat → Int) (w : World) (ho : Own w blk n n (gen n f)) (hn : n ≤ 100000) (h1 : a < m) (h2 : m < b) (h3 : b ≤ n) :
    Calls Try.prog 69 #[.slice (some ⟨blk, 0, none⟩) n n, .int .i64 a, .int .i64 m, .int .i64 b, .func (.func g) #[] cb] w fun e w' => e = .returned (.tuple #[]) ∧ Own w' blk n n (gen n (rotF a m b f)) ∧ w.grownBy w' (some blk) := by
  have HO := Lib.hid ho
  clear ho
  obtain ⟨i0, hi0⟩ : ∃ i0 : Nat, i0 = m - a := ⟨_, rfl⟩
  obtain ⟨j0, hj0⟩ : ∃ j0 : Nat, j0 = b - m := ⟨_, rfl⟩
  have zi : (m : Int) - (a : Int) = (i0 : Int) := by omega
  have zj : (b : Int) - (m : Int) = (j0 : Int) := by omega
  have k1 : 1 ≤ i0 ∧ 1 ≤ j0 ∧ i0 ≤ m ∧ m + j0 ≤ n := by omega
  have e1 : m - i0 = a := by omega
  have e2 : m + j0 = b := by omega
  have HS : Hid (rotF (m - i0) m (m + j0) f = rotF a m b f) := Lib.hid (by rw [e1, e2])
  have K1 := Lib.hid k1
  clear hi0 hj0 e1 e2 k1
  go_enter Try.func69, Try.ntmps69
  go_wp2_with fail
  go_loopw [10, 11] (fun vi vj wr => ∃ (i j : Nat) (F : Nat → Int), 1 ≤ i ∧ 1 ≤ j ∧ i ≤ m ∧ m + j ≤ n ∧ vi = .int .i64 i ∧ vj = .int .i64 j ∧ Hid (rotF (m - i) m (m + j) F = rotF a m b f) ∧ Hid (Own wr blk n n (gen n F)) ∧ Hid (w.grownBy wr (some blk))) (fun vi vj _ => (intOf vi).toNat + (intOf vj).toNat)
  case atStart => exact ⟨i0, j0, f, K1.out.1, K1.out.2.1, K1.out.2.2.1, K1.out.2.2.2, rfl, rfl, HS, HO, Lib.hid (grown_refl _ _)⟩
  case round =>
    obtain ⟨i, j, F, i1, j1, i2, j2, rfl, rfl, HE, HR, HG⟩ := hrel
    clear zi zj HS K1
    obtain ⟨q, hq⟩ : ∃ q : Nat, q = m - i := ⟨_, rfl⟩
    have zq : (m : Int) - (i : Int) = (q : Int) := by omega
    have q1 : q + i ≤ m := by omega
    have q2 : m ≤ q + i := by omega
    have HQ := Lib.hid hq
    clear hq
    rcases Nat.lt_trichotomy i j with hlt | rfl | hgt
    · have c1 : ((i : Int) != (j : Int)) = true := by simp; omega
      have c2 : ¬ (j : Int) < (i : Int) := by omega
      obtain ⟨r, hr⟩ : ∃ r : Nat, r = m + j - i := ⟨_, rfl⟩
      have zr : (m : Int) + (j : Int) - (i : Int) = (r : Int) := by omega
      obtain ⟨t, ht⟩ : ∃ t : Nat, t = j - i := ⟨_, rfl⟩
      have zt : (j : Int) - (i : Int) = (t : Int) := by omega
      have HE2 : Hid (rotF (m - i) m (m + t) (swapF q r i F) = rotF (m - i) m (m + j) F) := Lib.hid (by rw [ht, HQ.out, hr]; exact rot_right m i j F i2 hlt)
      have r1 : r + i ≤ m + j := by omega
      have r2 : m + j ≤ r + i := by omega
      have t1 : 1 ≤ t := by omega
      have t2 : t ≤ j := by omega
      have t3 : i + t ≤ j := by omega
      clear hr ht
      go_wp2_with fail
      refine (swapRange5 g cb blk n q r i F _ HR.out hn (by omega) (by omega)).mono ?_
      rintro e w2 ⟨rfl, ho, hg⟩
      have HR2 := Lib.hid ho
      have HG2 := Lib.hid (grown_trans HG.out hg)
      clear ho hg
      go_wp2_with fail
      go_roundw
      case rel => exact ⟨i, t, swapF q r i F, i1, by omega, i2, by omega, rfl, rfl, Lib.hid (by rw [HE2.out]; exact HE.out), HR2, HG2⟩
      case measure => simp [intOf]; omega
    · have c1 : ((i : Int) != (i : Int)) = false := by simp
      have HE2 : Hid (swapF q m i F = rotF (m - i) m (m + i) F) := Lib.hid (by rw [HQ.out]; exact rot_end m i F i2)
      go_wp2_with fail
      refine (swapRange5 g cb blk n q m i F _ HR.out hn (by omega) (by omega)).mono ?_
      rintro e w2 ⟨rfl, ho, hg⟩
      have HR2 := Lib.hid ho
      have HG2 := Lib.hid (grown_trans HG.out hg)
      clear ho hg
      go_wp2_with fail
      go_end0
      exact ⟨rfl, by rw [← HE.out, ← HE2.out]; exact HR2.out, HG2.out⟩
    · have c1 : ((i : Int) != (j : Int)) = true := by simp; omega
      have c2 : (j : Int) < (i : Int) := by omega
      obtain ⟨t, ht⟩ : ∃ t : Nat, t = i - j := ⟨_, rfl⟩
      have zt : (i : Int) - (j : Int) = (t : Int) := by omega
      have HE2 : Hid (rotF (m - t) m (m + j) (swapF q m j F) = rotF (m - i) m (m + j) F) := Lib.hid (by rw [ht, HQ.out]; exact rot_left m i j F i2 hgt)
      have t1 : 1 ≤ t := by omega
      have t2 : t ≤ i := by omega
      have t3 : t + j ≤ i := by omega
      clear ht
      go_wp2_with fail
      refine (swapRange5 g cb blk n q m j F _ HR.out hn (by omega) (by omega)).mono ?_
      rintro e w2 ⟨rfl, ho, hg⟩
      have HR2 := Lib.hid ho
      have HG2 := Lib.hid (grown_trans HG.out hg)
      clear ho hg
      go_wp2_with fail
      go_roundw
      case rel => exact ⟨t, j, swapF q m j F, by omega, j1, by omega, j2, rfl, rfl, Lib.hid (by rw [HE2.out]; exact HE.out), HR2, HG2⟩
      case measure => simp [intOf]; omega

end Go.Proofs.Ytnhjdmdnicnmmaa
