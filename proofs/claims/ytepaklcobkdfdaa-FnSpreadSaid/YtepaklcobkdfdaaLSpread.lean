/-
  FnSpread: the dots of a matrix of Bayer at a level that is a power of 4 are spread as a grid of them, two dots lie half a side apart both ways, one dot has none beside it: the law returns true for every code. No conditions.
-/
import Derived.Test.YtepaklcobkdfdaaR10
import Derived.Test.YtepaklcobkdfdaaM29
import Derived.Test.YtepaklcobkdfdaaD28
import Derived.Test.YtepaklcobkdfdaaFrameB
import Derived.Deep.RegionHeld3
namespace Go.Proofs.Ytepaklcobkdfdaa.lSpread
open Go.ChangeShapes Go.WideShapes Go.ChangeAt Go.RowKit
set_option linter.unusedVariables false
set_option linter.unusedSimpArgs false
attribute [local go_sem ↓] Go.wp_at_zero Go.wp_at_succ

theorem power_at (p : Nat) (i s : Int) (w : World) (hi : i = (p : Int)) (hp : p ≤ 8) (hs : (2 : Int) ^ p = s) :
    Calls Try.prog 35 #[.int .i64 i] w fun e w' => e = .returned (.int .i64 s) ∧ w = w' := by
  subst hi
  subst hs
  exact laws_power p w hp

theorem spread_call {W : Int} {n : Nat} {xs : List Int} (a : Option Addr) (cp : Nat) (l r : Int) (w : World) (hl : xs.length = n) (hr : Rd w a xs) (hn : n ≤ 256) (h : spreadP (cellsF W W xs l) = r) :
    Calls Try.prog 36 #[.agg #[.int .i64 W, .int .i64 W, .slice a n cp], .int .i64 l] w fun e w' => e = .returned (.int .i64 r) ∧ Below w.heap.size w w' := by
  rw [← h]
  exact impl_SpreadOf W W a n cp xs l w hl hr (by omega)

set_option maxHeartbeats 3200000 in
theorem ok (ad0 : Option Addr) (n0 cap0 : Nat) (bs0 : List Int) (w : World) (hn0 : bs0.length = n0) (hr0 : RdU w.heap.size w ad0 bs0) (hs0 : n0 ≤ 1048576) :
    Calls Try.prog 10 #[.slice ad0 n0 cap0] w fun e w' => e = .returned (.bool true) ∧ Below w.heap.size w w' := by
  have HL := Lib.hid hn0
  have HC := Lib.hid hr0
  clear hn0 hr0
  go_enter Try.func10, Try.ntmps10
  go_wp2_with fail
  refine (at_call w.heap.size ad0 n0 cap0 bs0 1 _ HL.out (by exact HC.out) hs0 (by omega) (by omega)).mono ?_
  rintro e w0 ⟨v1, rfl, hv1, rfl⟩
  go_wp2_with fail
  refine (at_call w.heap.size ad0 n0 cap0 bs0 2 _ HL.out (by exact HC.out) hs0 (by omega) (by omega)).mono ?_
  rintro e w0 ⟨v2, rfl, hv2, rfl⟩
  obtain ⟨k, hk⟩ : ∃ k : Nat, 1 + (v1 : Int) % 4 = (k : Int) := ⟨(1 + (v1 : Int) % 4).toNat, by omega⟩
  have k1 : 1 ≤ k := by omega
  have k4 : k ≤ 4 := by omega
  (try rw [hk])
  clear hk
  have zk : ¬ (k : Int) = 0 := by omega
  have zk2 : ((k : Int) == 0) = false := by simp; omega
  have tk : (v2 : Int).tmod (k : Int) = (v2 : Int) % (k : Int) := Int.tmod_eq_emod_of_nonneg (by omega)
  have j0 := Int.emod_nonneg (v2 : Int) zk
  have j1 := Int.emod_lt_of_pos (v2 : Int) (show 0 < (k : Int) by omega)
  obtain ⟨J, hJ⟩ : ∃ J : Nat, (v2 : Int) % (k : Int) = J := ⟨((v2 : Int) % (k : Int)).toNat, by omega⟩
  rw [hJ] at tk j0 j1
  have uJ : IntKind.i64.wrap (J : Int) = J := IntWalk.i64_in _ (by omega)
  clear hJ hv1 hv2
  go_wp2_with fail
  obtain ⟨j, hj⟩ : ∃ j : Nat, j = J + 1 := ⟨_, rfl⟩
  have hj2 : 1 + (J : Int) = (j : Int) := by omega
  (try rw [hj2])
  have jk : j ≤ k := by omega
  have jp : 1 ≤ j := by omega
  clear hj hj2 tk uJ zk zk2 j0 j1
  go_wp2_with fail
  refine (bayer_call k _ k4).mono ?_
  rintro e w1 ⟨W, a, n, cp, xs, rfl, hB, ho, hb⟩
  obtain ⟨b1, b2, hn1, hn2, b5, b6⟩ := hB.bd
  have IB := Lib.hid hB
  have HX := Lib.hid ho.len
  have RD2 := Lib.hid (ho.rd.alloc (.cells #[.int .i64 W, .int .i64 W, .slice a n cp] 55))
  have KM2 := Lib.hid (Blk.new w1 55 #[.int .i64 W, .int .i64 W, .slice a n cp])
  have HB2 := Lib.hid (bAlloc hb (.cells #[.int .i64 W, .int .i64 W, .slice a n cp] 55))
  obtain ⟨s, hs⟩ : ∃ s : Int, (2 : Int) ^ (k - j) = s := ⟨_, rfl⟩
  obtain ⟨l, hl⟩ : ∃ l : Int, (2 : Int) ^ (2 * j) = l := ⟨_, rfl⟩
  obtain ⟨h, hh⟩ : ∃ h : Int, (2 : Int) ^ (k - 1) = h := ⟨_, rfl⟩
  have hl4 : l = 4 ^ j := by rw [← hl, Int.pow_mul]; rfl
  have hln : l ≤ n := by
    have e : (4 : Nat) ^ j ≤ 4 ^ k := Nat.pow_le_pow_right (by omega) jk
    have e2 := hB.n4
    rw [hl4]
    have e3 : ((4 ^ j : Nat) : Int) = (4 : Int) ^ j := by simp
    omega
  have hn4 : 2 ≤ n := by
    have e : (4 : Nat) ^ 1 ≤ 4 ^ k := Nat.pow_le_pow_right (by omega) k1
    have e2 := hB.n4
    omega
  have SP := Lib.hid (spread_pow hB jp jk hs.symm hl4 hln)
  have ST := Lib.hid (spread_two hB k1 hh.symm hn4)
  have s16 : 1 ≤ s ∧ s ≤ 256 := by
    rw [← hs]
    have e : (2 : Nat) ^ (k - j) ≤ 2 ^ 8 := Nat.pow_le_pow_right (by omega) (by omega)
    have e0 : 1 ≤ (2 : Nat) ^ (k - j) := Nat.pow_pos (by omega)
    have e3 : ((2 ^ (k - j) : Nat) : Int) = (2 : Int) ^ (k - j) := by simp
    omega
  have h16 : 1 ≤ h ∧ h ≤ 256 := by
    rw [← hh]
    have e : (2 : Nat) ^ (k - 1) ≤ 2 ^ 8 := Nat.pow_le_pow_right (by omega) (by omega)
    have e0 : 1 ≤ (2 : Nat) ^ (k - 1) := Nat.pow_pos (by omega)
    have e3 : ((2 ^ (k - 1) : Nat) : Int) = (2 : Int) ^ (k - 1) := by simp
    omega
  have ss := Int.mul_le_mul s16.2 s16.2 (by omega) (by omega)
  have sp := Int.mul_nonneg (show 0 ≤ s by omega) (show 0 ≤ s by omega)
  have uss : IntKind.i64.wrap (s * s) = s * s := IntWalk.i64_in _ (by omega)
  have hh1 := Int.mul_le_mul (show 2 * h ≤ 512 by omega) h16.2 (by omega) (by omega)
  have hh2 := Int.mul_nonneg (show 0 ≤ 2 * h by omega) (show 0 ≤ h by omega)
  have uhh : IntKind.i64.wrap (2 * h * h) = 2 * h * h := IntWalk.i64_in _ (by omega)
  have u2h : IntKind.i64.wrap (2 * h) = 2 * h := IntWalk.i64_in _ (by omega)
  have HS := Lib.hid hs
  have HLL := Lib.hid hl
  have HH := Lib.hid hh
  clear hB ho hb b5 b6 hs hl hh ss sp hh1 hh2 hl4 hln
  go_wp2_with fail
  refine (power_at (k - j) _ s _ (by omega) (by omega) HS.out).mono ?_
  rintro e w3 ⟨rfl, rfl⟩
  obtain ⟨l1, o0, o1, o2⟩ := KM2.out.c3
  have u2j : IntKind.i64.wrap (2 * (j : Int)) = 2 * (j : Int) := IntWalk.i64_in _ (by omega)
  go_wp2_with fail
  go_region_held3 (fun v => v.cell? ⟨w1.heap.size, 0, none⟩ = some (.int .i64 W) ∧ v.cell? ⟨w1.heap.size, 1, none⟩ = some (.int .i64 W) ∧ v.cell? ⟨w1.heap.size, 2, none⟩ = some (.slice a n cp))
    (first | exact ⟨o0, o1, o2⟩ | exact ⟨z0, z1, z2⟩)
    (first
      | (go_at_call 35; ((with_reducible refine (power_at (2 * j) _ l _ (by omega) (by omega) HLL.out).mono ?_); rintro e v1 ⟨rfl, rfl⟩))
      | (go_at_call 36; ((with_reducible refine (spread_call a cp l (s * s) _ HX.out (by exact RD2.out.drew) hn2 SP.out).mono ?_); rintro e v1 ⟨rfl, hq⟩; have HB3 := Lib.hid (bTrans HB2.out.drew hq); have RD3 := Lib.hid (RD2.out.drew.below hq); have KM3 := Lib.hid (KM2.out.drew.below' hq); obtain ⟨lz, z0, z1, z2⟩ := KM3.out.c3)))
  go_wp2_with fail
  refine (spread_call a cp 2 (2 * h * h) _ HX.out (by exact RD3.out) hn2 ST.out.1).mono ?_
  rintro e w4 ⟨rfl, hq⟩
  have HB4 := Lib.hid (bTrans HB3.out hq)
  have RD4 := Lib.hid (RD3.out.below hq)
  have KM4 := Lib.hid (KM3.out.below' hq)
  obtain ⟨lx, x0, x1, x2⟩ := KM4.out.c3
  clear hq z0 z1 z2 lz
  go_wp2_with fail
  refine (power_at (k - 1) _ h _ (by omega) (by omega) HH.out).mono ?_
  rintro e w5 ⟨rfl, rfl⟩
  go_wp2_with fail
  refine (power_at (k - 1) _ h _ (by omega) (by omega) HH.out).mono ?_
  rintro e w5 ⟨rfl, rfl⟩
  go_wp2_with fail
  refine (spread_call a cp 1 0 _ HX.out (by exact RD4.out) hn2 ST.out.2).mono ?_
  rintro e w6 ⟨rfl, hq⟩
  have HB6 := Lib.hid (bTrans HB4.out hq)
  clear hq
  go_wp2_with fail
  go_ret
  exact ⟨by first | rfl | simp, by first | exact HB6.out | exact HB6.out.drew⟩

set_option maxHeartbeats 400000 in
theorem big (ad0 : Option Addr) (n0 cap0 : Nat) (w : World) (h : 1048576 < n0) (hl : n0 ≤ 9223372036854775807) :
    Calls Try.prog 10 #[.slice ad0 n0 cap0] w fun e w' => e = .returned (.bool true) ∧ Below w.heap.size w w' := by
  have h2 : (1048576 : Int) < (n0 : Int) := by omega
  go_enter Try.func10, Try.ntmps10
  go_wp2_with fail
  go_ret
  exact ⟨rfl, Below.refl _ _⟩

set_option maxRecDepth 100000 in
theorem lifted (os : Os) (started : os.Started) (H : Type) (enc : TypeId × Value → H) :
    ReturnsInHanded {} Try.checked os 10 .any (Rows.fnSpreadSpec.pre6 enc Try.prog Try.f10 Rows.fnSpreadRow.domain false) (Rows.fnSpreadSpec.post enc Try.prog Try.f10 false true false false) := by
  refine returnsInHanded_of_change (C := Try.checked) own started (by kernel_rfl) Try.func10
    (ChangeSpec.witness6 (enc := enc) (C := Try.checked) false ⟨#[], #[.slice none 0 0], []⟩ 8 (by kernel_rfl) (by kernel_rfl) (by kernel_rfl) (by kernel_rfl)) ?_
  intro W base args ds gs before hval0 hW hcnd _
  have hval : ∀ (j : Nat) t v, Try.f10.params[j]? = some t → args[j]? = some v → Value.okWide Try.prog W .any base t v := hval0
  have hW' := hW
  have hlt := hW.lt
  obtain ⟨p, q, hA0, hV, rfl, hfz, hnd⟩ := hW
  have hA : DataW.TrodAll enc Try.prog W 0 (fun _ => true) true Try.f10.params.toList args.toList ds p := hA0
  rw [Try.params10] at hA hval
  obtain ⟨v0, vs0, d0, ds0, p0, q0, hargs, rfl, rfl, h0, r0⟩ := trodAll_cons hA
  obtain ⟨rfl, rfl, rfl⟩ := trodAll_nil r0
  obtain rfl : args = #[v0] := by cases args; simp_all
  obtain ⟨rfl, rfl⟩ := trodVars_none hV
  clear hA0 hval0
  obtain ⟨ad0, n0, cap0, bs0, rfl, hn0, hr0, hl0⟩ := open_code (hval 0 22 v0 rfl rfl) h0 (fun x hx => hlt x (by simp [hx]))
  have fin : ∀ (e : Ending) W', (e = .returned (.bool true) ∧ Below W.heap.size W W') → ∃ v, e = .returned v ∧ Rows.fnSpreadSpec.post enc Try.prog Try.f10 false true false false W #[.slice ad0 n0 cap0] v W' := by
    rintro e W' ⟨rfl, hb⟩
    exact ⟨_, rfl, law_post rfl rfl hW' (by kernel_rfl) rfl hb⟩
  by_cases hs0 : n0 ≤ 1048576
  case neg => exact (big ad0 n0 cap0 W (by omega) hl0).mono fin
  case pos => exact (ok ad0 n0 cap0 bs0 W hn0 hr0 hs0).mono fin

theorem proved : Rows.FnSpreadSaid :=
  OpenClaim.holds_of_wide 10 Try.f10 rfl rfl rfl rfl rfl rfl rfl ⟨rfl, rfl, rfl, rfl, rfl⟩ rfl rfl rfl rfl rfl (by kernel_rfl) Try.func10 (by kernel_rfl)
    (of_decide_eq_true (by kernel_rfl)) (by unfold Func.isWrapper; first | (rw [if_pos (by decide +kernel)]; kernel_rfl) | (rw [if_neg (by decide +kernel)]; exact ⟨rfl, rfl⟩))
    (fun os started H enc _ => lifted os started H enc)

end Go.Proofs.Ytepaklcobkdfdaa.lSpread
