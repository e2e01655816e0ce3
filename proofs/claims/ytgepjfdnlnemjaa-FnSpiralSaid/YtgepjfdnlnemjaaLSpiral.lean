/-
  FnSpiral: the spiral of a side that is drawn is a matrix, begins with 0, has side - 1 at the end of the first row, and ranks that follow each other lie side by side: the law returns true for every code. No conditions.
-/
import Derived.Test.YtgepjfdnlnemjaaM19
import Derived.Test.YtgepjfdnlnemjaaD24
import Derived.Test.YtgepjfdnlnemjaaR8
import Derived.Test.YtgepjfdnlnemjaaFrameB
import Derived.Deep.RegionHeld3
namespace Go.Proofs.Ytgepjfdnlnemjaa.lSpiral
open Go.ChangeShapes Go.WideShapes Go.ChangeAt Go.RowKit
set_option linter.unusedVariables false
set_option linter.unusedSimpArgs false
attribute [local go_sem ↓] Go.wp_at_zero Go.wp_at_succ

theorem mul_self_nn (x : Int) : 0 ≤ x * x := by
  rcases Int.le_total 0 x with h | h
  · exact Int.mul_nonneg h h
  · have := Int.mul_nonneg (show 0 ≤ -x by omega) (show 0 ≤ -x by omega)
    rwa [Int.neg_mul_neg] at this

set_option maxHeartbeats 3200000 in
theorem ok (ad0 : Option Addr) (n0 cap0 : Nat) (bs0 : List Int) (w : World) (hn0 : bs0.length = n0) (hr0 : RdU w.heap.size w ad0 bs0) (hs0 : n0 ≤ 1048576) :
    Calls Try.prog 9 #[.slice ad0 n0 cap0] w fun e w' => e = .returned (.bool true) ∧ Below w.heap.size w w' := by
  have HL := Lib.hid hn0
  have HC := Lib.hid hr0
  clear hn0 hr0
  go_enter Try.func9, Try.ntmps9
  go_wp2_with fail
  refine (at_call w.heap.size ad0 n0 cap0 bs0 1 _ HL.out (by exact HC.out) hs0 (by omega) (by omega)).mono ?_
  rintro e w0 ⟨v1, rfl, hv1, rfl⟩
  go_wp2_with fail
  obtain ⟨s, hs⟩ : ∃ s : Nat, 1 + (v1 : Int) % 16 = (s : Int) := ⟨(1 + (v1 : Int) % 16).toNat, by omega⟩
  have s1 : 1 ≤ s := by omega
  have s2 : s ≤ 16 := by omega
  rw [hs]
  clear hs hv1
  refine (impl_SpiralMatrix s _).mono ?_
  rw [spiralF_yes s1 s2]
  rintro e w1 ⟨a, n, c, rfl, ho, hn9, hb⟩
  obtain ⟨r, hr⟩ : ∃ r, (spState s (s * s)).r = r := ⟨_, rfl⟩
  have hlen : s * s = n := by have := ho.len; simp only [] at this; rw [sp_len] at this; exact this
  have hmk := (sp_facts s s1 s2).2
  obtain ⟨hf0, hf1⟩ := sp_first s1 s2
  have HAT : Hid (∀ j, j < n → r.getD (idxS s j) 0 = (j : Int)) := Lib.hid (by rw [← hlen, ← hr]; intro j hj; exact sp_at s1 s2 hj)
  have HID : Hid (∀ j, j < n → idxS s j < n) := Lib.hid (by rw [← hlen]; intro j hj; exact (idx_lt s1 s2 hj).2.2.2.2.1)
  have HST : Hid (∀ j, j + 1 < n → j + 1 < s * s) := Lib.hid (by rw [hlen]; intro j hj; exact hj)
  rw [hr] at hmk hf0 hf1
  dsimp only at ho
  rw [hr] at ho
  have HX := Lib.hid ho.len
  have HQ : Hid ((n : Int) = (s : Int) * (s : Int)) := Lib.hid (by rw [← hlen]; simp)
  have hn2 : n ≤ 256 := by rw [← hlen]; exact Nat.mul_le_mul s2 s2
  have hn1 : s ≤ n := by rw [← hlen]; exact Nat.le_mul_of_pos_left s s1
  have HF0 := Lib.hid hf0
  have HF1 := Lib.hid hf1
  have MK := Lib.hid hmk
  have RD2 := Lib.hid (ho.rd.alloc (.cells #[.int .i64 s, .int .i64 s, .slice a n c] 25))
  have KM2 := Lib.hid (Blk.new w1 25 #[.int .i64 s, .int .i64 s, .slice a n c])
  have HB2 := Lib.hid (bAlloc hb (.cells #[.int .i64 s, .int .i64 s, .slice a n c] 25))
  clear ho hb hf0 hf1 hmk hr hlen
  have hwq : IntKind.i64.wrap ((s : Int) * (s : Int)) = (n : Int) := by rw [← HQ.out]; exact IntWalk.i64_in _ (by omega)
  go_wp2_with fail
  refine (spec_IsMatrix s s a n c r _ HX.out (by exact RD2.out) (by omega)).mono ?_
  rw [MK.out]
  rintro e w3 ⟨rfl, hq⟩
  have HB3 := Lib.hid (bTrans HB2.out hq)
  have RD3 := Lib.hid (RD2.out.below hq)
  have KM3 := Lib.hid (KM2.out.below' hq)
  clear hq
  obtain ⟨l3, q0, q1, q2⟩ := KM3.out.c3
  obtain ⟨ba, oa, hae, hal, hac⟩ := RD3.out.at (by have := HX.out; omega)
  have g0 := hac 0 (by have := HX.out; omega)
  have g1 := hac (s - 1) (by have := HX.out; omega)
  rw [HF0.out] at g0
  rw [HF1.out] at g1
  subst hae
  simp only [Nat.add_zero] at g0
  clear hac
  go_wp2_with (at_make; refine wp_make _ rfl _ _ rfl .i64 .i64 (n : Int) (n : Int) n rfl rfl rfl rfl (by omega) ?_; intro M hM)
  have HO3 : Hid (Own (w3.alloc (.cells M 3)) w3.heap.size n n (List.replicate n 0)) := Lib.hid (by exact hM.own' _ rfl)
  have HIR : Hid (∀ i, i < n → ∃ ρ : Nat, r.getD i 0 = (ρ : Int) ∧ ρ < n) := Lib.hid (fun i hi => by
    obtain ⟨_, _, h3, _⟩ := matOk_bd HX.out MK.out
    have := inR_at h3 i (by have := HX.out; omega)
    simp only [List.getD]
    exact ⟨(r[i]?.getD 0).toNat, by omega, by omega⟩)
  have HND : Hid (∀ i j, i < n → j < n → r.getD i 0 = r.getD j 0 → i = j) := Lib.hid (fun i j hi hj e => by
    obtain ⟨_, _, _, h4⟩ := matOk_bd HX.out MK.out
    exact nodup_at h4 (by have := HX.out; omega) (by have := HX.out; omega) e)
  clear hM g0 g1
  go_loopw [77] (fun i wr => ∃ (k : Nat) (ws : List Int), k ≤ n ∧ i = .int .i64 k ∧ Own wr w3.heap.size n n ws ∧ Hid (∀ i, i < k → ws.getD (r.getD i 0).toNat 0 = (i : Int)) ∧ Below w3.heap.size w3 wr) (fun i _ => n - (intOf i).toNat)
  case atStart => exact ⟨0, _, Nat.zero_le _, rfl, HO3.out, Lib.hid (fun i hi => absurd hi (by omega)), Joins.below_alloc1 _ _⟩
  case round =>
    obtain ⟨k, ws, hk, rfl, ho, HWS, hw⟩ := hrel
    have HO := Lib.hid ho
    have HWr := Lib.hid hw
    have KM := Lib.hid (KM3.out.below' hw)
    have RD := Lib.hid (RD3.out.below hw)
    clear ho hw
    obtain ⟨l4, x0, x1, x2⟩ := KM.out.c3
    by_cases hlt : k < n
    · obtain ⟨ρ, hρ, hρn⟩ := HIR.out k hlt
      obtain ⟨ba2, oa2, hae, hal, hac⟩ := RD.out.at (by have := HX.out; omega)
      cases hae
      have g2 := hac k (by have := HX.out; omega)
      rw [hρ] at g2
      have g3 := HO.out.cell hρn
      have g4 := HO.out.frozen ρ
      have HR := Lib.hid hρ
      clear hac hρ
      go_wp2_with fail
      go_roundw
      case rel =>
        refine ⟨k + 1, ws.set ρ (k : Int), by omega, by go_num, HO.out.set _ _, Lib.hid (fun i hi => ?_), HWr.out.setCell (by simp) _⟩
        rw [getD_set _ _ _ _ (by rw [HO.out.len]; exact hρn)]
        by_cases e : i = k
        · subst e
          rw [HR.out, if_pos (by simp)]
        · obtain ⟨ρ2, h2, h3⟩ := HIR.out i (by omega)
          rw [if_neg (fun h => e (HND.out i k (by omega) hlt (by rw [h2] at h ⊢; rw [HR.out]; simp at h; omega)))]
          exact HWS.out i (by omega)
      case measure => simp [intOf]; omega
    · obtain rfl : n = k := by omega
      have HWI : Hid (∀ j, j < n → ws.getD j 0 = (idxS s j : Int)) := Lib.hid (fun j hj => by
        have := HWS.out (idxS s j) (HID.out j hj)
        rw [HAT.out j hj] at this
        simpa using this)
      obtain ⟨w7, hw7⟩ : ∃ w7 : World, w7 = wr := ⟨_, rfl⟩
      go_wp2_with fail
      go_loopw [9] (fun i wz => ∃ j : Nat, 1 ≤ j ∧ j ≤ n ∧ i = .int .i64 j ∧ Below wr.heap.size wr wz) (fun i _ => n - (intOf i).toNat)
      case atStart => exact ⟨1, Nat.le_refl _, by omega, rfl, Below.refl _ _⟩
      case round =>
        obtain ⟨j, hj1, hj, rfl, hz⟩ := hrel
        have HZ := Lib.hid hz
        have HOz := Lib.hid (HO.out.below hz HO.out.lt)
        have KMz := Lib.hid (KM.out.below' hz)
        clear hz x0 x1 x2
        obtain ⟨l5, x0, x1, x2⟩ := KMz.out.c3
        by_cases hlt2 : j < n
        · obtain ⟨P, Q, P', Q', hP, hQ, hP', hQ', p0, p1, q3, q4, p0', p1', q3', q4', hd⟩ := sp_step (s := s) (j := j - 1) s1 s2 (HST.out (j - 1) (by omega))
          rw [show j - 1 + 1 = j by omega] at hP hQ
          have c1 := HOz.out.cell hlt2
          have c2 := HOz.out.cell (j := j - 1) (by omega)
          rw [HWI.out j hlt2] at c1
          rw [HWI.out (j - 1) (by omega)] at c2
          obtain ⟨A, hA⟩ : ∃ A : Int, (idxS s j : Int) = A := ⟨_, rfl⟩
          obtain ⟨B, hB⟩ : ∃ B : Int, (idxS s (j - 1) : Int) = B := ⟨_, rfl⟩
          rw [hA] at c1 hP hQ
          rw [hB] at c2 hP' hQ'
          obtain ⟨X, hX⟩ : ∃ X : Int, P - P' = X := ⟨_, rfl⟩
          obtain ⟨Y, hY⟩ : ∃ Y : Int, Q - Q' = Y := ⟨_, rfl⟩
          rw [hX, hY] at hd
          obtain ⟨EX, hEX⟩ : ∃ E : Int, X * X = E := ⟨_, rfl⟩
          obtain ⟨EY, hEY⟩ : ∃ E : Int, Y * Y = E := ⟨_, rfl⟩
          rw [hEX, hEY] at hd
          have hx1 : 0 ≤ EX := by rw [← hEX]; exact mul_self_nn X
          have hy1 : 0 ≤ EY := by rw [← hEY]; exact mul_self_nn Y
          have u1 : IntKind.i64.wrap P = P := IntWalk.i64_in _ (by omega)
          have u2 : IntKind.i64.wrap P' = P' := IntWalk.i64_in _ (by omega)
          have u3 : IntKind.i64.wrap Q = Q := IntWalk.i64_in _ (by omega)
          have u4 : IntKind.i64.wrap Q' = Q' := IntWalk.i64_in _ (by omega)
          have v1 : IntKind.i64.wrap (P - P') = X := by rw [IntWalk.i64_in _ (by omega)]; exact hX
          have v2 : IntKind.i64.wrap (Q - Q') = Y := by rw [IntWalk.i64_in _ (by omega)]; exact hY
          have v3 : IntKind.i64.wrap (X * X) = EX := by rw [hEX]; exact IntWalk.i64_in _ (by omega)
          have v4 : IntKind.i64.wrap (Y * Y) = EY := by rw [hEY]; exact IntWalk.i64_in _ (by omega)
          have v5 : IntKind.i64.wrap (EX + EY) = 1 := by rw [hd]; exact IntWalk.i64_in _ (by omega)
          have z1 : ¬ (s : Int) = 0 := by omega
          have z2 : ((s : Int) == 0) = false := by simp; omega
          have z3 : ¬ s = 0 := by omega
          clear hA hB hX hY hEX hEY hd hx1 hy1 p0 p1 q3 q4 p0' p1' q3' q4'
          go_wp2_with fail
          go_region
          go_wp2_with fail
          go_region
          go_wp2_with fail
          go_roundw
          case rel => exact ⟨j + 1, by omega, by omega, by go_num, HZ.out.drew.drew⟩
          case measure => simp [intOf]; omega
        · obtain rfl : n = j := by omega
          go_wp2_with fail
          go_ret
          exact ⟨rfl, bTrans (bTrans HB3.out HWr.out) HZ.out⟩

set_option maxHeartbeats 400000 in
theorem big (ad0 : Option Addr) (n0 cap0 : Nat) (w : World) (h : 1048576 < n0) (hl : n0 ≤ 9223372036854775807) :
    Calls Try.prog 9 #[.slice ad0 n0 cap0] w fun e w' => e = .returned (.bool true) ∧ Below w.heap.size w w' := by
  have h2 : (1048576 : Int) < (n0 : Int) := by omega
  go_enter Try.func9, Try.ntmps9
  go_wp2_with fail
  go_ret
  exact ⟨rfl, Below.refl _ _⟩

set_option maxRecDepth 100000 in
theorem lifted (os : Os) (started : os.Started) (H : Type) (enc : TypeId × Value → H) :
    ReturnsInHanded {} Try.checked os 9 .any (Rows.fnSpiralSpec.pre6 enc Try.prog Try.f9 Rows.fnSpiralRow.domain false) (Rows.fnSpiralSpec.post enc Try.prog Try.f9 false true false false) := by
  refine returnsInHanded_of_change (C := Try.checked) own started (by kernel_rfl) Try.func9
    (ChangeSpec.witness6 (enc := enc) (C := Try.checked) false ⟨#[], #[.slice none 0 0], []⟩ 8 (by kernel_rfl) (by kernel_rfl) (by kernel_rfl) (by kernel_rfl)) ?_
  intro W base args ds gs before hval0 hW hcnd _
  have hval : ∀ (j : Nat) t v, Try.f9.params[j]? = some t → args[j]? = some v → Value.okWide Try.prog W .any base t v := hval0
  have hW' := hW
  have hlt := hW.lt
  obtain ⟨p, q, hA0, hV, rfl, hfz, hnd⟩ := hW
  have hA : DataW.TrodAll enc Try.prog W 0 (fun _ => true) true Try.f9.params.toList args.toList ds p := hA0
  rw [Try.params9] at hA hval
  obtain ⟨v0, vs0, d0, ds0, p0, q0, hargs, rfl, rfl, h0, r0⟩ := trodAll_cons hA
  obtain ⟨rfl, rfl, rfl⟩ := trodAll_nil r0
  obtain rfl : args = #[v0] := by cases args; simp_all
  obtain ⟨rfl, rfl⟩ := trodVars_none hV
  clear hA0 hval0
  obtain ⟨ad0, n0, cap0, bs0, rfl, hn0, hr0, hl0⟩ := open_code (hval 0 22 v0 rfl rfl) h0 (fun x hx => hlt x (by simp [hx]))
  have fin : ∀ (e : Ending) W', (e = .returned (.bool true) ∧ Below W.heap.size W W') → ∃ v, e = .returned v ∧ Rows.fnSpiralSpec.post enc Try.prog Try.f9 false true false false W #[.slice ad0 n0 cap0] v W' := by
    rintro e W' ⟨rfl, hb⟩
    exact ⟨_, rfl, law_post rfl rfl hW' (by kernel_rfl) rfl hb⟩
  by_cases hs0 : n0 ≤ 1048576
  case neg => exact (big ad0 n0 cap0 W (by omega) hl0).mono fin
  case pos => exact (ok ad0 n0 cap0 bs0 W hn0 hr0 hs0).mono fin

theorem proved : Rows.FnSpiralSaid :=
  OpenClaim.holds_of_wide 9 Try.f9 rfl rfl rfl rfl rfl rfl rfl ⟨rfl, rfl, rfl, rfl, rfl⟩ rfl rfl rfl rfl rfl (by kernel_rfl) Try.func9 (by kernel_rfl)
    (of_decide_eq_true (by kernel_rfl)) (by unfold Func.isWrapper; first | (rw [if_pos (by decide +kernel)]; kernel_rfl) | (rw [if_neg (by decide +kernel)]; exact ⟨rfl, rfl⟩))
    (fun os started H enc _ => lifted os started H enc)

end Go.Proofs.Ytgepjfdnlnemjaa.lSpiral
