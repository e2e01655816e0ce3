/-
  FnOverprint: plates of columns and rows share their dots as the product of their shares: the law returns true for every code. No conditions.
-/
import Derived.Test.YtkjhpfgcmbigfaaW26
import Derived.Test.YtkjhpfgcmbigfaaFrameC
import Derived.Test.YtkjhpfgcmbigfaaW20
import Derived.Test.YtkjhpfgcmbigfaaCut
import Derived.Maps.AppendAt
namespace Go.Proofs.Ytkjhpfgcmbigfaa.lOverprint
open Go.ChangeShapes Go.WideShapes Go.ChangeAt Go.RowKit
set_option linter.unusedVariables false
set_option linter.unusedSimpArgs false

/-- 'xs = append(xs, v)', and where the row lies then. -/
theorem wp_appAt (w : World) {ops : Array Oper} {rest : List Oper} {o : Oper} {a : Act} {Q : Exit → Act → World → Prop}
    (hgd : o.guard = none) (s x : Operand) (hop : o.op = .call { callee := .builtin .append, args := #[s, x], argTypes := #[23, 23] })
    (B n cap : Nat) (ad : Option Addr) (xs : List Int) (hs : a.eval s = .slice ad n cap) (ho : OwnA w B ad n cap xs) (g : Nat) (v : Int) (hx : a.eval x = .slice (some ⟨g, 0, none⟩) 1 1)
    (hc : w.cell? ⟨g, 0, none⟩ = some (.int .i64 v)) (hn : n ≤ 1048576) (hB : B ≤ w.heap.size)
    (hK : ∀ ad' cap' w', OwnA w' B ad' (n + 1) cap' (xs ++ [v]) → w.grownBy w' (blockOf ad) → (blockOf ad' = blockOf ad ∨ blockOf ad' = some w.heap.size) → wpList Try.prog ops Q rest (a.put o.dst (.slice ad' (n + 1) cap')) w') :
    wpList Try.prog ops Q (o :: rest) a w := by
  obtain ⟨i, hi, hz0, hz1, hz2⟩ := info_parts infoInt
  refine wpList_append_own_at (w := w) hgd s x 23 hop B 3 i (.int .i64 0) 1 8 Try.underlying23 hi hz0 hz1 hz2 rfl (by decide) _ n (xs.map (Value.int .i64)) hs ho.toRow ⟨g, 0, none⟩ 1 1 [.int .i64 v] hx rfl ?_ ?_ (by unfold maxLen; omega) (by omega) hB ?_
  · intro j u hj
    match j, hj with
    | 0, hj => simp at hj; subst hj; simpa [Addr.add] using hc
  · intro u hu; simp at hu; subst hu; rfl
  · intro v' w' h2 h3 _ h5
    have h4 : w'.ownsRow B 3 1 v' (n + 1) ((xs ++ [v]).map (Value.int .i64)) := by simpa using h2
    obtain ⟨ad', cap', rfl, h6⟩ := OwnA.ofRow h4
    rw [blockOf_own] at h3
    rw [blockOf_own, blockOf_own] at h5
    exact hK ad' cap' w' h6 h3 h5

theorem snoc_dots {xs : List Int} (h : within xs 1 = true) (u : Nat) : within (xs ++ [(u : Int) % 2]) 1 = true := by
  unfold within at h ⊢
  rw [List.all_append, h]
  simp
  omega

theorem limb7 {a b c d e f g : Prop} (x : a ∧ b ∧ c ∧ d ∧ e ∧ f ∧ g) : g := x.2.2.2.2.2.2

theorem limb5 {a b c d e : Prop} (x : a ∧ b ∧ c ∧ d ∧ e) : e := x.2.2.2.2

theorem row_small {xs : List Int} {n : Nat} (hl : xs.length = n) (h : within xs 1 = true) : 0 ≤ isum xs ∧ isum xs ≤ (n : Int) := by
  rw [isum_list hl]
  refine ⟨sumJ_nn (fun i hi => by rcases dot_getD h i with e | e <;> rw [e] <;> decide), ?_⟩
  have h2 := sumJ_le (f := fun i => xs.getD i 0) (g := fun _ => 1) (n := n) (fun i hi => by rcases dot_getD h i with e | e <;> simp only [e] <;> decide)
  rw [sumJ_const] at h2
  omega

theorem over_count1 {W H : Nat} {cols : List Int} (w1 : 1 ≤ W) (hW : cols.length = W) (hs : sizeOk W H = true) (hc : within cols 1 = true) : countF W H (colsG W H cols) 1 = isum cols * H := by
  have hp := colsG_ok (H := H) hs hc
  have hw : within (colsG W H cols) 1 = true := (picOk_bd (gen_len (W * H) (fun i => cols.getD (i % W) 0)) hp).2.2
  unfold countF
  rw [if_pos (picOk_le hp), ← cols_sum w1 hW, isum_dots (dots_of hw)]

set_option maxRecDepth 100000 in
set_option maxHeartbeats 3200000 in
theorem ok (ad0 : Option Addr) (n0 cap0 : Nat) (bs0 : List Int) (w : World) (hn0 : bs0.length = n0) (hr0 : RdU w.heap.size w ad0 bs0) (hs0 : n0 ≤ 1048576) :
    Calls Try.prog 5 #[.slice ad0 n0 cap0] w fun e w' => e = .returned (.bool true) ∧ Below w.heap.size w w' := by
  have HL := Lib.hid hn0
  have HC := Lib.hid hr0
  clear hn0 hr0
  go_enter Try.func5, Try.ntmps5
  go_wp2_with fail
  have O3 : Own ((w.alloc (.cells #[] 3)).alloc (.cells #[] 3)) w.heap.size 0 0 [] := (own_nilW w).alloc _
  have O4 : Own ((w.alloc (.cells #[] 3)).alloc (.cells #[] 3)) (w.heap.size + 1) 0 0 [] := by
    have h := own_nilW (w.alloc (.cells #[] 3))
    simpa using h
  have B0 : Below w.heap.size w ((w.alloc (.cells #[] 3)).alloc (.cells #[] 3)) := bAlloc (bAlloc (Below.refl _ _) _) _
  have S0 : w.heap.size + 2 ≤ ((w.alloc (.cells #[] 3)).alloc (.cells #[] 3)).heap.size := by simp
  go_loopw [4, 5] (fun s i wr => ∃ (k : Nat) (a : Option Addr) (c : Nat) (xs : List Int), k ≤ 8 ∧ i = .int .i64 k ∧ s = .slice a k c ∧ OwnA wr (w.heap.size + 1) a k c xs ∧ within xs 1 = true ∧ Own wr w.heap.size 0 0 [] ∧ Below w.heap.size w wr ∧ w.heap.size + 2 ≤ wr.heap.size) (fun _ i _ => 8 - (intOf i).toNat)
  case atStart => exact ⟨0, _, _, [], by omega, rfl, rfl, .inr ⟨w.heap.size + 1, rfl, Nat.le_refl _, O4⟩, rfl, O3, B0, S0⟩
  case round =>
    obtain ⟨k, a, c, xs, hk, rfl, rfl, ho, hwi, h3, hnx, hsz⟩ := hrel
    have HO := Lib.hid ho
    have HI := Lib.hid hwi
    have HW := Lib.hid hnx
    have H3 := Lib.hid h3
    have HZ := Lib.hid hsz
    clear ho hwi hnx h3 hsz O3 O4 B0 S0
    go_wp2_with fail
    refine (at_callI w.heap.size ad0 n0 cap0 bs0 0 _ HL.out (by exact HC.out.below HW.out) (by omega) (by omega) (by omega)).mono ?_
    rintro e w1 ⟨v, rfl, hv, hb⟩
    have HO1 := Lib.hid (HO.out.below' hb)
    have H31 := Lib.hid (H3.out.below hb H3.out.lt)
    have HW1 := Lib.hid (bTrans HW.out hb)
    have HZ1 := Lib.hid (Nat.le_trans HZ.out hb.size)
    clear hb HO H3 HW HZ
    by_cases hlt : (k : Int) < 1 + (v : Int) % 8
    · go_wp2_with fail
      refine (at_callI w.heap.size ad0 n0 cap0 bs0 (k + 1) _ HL.out (by exact HC.out.below HW1.out) (by omega) (by omega) (by omega)).mono ?_
      rintro e w2 ⟨u, rfl, hu, hb⟩
      have HO2 := Lib.hid (HO1.out.below' hb)
      have H32 := Lib.hid (H31.out.below hb H31.out.lt)
      have HW2 := Lib.hid (bTrans HW1.out hb)
      have HZ2 := Lib.hid (Nat.le_trans HZ1.out hb.size)
      clear hb HO1 H31 HW1 HZ1
      go_wp2_with (at_builtin; refine wp_append _ rfl (.tmp 23) (.tmp 29) rfl (w.heap.size + 1) k c a xs rfl (HO2.out.alloc _) w2.heap.size ((u : Int) % 2) rfl (by go_simp) (by omega) (by have := HZ2.out; simp; omega) ?_; intro ad2 cap2 w5 ho5 hg5)
      have HW5 := Lib.hid ((HW2.out.alloc HW2.out.size _).grown hg5 (by have := HW2.out.size; simp; omega) (fun b hb => by have := HO2.out.bd b hb; omega))
      have HO5 := Lib.hid ho5
      have H35 := Lib.hid ((H32.out.alloc _).grown hg5 (fun e => by have := HO2.out.bd _ e.symm; omega))
      have HZ5 := Lib.hid (show w.heap.size + 2 ≤ w5.heap.size by have h := hg5.size; simp at h; have := HZ2.out; omega)
      have HI5 := Lib.hid (snoc_dots HI.out u)
      clear ho5 hg5
      go_roundw
      case rel => exact ⟨k + 1, ad2, cap2, _, by omega, by go_num, rfl, HO5.out, HI5.out, H35.out, HW5.out, HZ5.out⟩
      case measure => simp [intOf]; omega
    · have hk1 : 1 ≤ k := by omega
      have CB := Lib.hid HO1.out.bd
      have CL := Lib.hid HO1.out.len
      have R1 : Hid (OwnA w1 w.heap.size (some ⟨w.heap.size, 0, none⟩) 0 0 []) := Lib.hid (OwnA.mk H31.out (Nat.le_refl _))
      clear H31
      go_wp2_with fail
      clear hlt
      go_loopw [3, 6] (fun s i wr => ∃ (j : Nat) (a' : Option Addr) (c' : Nat) (ys : List Int), j ≤ 8 ∧ i = .int .i64 j ∧ s = .slice a' j c' ∧ OwnA wr w.heap.size a' j c' ys ∧ within ys 1 = true ∧ OwnA wr (w.heap.size + 1) a k c xs ∧ Below w.heap.size w wr ∧ w1.heap.size ≤ wr.heap.size ∧ (∀ b, blockOf a' = some b → b = w.heap.size ∨ w1.heap.size ≤ b)) (fun _ i _ => 8 - (intOf i).toNat)
      case atStart => exact ⟨0, _, _, [], by omega, rfl, rfl, R1.out, rfl, HO1.out, HW1.out, Nat.le_refl _, fun b hb => by simp only [blockOf, Option.some.injEq] at hb; omega⟩
      case round =>
        obtain ⟨j, a', c', ys, hj, rfl, rfl, ho, hwi, hcol, hnx, hsz, hsep⟩ := hrel
        have HO := Lib.hid ho
        have HJ := Lib.hid hwi
        have HW := Lib.hid hnx
        have HK := Lib.hid hcol
        have HZ := Lib.hid hsz
        have HS := Lib.hid hsep
        clear ho hwi hnx hcol hsz hsep R1
        go_wp2_with fail
        refine (at_callI w.heap.size ad0 n0 cap0 bs0 9 _ HL.out (by exact HC.out.below HW.out) (by omega) (by omega) (by omega)).mono ?_
        rintro e w3 ⟨v3, rfl, hv3, hb⟩
        have HO3 := Lib.hid (HO.out.below' hb)
        have HK3 := Lib.hid (HK.out.below' hb)
        have HW3 := Lib.hid (bTrans HW.out hb)
        have HZ3 := Lib.hid (Nat.le_trans HZ.out hb.size)
        clear hb HO HK HW HZ
        by_cases hlt : (j : Int) < 1 + (v3 : Int) % 8
        · go_wp2_with fail
          refine (at_callI w.heap.size ad0 n0 cap0 bs0 (j + 10) _ HL.out (by exact HC.out.below HW3.out) (by omega) (by omega) (by omega)).mono ?_
          rintro e w2 ⟨u, rfl, hu, hb⟩
          have HO2 := Lib.hid (HO3.out.below' hb)
          have HK2 := Lib.hid (HK3.out.below' hb)
          have HW2 := Lib.hid (bTrans HW3.out hb)
          have HZ2 := Lib.hid (Nat.le_trans HZ3.out hb.size)
          clear hb HO3 HK3 HW3 HZ3
          go_wp2_with (at_builtin; refine wp_appAt _ rfl (.tmp 39) (.tmp 45) rfl w.heap.size j c' a' ys rfl (HO2.out.alloc _) w2.heap.size ((u : Int) % 2) rfl (by go_simp) (by omega) (by have := HW2.out.size; simp; omega) ?_; intro ad2 cap2 w5 ho5 hg5 hx5)
          have HW5 := Lib.hid ((HW2.out.alloc HW2.out.size _).grown hg5 (by have := HW2.out.size; simp; omega) (fun b hb => by have := HO2.out.bd b hb; omega))
          have HO5 := Lib.hid ho5
          have HK5 := Lib.hid ((HK2.out.alloc _).grownS hg5 (fun b hb e => by have h1 := CB.out b e; have h2 := HS.out b hb; omega))
          have HZ5 := Lib.hid (show w1.heap.size ≤ w5.heap.size by have h := hg5.size; simp at h; have := HZ2.out; omega)
          have HI5 := Lib.hid (snoc_dots HJ.out u)
          have HS5 := Lib.hid (show ∀ b, blockOf ad2 = some b → b = w.heap.size ∨ w1.heap.size ≤ b from fun b hb => by
            rcases hx5 with e | e
            · rw [e] at hb; exact HS.out b hb
            · rw [e] at hb; injection hb with hb; have := HZ2.out; simp at hb; omega)
          clear ho5 hg5 hx5
          go_roundw
          case rel => exact ⟨j + 1, ad2, cap2, _, by omega, by go_num, rfl, HO5.out, HI5.out, HK5.out, HW5.out, HZ5.out, HS5.out⟩
          case measure => simp [intOf]; omega
        · have hj1 : 1 ≤ j := by omega
          have RL := Lib.hid HO3.out.len
          have HSZ := Lib.hid (over_size hk1 hk hj1 hj)
          clear CB HS
          go_wp2_with fail
          clear hlt
          refine (over_call a' a k j c' c ys xs _ RL.out CL.out (by exact HO3.out.rd) (by exact HK3.out.rd) HSZ.out hk hj HJ.out HI.out).mono ?_
          rintro e w4 ⟨al, pa, pb, kl, pc, pd, rfl, hrd, hb⟩
          have HRD := Lib.hid hrd
          have HO4 := Lib.hid (HO3.out.below' hb)
          have HK4 := Lib.hid (HK3.out.below' hb)
          have HB4 := Lib.hid (bTrans HW3.out hb)
          clear hrd hb HO3 HK3 HW3 HZ3
          go_wp2_with fail
          have HC8 := Lib.hid HI.out
          have kj : k * j ≤ 64 := by have := Nat.mul_le_mul hk hj; omega
          have PLS : Hid (picsV ([⟨k, j, pa, k * j, pc, colsG k j xs⟩, ⟨k, j, pb, k * j, pd, rowsG k j ys⟩] : List PV) = overL k j ys xs) := Lib.hid rfl
          have LC : Hid ((colsG k j xs).length = k * j) := Lib.hid (gen_len _ _)
          have LR : Hid ((rowsG k j ys).length = k * j) := Lib.hid (gen_len _ _)
          have hrd := HRD.out
          obtain ⟨gb, off, hae, hal⟩ := hrd.addr (by simp)
          subst hae
          have RV : Hid (∀ v, BelowL w4 v → RdV v (some ⟨gb, off, none⟩) [⟨k, j, pa, k * j, pc, colsG k j xs⟩, ⟨k, j, pb, k * j, pd, rowsG k j ys⟩]) := Lib.hid (fun v hv => HRD.out.below hv.out)
          have C1 : Hid (∀ v, BelowL w4 v → Calls Try.prog 16 #[.slice (some ⟨gb, off, none⟩) 2 kl] v fun e v' => e = .returned (.bool true) ∧ Below v.heap.size v v') := Lib.hid (fun v hv => by
            have h := impl_IsStack (some ⟨gb, off, none⟩) 2 kl _ v rfl (RV.out v hv) (by omega) (fun q hq => by
              have hq2 : q < 2 := by simpa using hq
              rcases (show q = 0 ∨ q = 1 by omega) with rfl | rfl
              · show k * j ≤ 1048576; omega
              · show k * j ≤ 1048576; omega)
            rw [PLS.out, over_stack HSZ.out HJ.out HI.out] at h
            exact h)
          have C2 : Hid (∀ v, BelowL w4 v → Calls Try.prog 21 #[.agg #[.int .i64 (k : Int), .int .i64 (j : Int), .slice pa (k * j) pc], .agg #[.int .i64 (k : Int), .int .i64 (j : Int), .slice pb (k * j) pd]] v fun e v' => e = .returned (.bool true) ∧ Below v.heap.size v v') := Lib.hid (fun v hv => by
            have h := impl_SharesMultiply k j pa (k * j) pc (colsG k j xs) k j pb (k * j) pd (rowsG k j ys) v LC.out ((RV.out v hv).rd (k := 0) (by simp)) (by omega) LR.out ((RV.out v hv).rd (k := 1) (by simp)) (by omega)
            rw [over_shares hk1 CL.out RL.out HSZ.out HJ.out HI.out] at h
            exact h)
          have MK : Hid (∀ v, BelowL w4 v → v.cell? ⟨gb, off, none⟩ = some (.int .i64 (k : Int)) ∧ v.cell? ⟨gb, off + 1, none⟩ = some (.int .i64 (j : Int)) ∧ v.cell? ⟨gb, off + 2, none⟩ = some (.slice pa (k * j) pc) ∧ v.cell? ⟨gb, off + 3, none⟩ = some (.int .i64 (k : Int)) ∧ v.cell? ⟨gb, off + 4, none⟩ = some (.int .i64 (j : Int)) ∧ v.cell? ⟨gb, off + 5, none⟩ = some (.slice pb (k * j) pd) ∧ BelowL w4 v) := Lib.hid (fun v h => by
            obtain ⟨_, a0, a1, a2⟩ := (RV.out v h).cells (k := 0) (by simp)
            obtain ⟨_, a3, a4, a5⟩ := (RV.out v h).cells (k := 1) (by simp)
            exact ⟨a0, a1, a2, a3, a4, a5, h⟩)
          clear hrd hal
          go_region_held3 (fun v => v.cell? ⟨gb, off, none⟩ = some (.int .i64 (k : Int)) ∧ v.cell? ⟨gb, off + 1, none⟩ = some (.int .i64 (j : Int)) ∧ v.cell? ⟨gb, off + 2, none⟩ = some (.slice pa (k * j) pc) ∧ v.cell? ⟨gb, off + 3, none⟩ = some (.int .i64 (k : Int)) ∧ v.cell? ⟨gb, off + 4, none⟩ = some (.int .i64 (j : Int)) ∧ v.cell? ⟨gb, off + 5, none⟩ = some (.slice pb (k * j) pd) ∧ BelowL w4 v)
            (first | exact MK.out _ hb2 | exact MK.out _ hb1 | exact MK.out _ (BelowL.start _))
            (first
              | (go_at_call 16; ((with_reducible refine (C1.out _ (limb7 (by assumption))).mono ?_); rintro e v1 ⟨rfl, hq1⟩; have hb1 := BelowL.call (limb7 (by assumption)) hq1))
              | (go_at_call 21; ((with_reducible refine (C2.out _ (limb7 (by assumption))).mono ?_); rintro e v2 ⟨rfl, hq2⟩; have hb2 := BelowL.call (limb7 (by assumption)) hq2)))
          have HV := Lib.hid hb2
          have HBV := Lib.hid (bTrans HB4.out hb2.out)
          have HOV := Lib.hid (HO4.out.below hb2.out (Nat.le_refl _))
          have HKV := Lib.hid (HK4.out.below hb2.out (Nat.le_refl _))
          have RVV := Lib.hid (RV.out _ hb2)
          clear hb1 hb2 hq1 hq2 C1 C2 MK RV HO4 HK4 HB4 HRD
          obtain ⟨oc1, oc2⟩ := over_counts hk1 CL.out RL.out HSZ.out HJ.out HI.out
          go_wp2_with fail
          refine (impl_MarkCounts (some ⟨gb, off, none⟩) 2 kl _ _ rfl (by exact RVV.out) (by omega) (fun q hq => by
              have hq2 : q < 2 := by simpa using hq
              rcases (show q = 0 ∨ q = 1 by omega) with rfl | rfl
              · show k * j ≤ 1048576; omega
              · show k * j ≤ 1048576; omega)).mono ?_
          rw [PLS.out]
          obtain ⟨ms, hms⟩ : ∃ l, markCountsF (overL k j ys xs) = l := ⟨_, rfl⟩
          rw [hms] at oc1 oc2 ⊢
          rintro e w6 ⟨an, nn, cn, rfl, ho, hnn, hb⟩
          have en : nn = 4 := ho.len.symm.trans oc1
          subst en
          obtain ⟨gn, rfl, hgn, hon⟩ : ∃ g, an = some ⟨g, 0, none⟩ ∧ _ ≤ g ∧ Own w6 g 4 cn ms := by
            rcases ho with ⟨_, h0, _⟩ | h
            · omega
            · exact h
          have n3 := hon.cell (j := 3) (by omega)
          have ln := hon.lt
          have sr := row_small RL.out HJ.out
          have sc := row_small CL.out HI.out
          obtain ⟨SR, hSR⟩ : ∃ x, isum ys = x := ⟨_, rfl⟩
          obtain ⟨SC, hSC⟩ : ∃ x, isum xs = x := ⟨_, rfl⟩
          have scnt := over_count1 (W := k) (H := j) hk1 CL.out HSZ.out HI.out
          rw [hSR, hSC] at oc2
          rw [hSR] at sr
          rw [hSC] at sc scnt
          obtain ⟨P, hP⟩ : ∃ x, SR * SC = x := ⟨_, rfl⟩
          obtain ⟨D, hD⟩ : ∃ x, SC * (j : Int) = x := ⟨_, rfl⟩
          rw [hP] at oc2
          rw [hD] at scnt
          rw [oc2] at n3
          have P0 : 0 ≤ P := by rw [← hP]; exact Int.mul_nonneg sr.1 sc.1
          have D0 : 0 ≤ D := by rw [← hD]; exact Int.mul_nonneg sc.1 (by omega)
          have P1 : P ≤ 8 * 8 := by rw [← hP]; exact Int.mul_le_mul (by omega) (by omega) sc.1 (by omega)
          have D1 : D ≤ 8 * 8 := by rw [← hD]; exact Int.mul_le_mul (by omega) (by omega) (by omega) (by omega)
          have wp1 : IntKind.i64.wrap (SR * SC) = P := by rw [hP]; exact IntWalk.i64_in _ (by omega)
          have wp2 : IntKind.i64.wrap P = P := IntWalk.i64_in _ (by omega)
          have wd1 : IntKind.i64.wrap (SC * (j : Int)) = D := by rw [hD]; exact IntWalk.i64_in _ (by omega)
          have wd2 : IntKind.i64.wrap D = D := IntWalk.i64_in _ (by omega)
          have RV6 := Lib.hid (RVV.out.below hb)
          have HO6 := Lib.hid (HOV.out.rd.below hb)
          have HK6 := Lib.hid (HKV.out.rd.below hb)
          have HB6 := Lib.hid (bTrans HBV.out hb)
          have MK : Hid (∀ v, BelowL w6 v → v.cell? ⟨gb, off, none⟩ = some (.int .i64 (k : Int)) ∧ v.cell? ⟨gb, off + 1, none⟩ = some (.int .i64 (j : Int)) ∧ v.cell? ⟨gb, off + 2, none⟩ = some (.slice pa (k * j) pc) ∧ v.cell? ⟨gn, 3, none⟩ = some (.int .i64 P) ∧ BelowL w6 v) := Lib.hid (fun v h => by
            obtain ⟨_, a0, a1, a2⟩ := (RV6.out.below h.out).cells (k := 0) (by simp)
            exact ⟨a0, a1, a2, (h.out.cell ln).trans n3, h⟩)
          have YW : Hid (within ys 255 = true) := Lib.hid (within_255 HJ.out)
          have XW : Hid (within xs 255 = true) := Lib.hid (within_255 HI.out)
          have C1 : Hid (∀ v, BelowL w6 v → Calls Try.prog 18 #[.slice a' j c'] v fun e v' => e = .returned (.int .i64 SR) ∧ Below v.heap.size v v') := Lib.hid (fun v hv => totp_call a' j c' ys SR v RL.out (HO6.out.below hv.out) YW.out (by omega) hSR)
          have C2 : Hid (∀ v, BelowL w6 v → Calls Try.prog 18 #[.slice a k c] v fun e v' => e = .returned (.int .i64 SC) ∧ Below v.heap.size v v') := Lib.hid (fun v hv => totp_call a k c xs SC v CL.out (HK6.out.below hv.out) XW.out (by omega) hSC)
          have C3 : Hid (∀ v, BelowL w6 v → Calls Try.prog 22 #[.agg #[.int .i64 (k : Int), .int .i64 (j : Int), .slice pa (k * j) pc], .int .i64 1] v fun e v' => e = .returned (.int .i64 D) ∧ Below v.heap.size v v') := Lib.hid (fun v hv => by
            have h := impl_CountInk k j pa (k * j) pc (colsG k j xs) 1 v LC.out ((RV6.out.below hv.out).rd (k := 0) (by simp)) (by omega)
            rw [scnt] at h
            exact h)
          clear hb ho hon hgn n3 ln hms
          go_wp2_with fail
          go_region_held3 (fun v => v.cell? ⟨gb, off, none⟩ = some (.int .i64 (k : Int)) ∧ v.cell? ⟨gb, off + 1, none⟩ = some (.int .i64 (j : Int)) ∧ v.cell? ⟨gb, off + 2, none⟩ = some (.slice pa (k * j) pc) ∧ v.cell? ⟨gn, 3, none⟩ = some (.int .i64 P) ∧ BelowL w6 v)
            (first | exact MK.out _ hb3 | exact MK.out _ hb2 | exact MK.out _ hb1 | exact MK.out _ (BelowL.start _))
            (first
              | (go_at_call 18; ((with_reducible refine (C1.out _ (limb5 (by assumption))).mono ?_); rintro e v1 ⟨rfl, hq1⟩; have hb1 := BelowL.call (limb5 (by assumption)) hq1))
              | (go_at_call 18; ((with_reducible refine (C2.out _ (limb5 (by assumption))).mono ?_); rintro e v2 ⟨rfl, hq2⟩; have hb2 := BelowL.call (limb5 (by assumption)) hq2))
              | (go_at_call 22; ((with_reducible refine (C3.out _ (limb5 (by assumption))).mono ?_); rintro e v3 ⟨rfl, hq3⟩; have hb3 := BelowL.call (limb5 (by assumption)) hq3)))
          have HBF := Lib.hid (bTrans HB6.out hb2.out)
          go_wp2_with fail
          go_ret
          exact ⟨rfl, HBF.out⟩

set_option maxHeartbeats 400000 in
theorem big (ad0 : Option Addr) (n0 cap0 : Nat) (w : World) (h : 1048576 < n0) (hl : n0 ≤ 9223372036854775807) :
    Calls Try.prog 5 #[.slice ad0 n0 cap0] w fun e w' => e = .returned (.bool true) ∧ Below w.heap.size w w' := by
  have h2 : (1048576 : Int) < (n0 : Int) := by omega
  go_enter Try.func5, Try.ntmps5
  go_wp2_with fail
  go_ret
  exact ⟨rfl, Below.refl _ _⟩

set_option maxRecDepth 100000 in
theorem lifted (os : Os) (started : os.Started) (H : Type) (enc : TypeId × Value → H) :
    ReturnsInHanded {} Try.checked os 5 .any (Rows.fnOverprintSpec.pre6 enc Try.prog Try.f5 Rows.fnOverprintRow.domain false) (Rows.fnOverprintSpec.post enc Try.prog Try.f5 false true false false) := by
  refine returnsInHanded_of_change (C := Try.checked) own started (by kernel_rfl) Try.func5
    (ChangeSpec.witness6 (enc := enc) (C := Try.checked) false ⟨#[], #[.slice none 0 0], []⟩ 8 (by kernel_rfl) (by kernel_rfl) (by kernel_rfl) (by kernel_rfl)) ?_
  intro W base args ds gs before hval0 hW hcnd _
  have hval : ∀ (j : Nat) t v, Try.f5.params[j]? = some t → args[j]? = some v → Value.okWide Try.prog W .any base t v := hval0
  have hW' := hW
  have hlt := hW.lt
  obtain ⟨p, q, hA0, hV, rfl, hfz, hnd⟩ := hW
  have hA : DataW.TrodAll enc Try.prog W 0 (fun _ => true) true Try.f5.params.toList args.toList ds p := hA0
  rw [Try.params5] at hA hval
  obtain ⟨v0, vs0, d0, ds0, p0, q0, hargs, rfl, rfl, h0, r0⟩ := trodAll_cons hA
  obtain ⟨rfl, rfl, rfl⟩ := trodAll_nil r0
  obtain rfl : args = #[v0] := by cases args; simp_all
  obtain ⟨rfl, rfl⟩ := trodVars_none hV
  clear hA0 hval0
  obtain ⟨ad0, n0, cap0, bs0, rfl, hn0, hr0, hl0⟩ := open_code (hval 0 22 v0 rfl rfl) h0 (fun x hx => hlt x (by simp [hx]))
  have fin : ∀ (e : Ending) W', (e = .returned (.bool true) ∧ Below W.heap.size W W') → ∃ v, e = .returned v ∧ Rows.fnOverprintSpec.post enc Try.prog Try.f5 false true false false W #[.slice ad0 n0 cap0] v W' := by
    rintro e W' ⟨rfl, hb⟩
    exact ⟨_, rfl, law_post rfl rfl hW' (by kernel_rfl) rfl hb⟩
  by_cases hs0 : n0 ≤ 1048576
  case neg => exact (big ad0 n0 cap0 W (by omega) hl0).mono fin
  case pos => exact (ok ad0 n0 cap0 bs0 W hn0 hr0 hs0).mono fin

theorem proved : Rows.FnOverprintSaid :=
  OpenClaim.holds_of_wide 5 Try.f5 rfl rfl rfl rfl rfl rfl rfl ⟨rfl, rfl, rfl, rfl, rfl⟩ rfl rfl rfl rfl rfl (by kernel_rfl) Try.func5 (by kernel_rfl)
    (of_decide_eq_true (by kernel_rfl)) (by unfold Func.isWrapper; first | (rw [if_pos (by decide +kernel)]; kernel_rfl) | (rw [if_neg (by decide +kernel)]; exact ⟨rfl, rfl⟩))
    (fun os started H enc _ => lifted os started H enc)

end Go.Proofs.Ytkjhpfgcmbigfaa.lOverprint
