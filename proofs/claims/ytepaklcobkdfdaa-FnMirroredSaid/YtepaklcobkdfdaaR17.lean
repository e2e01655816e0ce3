/-
  Contracts of the model's draws: kernels.
-/
import Derived.Test.YtepaklcobkdfdaaR2
import Derived.Test.YtepaklcobkdfdaaK2
import Derived.Test.YtepaklcobkdfdaaK6
import Derived.Test.YtepaklcobkdfdaaK8
import Derived.Test.YtepaklcobkdfdaaCut
namespace Go.Proofs.Ytepaklcobkdfdaa
open Go.RowKit
set_option linter.unusedVariables false
set_option linter.unusedSimpArgs false

/-- 'append([]T{}, xs...)' at a step of a region that draws. -/
theorem step_cloneT {P : Program} (w : World) {ops : Array Oper} {o : Oper} {a : Act} {K : Act → World → Prop} {Q : Exit → Act → World → Prop} {E : Prop}
    (hgd : o.guard = none) (t e sz bytes : Nat) (z : Value) (ht : P.underlying t = some (.slice e)) (hi0 : (P.info? e).map (fun i => (i.zero, i.size, i.bytes)) = some (some z, sz, bytes)) (hz : z.cells.size = sz) (hsz : 1 ≤ sz) (hby : bytes ≤ 4096)
    (s x : Operand) (hop : o.op = .call { callee := .builtin .append, args := #[s, x], argTypes := #[t, t] })
    (B cap : Nat) (ad : Option Addr) (hs : a.eval s = .slice ad 0 cap) (ho : RowA w e sz B ad 0 cap []) (b off m c : Nat) (vs : List Int) (hx : a.eval x = .slice (some ⟨b, off, none⟩) m c)
    (hv : vs.length = m * sz) (hc : ∀ j, j < m * sz → w.cell? ⟨b, off + j, none⟩ = some (.int .i64 (vs.getD j 0))) (hn : m ≤ 1048576) (hB : B ≤ w.heap.size)
    (hK : ∀ ad' cap' w', RowA w' e sz B ad' m cap' vs → w.grownBy w' (blockOf ad) → K (a.put o.dst (.slice ad' m cap')) w') :
    if Region.wanted o (yielded ops a.tmps) = true then Oper.wp P o a w K Q else E := by
  have hw : Region.wanted o (yielded ops a.tmps) = true := by simp [Region.wanted, hgd]
  rw [if_pos hw]
  obtain ⟨i, hi, hz0, hz1, hz2⟩ := info_parts hi0
  have m1 : m * bytes ≤ 1048576 * 4096 := Nat.mul_le_mul (by omega) hby
  refine wp_append_own w s x t hop B e i z sz bytes ht hi hz0 hz1 hz2 hz (by omega) _ 0 (([] : List Int).map (Value.int .i64)) hs ho.toRow ⟨b, off, none⟩ m c (vs.map (Value.int .i64)) hx (by simp [hv]) ?_ ?_ (by unfold maxLen; omega) (by rw [Nat.zero_add]; omega) hB ?_
  · intro j u hj
    by_cases hjs : j < m * sz
    · have := hc j hjs
      rw [List.getElem?_map, List.getElem?_eq_getElem (by omega)] at hj
      simp only [Option.map_some, Option.some.injEq] at hj
      subst hj
      rw [show (Addr.mk b off none).add j = ⟨b, off + j, none⟩ by rw [Addr.add_lit], this]
      simp [List.getD, List.getElem?_eq_getElem (show j < vs.length by omega)]
    · rw [List.getElem?_eq_none (by simp; omega)] at hj; cases hj
  · intro u hu
    obtain ⟨x, _, rfl⟩ := List.mem_map.1 hu
    rfl
  · intro v' w' h2 h3 _
    rw [Nat.zero_add] at h2
    have h4 : w'.ownsRow B e sz v' m (vs.map (Value.int .i64)) := by simpa using h2
    obtain ⟨ad', cap', rfl, h5⟩ := RowA.ofRow h4
    rw [blockOf_ownT] at h3
    exact hK ad' cap' w' h5 h3

/-- 'xs = append(xs, v)', v a struct of numbers, at a step of a region that draws. -/
theorem step_appendT {P : Program} (w : World) {ops : Array Oper} {o : Oper} {a : Act} {K : Act → World → Prop} {Q : Exit → Act → World → Prop} {E : Prop}
    (hgd : o.guard = none) (t e sz bytes : Nat) (ht : P.underlying t = some (.slice e)) (hi0 : (P.info? e).map (fun i => (i.zero, i.size, i.bytes)) = some (some (zeros sz), sz, bytes)) (hsz : 1 ≤ sz) (hby : bytes ≤ 4096)
    (s x : Operand) (hop : o.op = .call { callee := .builtin .append, args := #[s, x], argTypes := #[t, t] })
    (B n cap : Nat) (ad : Option Addr) (xs : List Int) (hs : a.eval s = .slice ad n cap) (ho : RowA w e sz B ad n cap xs) (g : Nat) (vs : List Int) (hx : a.eval x = .slice (some ⟨g, 0, none⟩) 1 1)
    (hv : vs.length = sz) (hc : ∀ j, j < sz → w.cell? ⟨g, j, none⟩ = some (.int .i64 (vs.getD j 0))) (hn : n ≤ 1048576) (hB : B ≤ w.heap.size)
    (hK : ∀ ad' cap' w', RowA w' e sz B ad' (n + 1) cap' (xs ++ vs) → w.grownBy w' (blockOf ad) → K (a.put o.dst (.slice ad' (n + 1) cap')) w') :
    if Region.wanted o (yielded ops a.tmps) = true then Oper.wp P o a w K Q else E := by
  have hw : Region.wanted o (yielded ops a.tmps) = true := by simp [Region.wanted, hgd]
  rw [if_pos hw]
  obtain ⟨i, hi, hz0, hz1, hz2⟩ := info_parts hi0
  have m1 : (n + 1) * bytes ≤ 1048577 * 4096 := Nat.mul_le_mul (by omega) hby
  refine wp_append_own w s x t hop B e i (zeros sz) sz bytes ht hi hz0 hz1 hz2 (by simp [zeros, Value.cells]) (by omega) _ n (xs.map (Value.int .i64)) hs ho.toRow ⟨g, 0, none⟩ 1 1 (vs.map (Value.int .i64)) hx (by simp [hv]) ?_ ?_ (by unfold maxLen; omega) (by omega) hB ?_
  · intro j u hj
    by_cases hjs : j < sz
    · have := hc j hjs
      rw [List.getElem?_map, List.getElem?_eq_getElem (by omega)] at hj
      simp only [Option.map_some, Option.some.injEq] at hj
      subst hj
      rw [show (Addr.mk g 0 none).add j = ⟨g, j, none⟩ by rw [Addr.add_lit]; simp, this]
      simp [List.getD, List.getElem?_eq_getElem (show j < vs.length by omega)]
    · rw [List.getElem?_eq_none (by simp; omega)] at hj; cases hj
  · intro u hu
    obtain ⟨x, _, rfl⟩ := List.mem_map.1 hu
    rfl
  · intro v' w' h2 h3 _
    have h4 : w'.ownsRow B e sz v' (n + 1) ((xs ++ vs).map (Value.int .i64)) := by simpa using h2
    obtain ⟨ad', cap', rfl, h5⟩ := RowA.ofRow h4
    rw [blockOf_ownT] at h3
    exact hK ad' cap' w' h5 h3

theorem belowH_grown {w v v' : World} {ad : Option Addr} (h : BelowH w v) (hg : v.grownBy v' (blockOf ad)) (hb : ∀ b, blockOf ad = some b → w.heap.size ≤ b) : BelowH w v' :=
  BelowH.mk (h.out.grown hg h.out.size hb)

theorem rowA_cap {w : World} {T sz B n cap : Nat} {ad : Option Addr} {xs : List Int} (h : RowA w T sz B ad n cap xs) : n ≤ cap := by
  rcases h with ⟨_, rfl, rfl, _⟩ | ⟨g, _, _, hl, cur, hg, h1, _⟩
  · omega
  · exact h1

theorem rowT_empty' {g : Nat} (w : World) (T sz : Nat) (hg : g = w.heap.size) : RowT (w.alloc (.cells #[] T)) T sz g 0 0 [] := by subst hg; exact rowT_empty w T sz

/-- A kernel is handed back by a function that moves the cursor c. -/
def DrawParts (w : World) (c : Nat) (ac : Option Addr) (nc capc : Nat) (bs : List Int) (e : Ending) (w' : World) : Prop :=
  ∃ (a : Option Addr) (n cp : Nat) (ks : List Prt), e = .returned (.slice a n cp) ∧ ks.length = n ∧ kernOk ks = true ∧ RowA w' 31 3 w.heap.size a n cp (flat ks) ∧ Cur w' c ac nc capc bs ∧ w.grownBy w' (some c)

/-- A list of parts in new memory. -/
def CutParts (w wx : World) (ks : List Prt) (n : Nat) (s : Value) : Prop :=
  ∃ a c, s = .slice a n c ∧ RowA wx 31 3 w.heap.size a n c (flat ks) ∧ BelowH w wx

def wideK : List Prt := [⟨1, 0, 8⟩, ⟨2, 0, 4⟩, ⟨-2, 1, 2⟩, ⟨-1, 1, 4⟩, ⟨0, 1, 8⟩, ⟨1, 1, 4⟩, ⟨2, 1, 2⟩]

theorem one_kern {p : Prt} (h : partOk p = true) : kernOk [p] = true := by
  refine kernOk_yes (n := 1) rfl (by omega) (by omega) ?_
  rw [kernTo_succ]
  simp [kernTo, prt, placed, h]

theorem parts_len {w : World} {B n cap : Nat} {a : Option Addr} {ks : List Prt} (h : RowA w 31 3 B a n cap (flat ks)) : ks.length = n := by
  have h1 := h.len
  have h2 := flat_len ks
  omega

set_option maxRecDepth 100000 in
set_option maxHeartbeats 3200000 in
theorem spec_l4Draw (c : Nat) (ac : Option Addr) (nc capc : Nat) (bs : List Int) (w : World) (hc : Cur w c ac nc capc bs) :
    Calls Try.prog 37 #[.pointer (some ⟨c, 0, none⟩)] w (DrawParts w c ac nc capc bs) := by
  have hcl := hc.lt
  have HC := Lib.hid hc
  clear hc
  go_enter Try.func37, Try.ntmps37
  go_wp2_with fail
  refine (spec_l01Below c ac nc capc bs 4 _ HC.out (by omega) (by omega)).mono ?_
  rintro e w1 ⟨v1, rfl, a0, a1, hc1, hg1⟩
  have HC1 := Lib.hid hc1
  have G1 := Lib.hid hg1
  clear hc1 hg1
  by_cases k0 : v1 = 0
  · subst k0
    go_wp2_with fail
    refine (spec_SteinKernelA _).mono ?_
    rintro e w2 ⟨a, n, cp, rfl, ho, hn, hb⟩
    have HO := Lib.hid (ho.mono G1.out.size)
    have HC2 := Lib.hid (HC1.out.below' hb)
    have G2 := Lib.hid (grown_bel G1.out hb)
    clear ho hb
    go_wp2_with fail
    go_ret
    exact ⟨_, _, _, steinK, rfl, parts_len HO.out, by decide, HO.out, HC2.out, G2.out⟩
  · have q0 : (v1 == 0) = false := by simpa using k0
    by_cases k1 : v1 = 1
    · subst k1
      clear q0 k0
      go_wp2_with fail
      refine (spec_PlainKernelA _).mono ?_
      rintro e w2 ⟨a, n, cp, rfl, ho, hn, hb⟩
      have HO := Lib.hid (ho.mono G1.out.size)
      have HC2 := Lib.hid (HC1.out.below' hb)
      have G2 := Lib.hid (grown_bel G1.out hb)
      clear ho hb
      go_wp2_with fail
      go_ret
      exact ⟨_, _, _, plainK, rfl, parts_len HO.out, by decide, HO.out, HC2.out, G2.out⟩
    · have q1 : (v1 == 1) = false := by simpa using k1
      by_cases k2 : v1 = 2
      · subst k2
        clear q0 q1 k0 k1
        go_wp2_with fail
        go_ret
        exact ⟨_, _, _, wideK, rfl, rfl, by decide, RowA.mk (rowT_new (n := 7) (xs := flat wideK) rfl rfl (by decide)) G1.out.size, HC1.out.alloc _, grown_bel G1.out (Joins.below_alloc1 _ _)⟩
      · have q2 : (v1 == 2) = false := by simpa using k2
        clear k0 k1 k2
        go_wp2_with fail
        refine (spec_l01Below c ac nc capc bs 9 _ HC1.out (by omega) (by omega)).mono ?_
        rintro e w2 ⟨v2, rfl, b0, b1, hc2, hg2⟩
        have HC2 := Lib.hid hc2
        have G2 := Lib.hid (grown_trans G1.out hg2)
        clear hc2 hg2
        go_wp2_with fail
        refine (spec_l01Below c ac nc capc bs 4 _ (HC2.out.alloc _) (by omega) (by omega)).mono ?_
        rintro e w3 ⟨v3, rfl, d0, d1, hc3, hg3⟩
        have HC3 := Lib.hid hc3
        have HR3 := Lib.hid ((RowA.mk (rowT_new (w := w2) (T := 31) (sz := 3) (n := 1) (M := #[.int .i64 0, .int .i64 1, .int .i64 (1 + v2)]) (xs := flat [⟨0, 1, 1 + v2⟩]) rfl rfl (by decide)) G2.out.size).grown hg3 (fun k e => by cases e; exact hcl))
        have G3 := Lib.hid (grown_trans (grown_bel G2.out (Joins.below_alloc1 w2 (.cells #[.int .i64 0, .int .i64 1, .int .i64 (1 + v2)] 31))) hg3)
        have HK3 := Lib.hid (one_kern (p := ⟨0, 1, 1 + v2⟩) (by simp [partOk]; omega))
        clear hc3 hg3
        go_wp2_with fail
        go_loopw [3, 4] (fun o i wr => ∃ (k m : Nat) (a : Option Addr) (cp : Nat) (ks : List Prt), o = .slice a k cp ∧ i = .int .i64 m ∧ ks.length = k ∧ Hid (kernOk ks = true) ∧ k + m ≤ 4 ∧ RowA wr 31 3 w.heap.size a k cp (flat ks) ∧ Cur wr c ac nc capc bs ∧ w.grownBy wr (some c)) (fun _ i _ => (intOf i).toNat)
        case atStart => exact ⟨1, v3.toNat, _, _, _, rfl, by congr 1; omega, rfl, HK3, by omega, HR3.out, HC3.out, G3.out⟩
        case round =>
          obtain ⟨k, m, a, cp, ks, rfl, rfl, hl, HK, hm, ho, hcr, hgr⟩ := hrel
          have HL := Lib.hid hl
          have HO := Lib.hid ho
          have HCr := Lib.hid hcr
          have HGr := Lib.hid hgr
          obtain ⟨hk1, hk2, hkt⟩ := kernOk_bd hl HK.out
          have HZr := Lib.hid hgr.size
          clear hl ho hcr hgr hkt
          by_cases hlt : 0 < m
          · go_wp2_with fail
            refine (spec_l01Below c ac nc capc bs 9 _ HCr.out (by omega) (by omega)).mono ?_
            rintro e w4 ⟨v4, rfl, a0, a1, hc4, hg4⟩
            have HC4 := Lib.hid hc4
            have HG4 := Lib.hid (grown_trans HGr.out hg4)
            have HO4 := Lib.hid (HO.out.grown hg4 (fun k e => by cases e; exact hcl))
            clear hc4 hg4
            go_wp2_with fail
            refine (spec_l01Below c ac nc capc bs 5 _ HC4.out (by omega) (by omega)).mono ?_
            rintro e w5 ⟨v5, rfl, a2, a3, hc5, hg5⟩
            have HC5 := Lib.hid hc5
            have HG5 := Lib.hid (grown_trans HG4.out hg5)
            have HO5 := Lib.hid (HO4.out.grown hg5 (fun k e => by cases e; exact hcl))
            clear hc5 hg5
            go_wp2_with fail
            refine (spec_l01Below c ac nc capc bs 30 _ HC5.out (by omega) (by omega)).mono ?_
            rintro e w6 ⟨v6, rfl, a4, a5, hc6, hg6⟩
            have HC6 := Lib.hid hc6
            have HG6 := Lib.hid (grown_trans HG5.out hg6)
            have HO6 := Lib.hid (HO5.out.grown hg6 (fun k e => by cases e; exact hcl))
            clear hc6 hg6
            go_upto_region 13 with fail
            obtain ⟨X, hX⟩ : ∃ X, X = v4 - 4 := ⟨_, rfl⟩
            obtain ⟨T, hT⟩ : ∃ T, T = 1 + v6 := ⟨_, rfl⟩
            rw [← hX, ← hT]
            obtain ⟨Y, hY⟩ : ∃ Y, Y = v5 := ⟨_, rfl⟩
            rw [← hY]
            clear hX hT hY a0 a1 a2 a3 a4 a5
            obtain ⟨wo, hwo⟩ : ∃ wo, wo = w6.alloc (.cells #[.int .i64 X, .int .i64 Y, .int .i64 T] 31) := ⟨_, rfl⟩
            have KP := Lib.hid (Blk.new w6 31 #[.int .i64 X, .int .i64 Y, .int .i64 T])
            have HCo := Lib.hid (HC6.out.alloc (.cells #[.int .i64 X, .int .i64 Y, .int .i64 T] 31))
            have HGo := Lib.hid (grown_bel HG6.out (Joins.below_alloc1 w6 (.cells #[.int .i64 X, .int .i64 Y, .int .i64 T] 31)))
            have HOo := Lib.hid (HO6.out.alloc (.cells #[.int .i64 X, .int .i64 Y, .int .i64 T] 31))
            rw [← hwo] at KP HCo HGo HOo ⊢
            clear hwo
            have HF := Lib.hid (flat_len ks)
            have HAP := Lib.hid HOo.out.rd
            obtain ⟨ba, oa, hae, hal, _⟩ := HAP.out.at (by have := HF.out; have := HL.out; omega)
            subst hae
            go_cut [6] (fun s6 wx => CutParts wo wx (ks ++ [⟨X, Y, T⟩]) (k + 1) s6)
            case first =>
              obtain ⟨l0, o0, o1, o2⟩ := KP.out.c3
              have MK : Hid (∀ v, BelowH wo v → v.cell? ⟨w6.heap.size, 0, none⟩ = some (.int .i64 X) ∧ v.cell? ⟨w6.heap.size, 1, none⟩ = some (.int .i64 Y) ∧ v.cell? ⟨w6.heap.size, 2, none⟩ = some (.int .i64 T) ∧ BelowH wo v) := Lib.hid (fun v hB => ⟨(hB.out.cell l0).trans o0, (hB.out.cell l0).trans o1, (hB.out.cell l0).trans o2, hB⟩)
              refine wp_region_held_drew (S := fun v => v.cell? ⟨w6.heap.size, 0, none⟩ = some (.int .i64 X) ∧ v.cell? ⟨w6.heap.size, 1, none⟩ = some (.int .i64 Y) ∧ v.cell? ⟨w6.heap.size, 2, none⟩ = some (.int .i64 T) ∧ BelowH wo v) (by kernel_rfl) (MK.out _ (BelowH.start _)) ?_
              intro hHeld
              have hb0 := held4 hHeld
              (refine' wpAnyH_take (i := 1) (v := ?_) rfl (by kernel_rfl) (by kernel_rfl) (by kernel_rfl) (fun _ _ _ h => h) (Or.inl ⟨by rfl, ?_⟩) (by assumption) ?_; rotate_left; (· (intro w hSw; (try dsimp only at hSw); go_simp; try with_reducible rfl)); (try simp only [Act.put, List.setIfInBounds_toArray, List.set_cons_zero, List.set_cons_succ]))
              (refine' wpAnyH_take (i := 3) (v := ?_) rfl (by kernel_rfl) (by kernel_rfl) (by kernel_rfl) (fun _ _ _ h => h) (Or.inl ⟨by rfl, ?_⟩) (by assumption) ?_; rotate_left; (· (intro w hSw; (try dsimp only at hSw); go_simp; try with_reducible rfl)); (try simp only [Act.put, List.setIfInBounds_toArray, List.set_cons_zero, List.set_cons_succ]))
              refine wpAnyH_ready (rs := [0, 4]) (by kernel_rfl) (by simp) ?_
              refine AllReadyH.cons rfl (fun K hK => ?_) (AllReadyH.cons rfl (fun K hK => ?_) AllReadyH.nil)
              · have hb1 := BelowH.alloc hb0 (.cells #[] 31)
                have hz0 := BelowH.le hb0
                go_simp
                refine hK.out _ _ (by (try dsimp only); exact MK.out _ hb1) (fun hHeld => ?_)
                clear hK K
                refine wpAnyH_ready (rs := [2, 4]) (by kernel_rfl) (by simp) ?_
                refine AllReadyH.cons rfl (fun K hK => ?_) (AllReadyH.cons rfl (fun K hK => ?_) AllReadyH.nil)
                · skip
                  refine step_cloneT _ rfl 23 31 3 24 (zeros 3) Try.underlying23 infoPart rfl (by decide) (by decide) (.tmp 45) (.tmp 46) rfl wo.heap.size 0 _ rfl ((RowA.mk (rowT_empty wo _ _) (Nat.le_refl _)).drew) ba oa k cp (flat ks) rfl (by have := HF.out; have := HL.out; omega) (fun j hj => by
                    obtain ⟨b2, o2', h3, h4, h5⟩ := (HAP.out.below (BelowH.out hb1)).at (by have := HF.out; have := HL.out; omega)
                    cases h3
                    exact h5 j (by have := HF.out; have := HL.out; omega)) (by omega) (BelowH.le hb1) ?_
                  intro ad2 cp2 v2 ho2 hg2
                  have hb2 := belowH_grown hb1 hg2 (fun b hb => by simp [blockOf] at hb; simp at hz0; omega)
                  (try dsimp only)
                  refine hK.out _ _ (by (try dsimp only); exact MK.out _ hb2) (fun hHeld => ?_)
                  clear hK K
                  refine wpAnyH_ready (rs := [4]) (by kernel_rfl) (by simp) ?_
                  refine AllReadyH.cons rfl (fun K hK => ?_) AllReadyH.nil
                  go_simp
                  have hb3 := BelowH.alloc hb2 (.cells #[.int .i64 X, .int .i64 Y, .int .i64 T] 31)
                  refine hK.out _ _ (by (try dsimp only); exact MK.out _ hb3) (fun hHeld => ?_)
                  clear hK K
                  refine wpAnyH_ready (rs := [5]) (by kernel_rfl) (by simp) ?_
                  refine AllReadyH.cons rfl (fun K hK => ?_) AllReadyH.nil
                  refine step_appendT _ rfl 23 31 3 24 Try.underlying23 infoPart (by decide) (by decide) (.tmp 47) (.tmp 49) rfl wo.heap.size k cp2 ad2 (flat ks) rfl (ho2.alloc _) _ (Prt.nums ⟨X, Y, T⟩) rfl rfl (fun j hj => by
                    rw [(Blk.new v2 31 #[.int .i64 X, .int .i64 Y, .int .i64 T]).cell j]
                    match j, hj with
                    | 0, _ => rfl
                    | 1, _ => rfl
                    | 2, _ => rfl) (by omega) (BelowH.le hb3) ?_
                  intro ad3 cp3 v4 ho3 hg3
                  have hb4 := belowH_grown hb3 hg3 (fun b hb => ((ho2).bd b hb).1)
                  (try dsimp only)
                  refine hK.out _ _ (by (try dsimp only); exact MK.out _ hb4) (fun hHeld => ?_)
                  clear hK K
                  (refine' wpAnyH_take (i := 6) (v := ?_) rfl (by kernel_rfl) (by kernel_rfl) (by kernel_rfl) (fun _ _ _ h => h) (Or.inl ⟨by rfl, ?_⟩) (by assumption) ?_; rotate_left; (· (intro w hSw; (try dsimp only at hSw); go_simp; try with_reducible rfl)); (try simp only [Act.put, List.setIfInBounds_toArray, List.set_cons_zero, List.set_cons_succ]))
                  refine wpAnyH_done (by kernel_rfl) ?_ _
                  (try go_simp)
                  go_wp2_with fail
                  go_meet
                  exact ⟨_, _, rfl, by rw [flat_append]; exact ho3, hb4⟩
                · go_simp
                  have hb2 := BelowH.alloc hb1 (.cells #[.int .i64 X, .int .i64 Y, .int .i64 T] 31)
                  refine hK.out _ _ (by (try dsimp only); exact MK.out _ hb2) (fun hHeld => ?_)
                  clear hK K
                  refine wpAnyH_ready (rs := [2]) (by kernel_rfl) (by simp) ?_
                  refine AllReadyH.cons rfl (fun K hK => ?_) AllReadyH.nil
                  refine step_cloneT _ rfl 23 31 3 24 (zeros 3) Try.underlying23 infoPart rfl (by decide) (by decide) (.tmp 45) (.tmp 46) rfl wo.heap.size 0 _ rfl (((RowA.mk (rowT_empty wo _ _) (Nat.le_refl _)).alloc _).drew) ba oa k cp (flat ks) rfl (by have := HF.out; have := HL.out; omega) (fun j hj => by
                    obtain ⟨b2, o2', h3, h4, h5⟩ := (HAP.out.below (BelowH.out hb2)).at (by have := HF.out; have := HL.out; omega)
                    cases h3
                    exact h5 j (by have := HF.out; have := HL.out; omega)) (by omega) (BelowH.le hb2) ?_
                  intro ad2 cp2 v3 ho2 hg2
                  have hb3 := belowH_grown hb2 hg2 (fun b hb => by simp [blockOf] at hb; simp at hz0; omega)
                  (try dsimp only)
                  refine hK.out _ _ (by (try dsimp only); exact MK.out _ hb3) (fun hHeld => ?_)
                  clear hK K
                  refine wpAnyH_ready (rs := [5]) (by kernel_rfl) (by simp) ?_
                  refine AllReadyH.cons rfl (fun K hK => ?_) AllReadyH.nil
                  refine step_appendT _ rfl 23 31 3 24 Try.underlying23 infoPart (by decide) (by decide) (.tmp 47) (.tmp 49) rfl wo.heap.size k cp2 ad2 (flat ks) rfl (ho2) _ (Prt.nums ⟨X, Y, T⟩) rfl rfl (fun j hj => by
                    rw [(((Blk.new' (g := wo.heap.size + 1) (w := wo.alloc (.cells #[] 31)) 31 #[.int .i64 X, .int .i64 Y, .int .i64 T] (by simp)).drew).grown hg2 (by simp [blockOf])).cell j]
                    match j, hj with
                    | 0, _ => rfl
                    | 1, _ => rfl
                    | 2, _ => rfl) (by omega) (BelowH.le hb3) ?_
                  intro ad3 cp3 v4 ho3 hg3
                  have hb4 := belowH_grown hb3 hg3 (fun b hb => ((ho2).bd b hb).1)
                  (try dsimp only)
                  refine hK.out _ _ (by (try dsimp only); exact MK.out _ hb4) (fun hHeld => ?_)
                  clear hK K
                  (refine' wpAnyH_take (i := 6) (v := ?_) rfl (by kernel_rfl) (by kernel_rfl) (by kernel_rfl) (fun _ _ _ h => h) (Or.inl ⟨by rfl, ?_⟩) (by assumption) ?_; rotate_left; (· (intro w hSw; (try dsimp only at hSw); go_simp; try with_reducible rfl)); (try simp only [Act.put, List.setIfInBounds_toArray, List.set_cons_zero, List.set_cons_succ]))
                  refine wpAnyH_done (by kernel_rfl) ?_ _
                  (try go_simp)
                  go_wp2_with fail
                  go_meet
                  exact ⟨_, _, rfl, by rw [flat_append]; exact ho3, hb4⟩
              · have hb1 := BelowH.alloc hb0 (.cells #[.int .i64 X, .int .i64 Y, .int .i64 T] 31)
                have hz0 := BelowH.le hb0
                go_simp
                refine hK.out _ _ (by (try dsimp only); exact MK.out _ hb1) (fun hHeld => ?_)
                clear hK K
                refine wpAnyH_ready (rs := [0]) (by kernel_rfl) (by simp) ?_
                refine AllReadyH.cons rfl (fun K hK => ?_) AllReadyH.nil
                go_simp
                have hb2 := BelowH.alloc hb1 (.cells #[] 31)
                refine hK.out _ _ (by (try dsimp only); exact MK.out _ hb2) (fun hHeld => ?_)
                clear hK K
                refine wpAnyH_ready (rs := [2]) (by kernel_rfl) (by simp) ?_
                refine AllReadyH.cons rfl (fun K hK => ?_) AllReadyH.nil
                refine step_cloneT _ rfl 23 31 3 24 (zeros 3) Try.underlying23 infoPart rfl (by decide) (by decide) (.tmp 45) (.tmp 46) rfl wo.heap.size 0 _ rfl ((RowA.mk (rowT_empty' (g := wo.heap.size + 1) (wo.alloc (.cells #[.int .i64 X, .int .i64 Y, .int .i64 T] 31)) _ _ (by simp)) (by omega)).drew) ba oa k cp (flat ks) rfl (by have := HF.out; have := HL.out; omega) (fun j hj => by
                  obtain ⟨b2, o2', h3, h4, h5⟩ := (HAP.out.below (BelowH.out hb2)).at (by have := HF.out; have := HL.out; omega)
                  cases h3
                  exact h5 j (by have := HF.out; have := HL.out; omega)) (by omega) (BelowH.le hb2) ?_
                intro ad2 cp2 v3 ho2 hg2
                have hb3 := belowH_grown hb2 hg2 (fun b hb => by simp [blockOf] at hb; simp at hz0; omega)
                (try dsimp only)
                refine hK.out _ _ (by (try dsimp only); exact MK.out _ hb3) (fun hHeld => ?_)
                clear hK K
                refine wpAnyH_ready (rs := [5]) (by kernel_rfl) (by simp) ?_
                refine AllReadyH.cons rfl (fun K hK => ?_) AllReadyH.nil
                refine step_appendT _ rfl 23 31 3 24 Try.underlying23 infoPart (by decide) (by decide) (.tmp 47) (.tmp 49) rfl wo.heap.size k cp2 ad2 (flat ks) rfl (ho2) _ (Prt.nums ⟨X, Y, T⟩) rfl rfl (fun j hj => by
                  rw [((((Blk.new wo 31 #[.int .i64 X, .int .i64 Y, .int .i64 T]).alloc (.cells #[] 31)).drew).grown hg2 (by simp [blockOf])).cell j]
                  match j, hj with
                  | 0, _ => rfl
                  | 1, _ => rfl
                  | 2, _ => rfl) (by omega) (BelowH.le hb3) ?_
                intro ad3 cp3 v4 ho3 hg3
                have hb4 := belowH_grown hb3 hg3 (fun b hb => ((ho2).bd b hb).1)
                (try dsimp only)
                refine hK.out _ _ (by (try dsimp only); exact MK.out _ hb4) (fun hHeld => ?_)
                clear hK K
                (refine' wpAnyH_take (i := 6) (v := ?_) rfl (by kernel_rfl) (by kernel_rfl) (by kernel_rfl) (fun _ _ _ h => h) (Or.inl ⟨by rfl, ?_⟩) (by assumption) ?_; rotate_left; (· (intro w hSw; (try dsimp only at hSw); go_simp; try with_reducible rfl)); (try simp only [Act.put, List.setIfInBounds_toArray, List.set_cons_zero, List.set_cons_succ]))
                refine wpAnyH_done (by kernel_rfl) ?_ _
                (try go_simp)
                go_wp2_with fail
                go_meet
                exact ⟨_, _, rfl, by rw [flat_append]; exact ho3, hb4⟩
            case rest =>
              obtain ⟨a2, c2, rfl, ho, hb⟩ := hcut
              have HB2 := Lib.hid hb.out
              have HO2 := Lib.hid ho
              have HC2' := Lib.hid (HCo.out.below' hb.out)
              have HG2 := Lib.hid (grown_bel HGo.out hb.out)
              have HOk := Lib.hid (HOo.out.below' hb.out)
              have HL2 : Hid ((ks ++ [(⟨X, Y, T⟩ : Prt)]).length = k + 1) := Lib.hid (by simp; exact HL.out)
              clear ho hb
              go_wp2_with fail
              refine (spec_IsKernel a2 (k + 1) c2 (ks ++ [⟨X, Y, T⟩]) _ HL2.out (by exact HO2.out.rd) (by omega) (rowA_cap HO2.out)).mono ?_
              rintro e w7 ⟨rfl, hb⟩
              have HO7 := Lib.hid ((HO2.out.below' hb).mono (HGo.out.size))
              have HOk7 := Lib.hid (HOk.out.below' hb)
              have HC7 := Lib.hid (HC2'.out.below' hb)
              have HG7 := Lib.hid (grown_bel HG2.out hb)
              clear hb
              by_cases hm2 : kernOk (ks ++ [⟨X, Y, T⟩]) = true
              · have HM := Lib.hid hm2
                rw [hm2]
                clear hm2
                go_wp2_with fail
                go_roundw
                case rel => exact ⟨k + 1, m - 1, a2, c2, _, rfl, by congr 1; omega, HL2.out, HM, by omega, HO7.out, HC7.out, HG7.out⟩
                case measure => simp [intOf]; omega
              · have hm3 : kernOk (ks ++ [⟨X, Y, T⟩]) = false := by simpa using hm2
                rw [hm3]
                clear hm2 hm3
                go_wp2_with fail
                go_roundw
                case rel => exact ⟨k, m - 1, _, cp, ks, rfl, by congr 1; omega, HL.out, HK, by omega, HOk7.out, HC7.out, HG7.out⟩
                case measure => simp [intOf]; omega
          · go_wp2_with fail
            go_ret
            exact ⟨_, _, _, ks, rfl, HL.out, HK.out, HO.out, HCr.out, HGr.out⟩

/-- Some kernel is handed back. -/
def KernMade (w : World) (e : Ending) (w' : World) : Prop :=
  ∃ (a : Option Addr) (n cp : Nat) (ks : List Prt), e = .returned (.slice a n cp) ∧ ks.length = n ∧ kernOk ks = true ∧ RowA w' 31 3 w.heap.size a n cp (flat ks) ∧ Below w.heap.size w w'

set_option maxHeartbeats 800000 in
theorem spec_MakeKernel (ac : Option Addr) (nc capc : Nat) (bs : List Int) (w : World) (hl : bs.length = nc) (hr : RdU w.heap.size w ac bs) (hn : nc ≤ 4611686018427387904) :
    Calls Try.prog 11 #[.slice ac nc capc] w (KernMade w) := by
  go_enter Try.func11, Try.ntmps11
  go_wp2_with fail
  refine (spec_l01New ac nc capc bs _ hl hr hn).mono ?_
  rintro e w1 ⟨c, rfl, hcs, hc1, hb1⟩
  have HB1 := Lib.hid hb1
  clear hb1
  go_wp2_with fail
  refine (spec_l4Draw c ac nc capc bs _ hc1).mono ?_
  rintro e w2 ⟨a, n, cp, ks, rfl, hl2, hk, ho, hc2, hg2⟩
  have HB2 := Lib.hid (grown_to_below HB1.out hg2 (by omega))
  have HO := Lib.hid (ho.mono HB1.out.size)
  have HK := Lib.hid hk
  have HL := Lib.hid hl2
  clear ho hk hg2 hc1 hc2 hl2
  go_wp2_with fail
  go_ret
  exact ⟨_, _, _, ks, rfl, HL.out, HK.out, HO.out, HB2.out⟩

end Go.Proofs.Ytepaklcobkdfdaa
