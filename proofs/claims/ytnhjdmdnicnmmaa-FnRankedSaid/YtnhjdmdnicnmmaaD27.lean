/-
  Contracts of the program's spread: the dots of a plate, and the least distance among them.
-/
import Derived.Test.YtnhjdmdnicnmmaaD26
import Derived.Test.YtnhjdmdnicnmmaaK1
import Derived.Deep.Cut
namespace Go.Proofs.Ytnhjdmdnicnmmaa
open Go.RowKit
set_option linter.unusedVariables false
set_option linter.unusedSimpArgs false

/-- 'xs = append(xs, v)', v a struct of numbers, at a step of a region that draws. -/
theorem step_appendC {P : Program} (w : World) {ops : Array Oper} {o : Oper} {a : Act} {K : Act → World → Prop} {Q : Exit → Act → World → Prop} {E : Prop}
    (hgd : o.guard = none) (t e sz bytes : Nat) (ht : P.underlying t = some (.slice e)) (hi0 : (P.info? e).map (fun i => (i.zero, i.size, i.bytes)) = some (some (zeros sz), sz, bytes)) (hsz : 1 ≤ sz) (hby : bytes ≤ 4096)
    (s x : Operand) (hop : o.op = .call { callee := .builtin .append, args := #[s, x], argTypes := #[t, t] })
    (B n cap : Nat) (ad : Option Addr) (xs : List Int) (hs : a.eval s = .slice ad n cap) (ho : RowA w e sz B ad n cap xs) (g : Nat) (vs : List Int) (hx : a.eval x = .slice (some ⟨g, 0, none⟩) 1 1)
    (hv : vs.length = sz) (hc : ∀ j, j < sz → w.cell? ⟨g, j, none⟩ = some (.int .i64 (vs.getD j 0))) (hn : n ≤ 1048576) (hB : B ≤ w.heap.size)
    (hK : ∀ ad' cap' w', RowA w' e sz B ad' (n + 1) cap' (xs ++ vs) → w.grownBy w' (blockOf ad) → K (a.put o.dst (.slice ad' (n + 1) cap')) w') :
    if Region.wanted o (yielded ops a.tmps) = true then Oper.wp P o a w K Q else E := by
  have hw : Region.wanted o (yielded ops a.tmps) = true := by simp [Region.wanted, hgd]
  rw [if_pos hw]
  obtain ⟨i, hi, hz0, hz1, hz2⟩ := info_parts hi0
  have m1 : (n + 1) * bytes ≤ 1048577 * 4096 := Nat.mul_le_mul (by omega) hby
  refine wp_append_own w s x t hop B e i (zeros sz) sz bytes ht hi hz0 hz1 hz2 (by simp [zeros, Value.cells]) (by omega) _ n (xs.map (Value.int .i64)) hs ho.toRow ⟨g, 0, none⟩ 1 1 (vs.map (Value.int .i64)) hx (by simp [hv]) ?_ ?_ (by unfold maxLen; omega) (by omega) hB ?_
  · intro j u hj
    by_cases hjs : j < sz
    · have := hc j hjs
      rw [List.getElem?_map, List.getElem?_eq_getElem (by omega)] at hj
      simp only [Option.map_some, Option.some.injEq] at hj
      subst hj
      rw [show (Addr.mk g 0 none).add j = ⟨g, j, none⟩ by rw [Addr.add_lit]; simp, this]
      simp [List.getD, List.getElem?_eq_getElem (show j < vs.length by omega)]
    · rw [List.getElem?_eq_none (by simp; omega)] at hj; cases hj
  · intro u hu
    obtain ⟨x, _, rfl⟩ := List.mem_map.1 hu
    rfl
  · intro v' w' h2 h3 _
    have h4 : w'.ownsRow B e sz v' (n + 1) ((xs ++ vs).map (Value.int .i64)) := by simpa using h2
    obtain ⟨ad', cap', rfl, h5⟩ := RowA.ofRow h4
    rw [blockOf_ownT] at h3
    exact hK ad' cap' w' h5 h3

/-- The places of the dots among the first k points. -/
def onesTo (xs : List Int) (k : Nat) : List Nat := (List.range k).filter (fun i => decide (xs.getD i 0 = 1))
/-- The numbers of a list of places. -/
def flatC (W : Int) (ls : List Nat) : List Int := ls.flatMap (fun (i : Nat) => [(i : Int) % W, (i : Int) / W])

theorem ones_yes {xs : List Int} {k : Nat} (h : xs.getD k 0 = 1) : onesTo xs (k + 1) = onesTo xs k ++ [k] := by
  unfold onesTo
  rw [List.range_succ, List.filter_append]
  simp [List.getD] at h ⊢
  simp [h]

theorem ones_no {xs : List Int} {k : Nat} (h : ¬ xs.getD k 0 = 1) : onesTo xs (k + 1) = onesTo xs k := by
  unfold onesTo
  rw [List.range_succ, List.filter_append]
  simp [List.getD] at h ⊢
  simp [h]

theorem ones_mem {xs : List Int} {k i : Nat} : i ∈ onesTo xs k ↔ i < k ∧ xs.getD i 0 = 1 := by
  unfold onesTo; simp

theorem ones_len (xs : List Int) (k : Nat) : (onesTo xs k).length ≤ k := by
  unfold onesTo
  have := List.length_filter_le (fun i => decide (xs.getD i 0 = 1)) (List.range k)
  simpa using this

theorem flatC_len (W : Int) (ls : List Nat) : (flatC W ls).length = ls.length * 2 := by
  induction ls with
  | nil => rfl
  | cons a r ih => unfold flatC at ih ⊢; simp only [List.flatMap_cons, List.length_append, ih]; simp; omega

theorem flatC_snoc (W : Int) (ls : List Nat) (k : Nat) : flatC W (ls ++ [k]) = flatC W ls ++ [(k : Int) % W, (k : Int) / W] := by
  unfold flatC; simp

theorem flatC_at (W : Int) : ∀ (ls : List Nat) (k : Nat), k < ls.length → (flatC W ls).getD (k * 2) 0 = ((ls.getD k 0 : Nat) : Int) % W ∧ (flatC W ls).getD (k * 2 + 1) 0 = ((ls.getD k 0 : Nat) : Int) / W
  | [], k, h => by simp at h
  | a :: r, 0, h => by simp [flatC]
  | a :: r, k + 1, h => by
    have ih := flatC_at W r k (by simpa using h)
    have e1 : (k + 1) * 2 = k * 2 + 1 + 1 := by omega
    have e2 : flatC W (a :: r) = (a : Int) % W :: (a : Int) / W :: flatC W r := by simp [flatC]
    rw [e2, e1]
    simpa using ih

/-- The cells of a place, as the walk reads them. -/
theorem rd_place {w : World} {ad : Option Addr} {W : Int} {ls : List Nat} (h : Rd w ad (flatC W ls)) {k : Nat} (hk : k < ls.length) :
    ∃ b off, ad = some ⟨b, off, none⟩ ∧ b < w.heap.size ∧ w.cell? ⟨b, off + k * 2, none⟩ = some (.int .i64 (((ls.getD k 0 : Nat) : Int) % W)) ∧ w.cell? ⟨b, off + k * 2 + 1, none⟩ = some (.int .i64 (((ls.getD k 0 : Nat) : Int) / W)) := by
  have hl := flatC_len W ls
  obtain ⟨b, off, h1, h2, h3⟩ := h.at (by omega)
  obtain ⟨e1, e2⟩ := flatC_at W ls k hk
  refine ⟨b, off, h1, h2, ?_, ?_⟩
  · rw [← e1]; exact h3 _ (by omega)
  · rw [← e2, Nat.add_assoc]; exact h3 _ (by omega)

set_option maxRecDepth 100000 in
set_option maxHeartbeats 3200000 in
theorem impl_dotsOf (W H : Int) (ad : Option Addr) (n cap : Nat) (xs : List Int) (w : World) (hn : xs.length = n) (ha : Rd w ad xs) (hp : PlateB ⟨W, H, xs⟩) :
    Calls Try.prog 50 #[.agg #[.int .i64 W, .int .i64 H, .slice ad n cap]] w fun e w' =>
      ∃ a d c, e = .returned (.slice a d c) ∧ (onesTo xs n).length = d ∧ RowA w' 74 2 w.heap.size a d c (flatC W (onesTo xs n)) ∧ Below w.heap.size w w' := by
  have HN := Lib.hid hn
  have HP := Lib.hid hp
  have RD2 := Lib.hid (ha.alloc (.cells #[.int .i64 W, .int .i64 H, .slice ad n cap] 25))
  have KM2 := Lib.hid (Blk.new w 25 #[.int .i64 W, .int .i64 H, .slice ad n cap])
  have HB2 := Lib.hid (Joins.below_alloc1 w (.cells #[.int .i64 W, .int .i64 H, .slice ad n cap] 25))
  have nb : n ≤ 256 := by
    rcases hp with h | ⟨h1, h2, h3, h4, h5, h6⟩
    · simp only [] at h; rw [h] at hn; simp at hn; omega
    · simp only [] at h6; omega
  clear hn ha hp
  go_enter Try.func50, Try.ntmps50
  obtain ⟨w2, hw2⟩ : ∃ w2, w2 = w.alloc (.cells #[.int .i64 W, .int .i64 H, .slice ad n cap] 25) := ⟨_, rfl⟩
  have HSZ : Hid (w.heap.size < w2.heap.size) := Lib.hid (by rw [hw2]; exact KM2.out.lt)
  rw [← hw2] at RD2 KM2 HB2
  go_wp2_with fail
  rw [← hw2]
  clear hw2
  go_loopw [3, 9] (fun r i wr => ∃ (k d cp : Nat) (a : Option Addr), k ≤ n ∧ i = .int .i64 k ∧ r = .slice a d cp ∧ (onesTo xs k).length = d ∧ RowA wr 74 2 w2.heap.size a d cp (flatC W (onesTo xs k)) ∧ Below w2.heap.size w2 wr) (fun _ i _ => n - (intOf i).toNat)
  case atStart => exact ⟨0, 0, 0, none, Nat.zero_le _, rfl, rfl, rfl, RowA.none _ _ _ _, Below.refl _ _⟩
  case round =>
    obtain ⟨k, d, cp, a, hk, rfl, rfl, hd, ho, hwr⟩ := hrel
    have HD := Lib.hid hd
    have HO := Lib.hid ho
    have HWr := Lib.hid hwr
    have KMr := Lib.hid (KM2.out.below' hwr)
    have RDr := Lib.hid (RD2.out.below hwr)
    clear hwr hd ho
    obtain ⟨l0, o0, o1, o2⟩ := KMr.out.c3
    by_cases hlt : k < n
    · obtain ⟨ba, oa, hae, hal, hac⟩ := RDr.out.at (by have := HN.out; omega)
      subst hae
      have g1 := hac k (by have := HN.out; omega)
      obtain ⟨V, hV⟩ : ∃ V, xs.getD k 0 = V := ⟨_, rfl⟩
      rw [hV] at g1
      have HV := Lib.hid hV
      clear hV hac
      by_cases hv1 : V = 1
      · subst hv1
        obtain ⟨b1, b2, b3, b4, b5, b6⟩ : 1 ≤ W ∧ W ≤ 256 ∧ 1 ≤ H ∧ H ≤ 256 ∧ (n : Int) = W * H ∧ n ≤ 256 := by
          rcases HP.out with h | ⟨h1, h2, h3, h4, h5, h6⟩
          · have := HN.out; simp only [] at h; rw [h] at this; simp at this; omega
          · have := HN.out; simp only [] at h5 h6; rw [this] at h5 h6; exact ⟨h1, h2, h3, h4, h5, h6⟩
        have B5 := Lib.hid b5
        obtain ⟨P, Q, hP, hQ, tP, tQ, p0, p1, q0, q1⟩ := place_bd b1 b2 b5 b6 hlt
        clear b5
        have u1 : IntKind.i64.wrap P = P := IntWalk.i64_in _ (by omega)
        have u2 : IntKind.i64.wrap Q = Q := IntWalk.i64_in _ (by omega)
        have z1 : ¬ W = 0 := by omega
        have z2 : (W == 0) = false := by simp; omega
        have EQ : Hid (flatC W (onesTo xs (k + 1)) = flatC W (onesTo xs k) ++ [P, Q]) := Lib.hid (by rw [ones_yes HV.out, flatC_snoc, hP, hQ])
        have EL : Hid ((onesTo xs (k + 1)).length = d + 1) := Lib.hid (by rw [ones_yes HV.out, List.length_append, HD.out]; rfl)
        have dle : d ≤ k := by rw [← HD.out]; exact ones_len _ _
        clear hP hQ
        have SZr := Lib.hid HWr.out.size
        go_upto_region 6 with fail
        refine wp_region_held_drew (S := fun v => v.cell? ⟨w.heap.size, 0, none⟩ = some (.int .i64 W)) (by kernel_rfl) o0 ?_
        intro hHeld
        (refine' wpAnyH_take (i := 0) (v := ?_) rfl (by kernel_rfl) (by kernel_rfl) (by kernel_rfl) (fun _ _ _ h => h) (Or.inl ⟨by rfl, ?_⟩) (by assumption) ?_; rotate_left; (· (intro w hSw; (try dsimp only at hSw); go_simp; try with_reducible rfl)); (try simp only [Act.put, List.setIfInBounds_toArray, List.set_cons_zero, List.set_cons_succ]))
        (refine' wpAnyH_take (i := 1) (v := ?_) rfl (by kernel_rfl) (by kernel_rfl) (by kernel_rfl) (fun _ _ _ h => h) (Or.inl ⟨by rfl, ?_⟩) (by assumption) ?_; rotate_left; (· (intro w hSw; (try dsimp only at hSw); go_simp; try with_reducible rfl)); (try simp only [Act.put, List.setIfInBounds_toArray, List.set_cons_zero, List.set_cons_succ]))
        (refine' wpAnyH_take (i := 2) (v := ?_) rfl (by kernel_rfl) (by kernel_rfl) (by kernel_rfl) (fun _ _ _ h => h) (Or.inl ⟨by rfl, ?_⟩) (by assumption) ?_; rotate_left; (· (intro w hSw; (try dsimp only at hSw); go_simp; try with_reducible rfl)); (try simp only [Act.put, List.setIfInBounds_toArray, List.set_cons_zero, List.set_cons_succ]))
        (refine' wpAnyH_take (i := 3) (v := ?_) rfl (by kernel_rfl) (by kernel_rfl) (by kernel_rfl) (fun _ _ _ h => h) (Or.inl ⟨by rfl, ?_⟩) (by assumption) ?_; rotate_left; (· (intro w hSw; (try dsimp only at hSw); go_simp; try with_reducible rfl)); (try simp only [Act.put, List.setIfInBounds_toArray, List.set_cons_zero, List.set_cons_succ]))
        (refine' wpAnyH_take (i := 4) (v := ?_) rfl (by kernel_rfl) (by kernel_rfl) (by kernel_rfl) (fun _ _ _ h => h) (Or.inl ⟨by rfl, ?_⟩) (by assumption) ?_; rotate_left; (· (intro w hSw; (try dsimp only at hSw); go_simp; try with_reducible rfl)); (try simp only [Act.put, List.setIfInBounds_toArray, List.set_cons_zero, List.set_cons_succ]))
        (refine' wpAnyH_take (i := 5) (v := ?_) rfl (by kernel_rfl) (by kernel_rfl) (by kernel_rfl) (fun _ _ _ h => h) (Or.inl ⟨by rfl, ?_⟩) (by assumption) ?_; rotate_left; (· (intro w hSw; (try dsimp only at hSw); go_simp; try with_reducible rfl)); (try simp only [Act.put, List.setIfInBounds_toArray, List.set_cons_zero, List.set_cons_succ]))
        (refine' wpAnyH_take (i := 6) (v := ?_) rfl (by kernel_rfl) (by kernel_rfl) (by kernel_rfl) (fun _ _ _ h => h) (Or.inl ⟨by rfl, ?_⟩) (by assumption) ?_; rotate_left; (· (intro w hSw; (try dsimp only at hSw); go_simp; try with_reducible rfl)); (try simp only [Act.put, List.setIfInBounds_toArray, List.set_cons_zero, List.set_cons_succ]))
        (refine' wpAnyH_take (i := 7) (v := ?_) rfl (by kernel_rfl) (by kernel_rfl) (by kernel_rfl) (fun _ _ _ h => h) (Or.inl ⟨by rfl, ?_⟩) (by assumption) ?_; rotate_left; (· (intro w hSw; (try dsimp only at hSw); go_simp; try with_reducible rfl)); (try simp only [Act.put, List.setIfInBounds_toArray, List.set_cons_zero, List.set_cons_succ]))
        (refine' wpAnyH_take (i := 8) (v := ?_) rfl (by kernel_rfl) (by kernel_rfl) (by kernel_rfl) (fun _ _ _ h => h) (Or.inl ⟨by rfl, ?_⟩) (by assumption) ?_; rotate_left; (· (intro w hSw; (try dsimp only at hSw); go_simp; try with_reducible rfl)); (try simp only [Act.put, List.setIfInBounds_toArray, List.set_cons_zero, List.set_cons_succ]))
        (refine' wpAnyH_take (i := 9) (v := ?_) rfl (by kernel_rfl) (by kernel_rfl) (by kernel_rfl) (fun _ _ _ h => h) (Or.inl ⟨by rfl, ?_⟩) (by assumption) ?_; rotate_left; (· (intro w hSw; (try dsimp only at hSw); go_simp; try with_reducible rfl)); (try simp only [Act.put, List.setIfInBounds_toArray, List.set_cons_zero, List.set_cons_succ]))
        refine wpAnyH_ready (rs := [10]) (by kernel_rfl) (by simp) ?_
        refine AllReadyH.cons rfl (fun K hK => ?_) AllReadyH.nil
        go_simp
        refine hK.out _ _ (by (try dsimp only); exact cell_al o0) (fun hHeld => ?_)
        clear hK K
        refine wpAnyH_ready (rs := [11]) (by kernel_rfl) (by simp) ?_
        refine AllReadyH.cons rfl (fun K hK => ?_) AllReadyH.nil
        refine step_appendC _ rfl 71 74 2 16 Try.underlying71 infoCell (by decide) (by decide) (.tmp 16) (.tmp 26) rfl w2.heap.size d cp a (flatC W (onesTo xs k)) rfl ((HO.out.alloc _).drew) _ [P, Q] rfl rfl (fun j hj => by
          refine ((Blk.new wr 74 #[.int .i64 P, .int .i64 Q]).cell j).trans ?_
          match j, hj with
          | 0, _ => rfl
          | 1, _ => rfl) (by omega) (by have := SZr.out; simp; omega) ?_
        intro ad3 cp3 w4 ho3 hg3
        have KM4 := ((KMr.out.alloc (.cells #[.int .i64 P, .int .i64 Q] 74)).drew).grownS hg3 (fun b hb => by have := HO.out.bd b hb; have := HSZ.out; omega)
        have HB4 := Lib.hid (((HWr.out.alloc SZr.out (.cells #[.int .i64 P, .int .i64 Q] 74)).drew).grown hg3 (by have := SZr.out; simp; omega) (fun b hb => (HO.out.bd b hb).1))
        obtain ⟨m0, y0, y1, y2⟩ := KM4.c3
        (try dsimp only)
        refine hK.out _ _ (by (try dsimp only); exact y0) (fun hHeld => ?_)
        clear hK K
        (refine' wpAnyH_take (i := 12) (v := ?_) rfl (by kernel_rfl) (by kernel_rfl) (by kernel_rfl) (fun _ _ _ h => h) (Or.inl ⟨by rfl, ?_⟩) (by assumption) ?_; rotate_left; (· (intro w hSw; (try dsimp only at hSw); go_simp; try with_reducible rfl)); (try simp only [Act.put, List.setIfInBounds_toArray, List.set_cons_zero, List.set_cons_succ]))
        refine wpAnyH_done (by kernel_rfl) ?_ _
        (try go_simp)
        go_wp2_with fail
        go_roundw
        case rel => exact ⟨k + 1, d + 1, cp3, ad3, by omega, by go_num, rfl, EL.out, by rw [EQ.out]; exact ho3, HB4.out⟩
        case measure => simp [intOf]; omega
      · have EQ : Hid (onesTo xs (k + 1) = onesTo xs k) := Lib.hid (ones_no (fun h => hv1 (HV.out.symm.trans h)))
        go_wp2_with fail
        go_roundw
        case rel => exact ⟨k + 1, d, cp, a, by omega, by go_num, rfl, by rw [EQ.out]; exact HD.out, by rw [EQ.out]; exact HO.out, HWr.out⟩
        case measure => simp [intOf]; omega
    · obtain rfl : n = k := by omega
      go_wp2_with fail
      go_ret
      exact ⟨_, _, _, rfl, HD.out, HO.out.mono HB2.out.size, bTrans HB2.out HWr.out⟩

end Go.Proofs.Ytnhjdmdnicnmmaa
