/-
  Contracts of chapter 8: windows that go round a row, crosses (program).
-/
import Derived.Test.YtkjhpfgcmbigfaaW2
import Derived.Deep.Cut
namespace Go.Proofs.Ytkjhpfgcmbigfaa
open Go.RowKit
set_option linter.unusedVariables false
set_option linter.unusedSimpArgs false

theorem rd_window {w : World} {b off : Nat} {xs : List Int} (h : Rd w (some ⟨b, off, none⟩) xs) (s l : Nat) : Rd w (some ⟨b, off + s, none⟩) ((xs.drop s).take l) := by
  intro k hk
  rw [List.length_take, List.length_drop] at hk
  obtain ⟨b', off', h1, h2, h3⟩ := h (s + k) (by omega)
  have e := Option.some.inj h1
  simp only [Addr.mk.injEq] at e
  obtain ⟨rfl, rfl, _⟩ := e
  refine ⟨b, off + s, rfl, h2, ?_⟩
  rw [Nat.add_assoc, h3]
  congr 2
  simp only [List.getD, List.getElem?_take, List.getElem?_drop]
  rw [if_pos (by omega)]

set_option maxHeartbeats 800000 in
theorem impl_window (b off n cap s l : Nat) (S L : Int) (w : World) (hS : S = (s : Int)) (hL : L = (l : Int)) (h1 : 1 ≤ l) (h2 : s + l ≤ n) (h3 : n ≤ cap) (h4 : n ≤ 1048576) :
    Calls Try.prog 72 #[.slice (some ⟨b, off, none⟩) n cap, .int .i64 S, .int .i64 L] w fun e w' => e = .returned (.slice (some ⟨b, off + s, none⟩) l l) ∧ w = w' := by
  subst hS hL
  have f0 : (0 : Int) ≤ (s : Int) := by omega
  have f1 : (s : Int) ≤ (s : Int) + (l : Int) := by omega
  have f2 : (s : Int) + (l : Int) ≤ (cap : Int) := by omega
  have f3 : (s : Int) + (l : Int) ≤ (s : Int) + (l : Int) := by omega
  have f4 : ((s : Int) + (l : Int)).toNat = s + l := by omega
  have f5 : ¬ s + l = s := by omega
  go_enter Try.func72, Try.ntmps72
  go_wp2_with fail
  go_ret
  exact ⟨rfl, rfl⟩

set_option maxHeartbeats 800000 in
theorem impl_window0 (b off n cap s : Nat) (S : Int) (w : World) (hS : S = (s : Int)) (h2 : s ≤ n) (h3 : n ≤ cap) (h4 : n ≤ 1048576) :
    Calls Try.prog 72 #[.slice (some ⟨b, off, none⟩) n cap, .int .i64 S, .int .i64 0] w fun e w' => e = .returned (.slice (some ⟨b, off, none⟩) 0 0) ∧ w = w' := by
  subst hS
  have f0 : (0 : Int) ≤ (s : Int) := by omega
  have f1 : (s : Int) ≤ (s : Int) := by omega
  have f2 : (s : Int) ≤ (cap : Int) := by omega
  go_enter Try.func72, Try.ntmps72
  go_wp2_with fail
  go_ret
  exact ⟨rfl, rfl⟩

set_option maxHeartbeats 800000 in
theorem impl_rowOf (W : Nat) (H : Int) (b off n cap y : Nat) (Y : Int) (w : World) (hY : Y = (y : Int)) (h1 : 1 ≤ W) (hy : y ≤ 64) (hW : W ≤ 64) (h2 : y * W + W ≤ n) (h3 : n ≤ cap) (h4 : n ≤ 1048576) :
    Calls Try.prog 61 #[.agg #[.int .i64 W, .int .i64 H, .slice (some ⟨b, off, none⟩) n cap], .int .i64 Y] w fun e w' => e = .returned (.slice (some ⟨b, off + y * W, none⟩) W W) ∧ Below w.heap.size w w' := by
  subst hY
  have e0 : ((y : Int) * (W : Int)) = ((y * W : Nat) : Int) := by simp
  have b0 : 0 ≤ (y : Int) * (W : Int) := Int.mul_nonneg (by omega) (by omega)
  have b1 : (y : Int) * (W : Int) ≤ 1048576 := by rw [e0]; omega
  have E0 := Lib.hid e0
  clear e0
  go_enter Try.func61, Try.ntmps61
  go_wp2_with fail
  refine (impl_window b off n cap (y * W) W _ _ _ E0.out rfl h1 h2 h3 h4).mono ?_
  rintro e w2 ⟨rfl, rfl⟩
  go_wp2_with fail
  go_ret
  exact ⟨rfl, Joins.below_alloc1 _ _⟩

/-- 'append(s, xs...)' at a step of a region, s without room: a new row of both. -/
theorem step_append_new (w : World) {ops : Array Oper} {o : Oper} {a : Act} {K : Act → World → Prop} {Q : Exit → Act → World → Prop} {E : Prop}
    (hgd : o.guard = none) (s x : Operand) (hop : o.op = .call { callee := .builtin .append, args := #[s, x], argTypes := #[23, 23] })
    (b off n b2 off2 m c2 : Nat) (xs zs : List Int) (hs : a.eval s = .slice (some ⟨b, off, none⟩) n n) (hx : a.eval x = .slice (some ⟨b2, off2, none⟩) m c2) (hl : xs.length = n) (hm : zs.length = m) (h1 : 1 ≤ m) (hn : n + m ≤ 1024)
    (hr : ∀ j, j < n → w.cell? ⟨b, off + j, none⟩ = some (.int .i64 (xs.getD j 0))) (hz : ∀ j, j < m → w.cell? ⟨b2, off2 + j, none⟩ = some (.int .i64 (zs.getD j 0)))
    (hK : ∀ c w', OwnA w' w.heap.size (some ⟨w.heap.size, 0, none⟩) (n + m) c (xs ++ zs) → Below w.heap.size w w' → K (a.put o.dst (.slice (some ⟨w.heap.size, 0, none⟩) (n + m) c)) w') :
    if Region.wanted o (yielded ops a.tmps) = true then Oper.wp Try.prog o a w K Q else E := by
  have hw : Region.wanted o (yielded ops a.tmps) = true := by simp [Region.wanted, hgd]
  rw [if_pos hw]
  obtain ⟨i, hi, hz0, hz1, hz2⟩ := info_parts infoInt
  have hrun := run_append_grow (P := Try.prog) (w := w) 23 o.type 3 i (.int .i64 0) Try.underlying23 hi hz0 ⟨b, off, none⟩ n n (xs.map (Value.int .i64)) (by rw [hz1]; simpa using hl) (fun j v hv => by
      have hj : j < xs.length := by have := (List.getElem?_eq_some_iff.1 hv).1; simpa using this
      rw [Addr.add_lit, hr j (by omega), ← hv]
      simp [List.getD, hj]) ⟨b2, off2, none⟩ m c2 (zs.map (Value.int .i64)) (by rw [hz1]; simpa using hm) (fun j v hv => by
      have hj : j < zs.length := by have := (List.getElem?_eq_some_iff.1 hv).1; simpa using this
      rw [Addr.add_lit, hz j (by omega), ← hv]
      simp [List.getD, hj]) (by omega) (by omega) (by
    rw [hz2]
    have := nextslicecap_le (need := n + m) (old := n) (by omega)
    omega)
  unfold Oper.wp
  simp [execOp, hop, resolve, invoke, builtin, hs, hx, hrun, Result.andThen]
  have hg1 := grownCap_ge w (n + m) n 3
  have hg2 := grownCap_le_maxLen w (n + m) n 3 (by unfold maxLen; omega)
  refine hK _ _ ?_ ?_
  · refine OwnA.mk ⟨by simp; omega, _, heap_alloc_new w.drew _, hg1, hg2, ?_, ?_⟩ (Nat.le_refl _)
    · simp [Value.cells, Builtin.zeroCells]
      omega
    · simp [Value.cells]
      rw [← List.append_assoc, List.take_append_of_le_length (by simp; omega), List.take_of_length_le (by simp; omega)]
  · exact bAlloc (Below.refl _ _).drew _

/-- 'append(s, xs...)' of nothing. -/
theorem step_append_nothing (w : World) {ops : Array Oper} {o : Oper} {a : Act} {K : Act → World → Prop} {Q : Exit → Act → World → Prop} {E : Prop}
    (hgd : o.guard = none) (s x : Operand) (hop : o.op = .call { callee := .builtin .append, args := #[s, x], argTypes := #[23, 23] })
    (A : Addr) (n c : Nat) (A2 : Addr) (c2 : Nat) (hs : a.eval s = .slice (some A) n c) (hx : a.eval x = .slice (some A2) 0 c2) (hc : n ≤ c)
    (hK : K (a.put o.dst (.slice (some A) n c)) w) :
    if Region.wanted o (yielded ops a.tmps) = true then Oper.wp Try.prog o a w K Q else E := by
  have hw : Region.wanted o (yielded ops a.tmps) = true := by simp [Region.wanted, hgd]
  rw [if_pos hw]
  obtain ⟨i, hi, hz0, hz1, hz2⟩ := info_parts infoInt
  have hrun : (Builtin.append_ #[23, 23] o.type #[.slice (some A) n c, .slice (some A2) 0 c2]).run Try.prog w = .ok (.slice (some A) n c) w := by
    simp [Builtin.append_, run_underlying Try.underlying23, sizeOf, typeInfo, hi, Builtin.lenOf, Builtin.firstCells, hc, storeCells, loadCells, loadCellsFrom]
  unfold Oper.wp
  simp [execOp, hop, resolve, invoke, builtin, hs, hx, hrun, Result.andThen]
  exact hK

/-- A row from place s on, once round. -/
def rotL (xs : List Int) (s : Nat) : List Int := xs.drop s ++ xs.take s

/-- A slice of n numbers that reads as xs, in block b or in new memory. -/
def SliceOut (w : World) (n b : Nat) (xs : List Int) (e : Ending) (w' : World) : Prop := ∃ a c, e = .returned (.slice a n c) ∧ Rd w' a xs ∧ (∀ x, blockOf a = some x → x = b ∨ w.heap.size ≤ x) ∧ Below w.heap.size w w'

set_option maxHeartbeats 1600000 in
theorem impl_roundFrom (b off n s l : Nat) (S : Int) (xs : List Int) (w : World) (hS : S = (s : Int)) (hn : xs.length = n) (hr : Rd w (some ⟨b, off, none⟩) xs) (h1 : 1 ≤ n) (h2 : n ≤ 64) (hs : n = s + l) :
    Calls Try.prog 78 #[.slice (some ⟨b, off, none⟩) n n, .int .i64 S] w (SliceOut w n b (rotL xs s)) := by
  subst hS
  have HN := Lib.hid hn
  have HR := Lib.hid hr
  have k1 : IntKind.i64.wrap ((n : Int) - (s : Int)) = (l : Int) := by rw [show (n : Int) - (s : Int) = (l : Int) by omega]; exact IntWalk.i64_in _ (by omega)
  have f0 : (0 : Int) ≤ (s : Int) := by omega
  have f1 : (s : Int) ≤ (n : Int) := by omega
  have HS := Lib.hid hs
  have cs : s ≤ n := by omega
  obtain ⟨o2, hW, ho2⟩ : ∃ o2, (∀ v : World, Calls Try.prog 72 #[.slice (some ⟨b, off, none⟩) n n, .int .i64 s, .int .i64 l] v fun e w' => e = .returned (.slice (some ⟨b, o2, none⟩) l l) ∧ v = w') ∧ (1 ≤ l → o2 = off + s) := by
    by_cases h0 : l = 0
    · subst h0
      exact ⟨off, fun v => impl_window0 b off n n s s v rfl cs (Nat.le_refl _) (by omega), fun h => by omega⟩
    · exact ⟨off + s, fun v => impl_window b off n n s l s l v rfl rfl (by omega) (by omega) (Nat.le_refl _) (by omega), fun _ => rfl⟩
  have HW := Lib.hid hW
  have HO := Lib.hid ho2
  obtain ⟨b0, q0, e0, lb, hcell⟩ := hr.at (by omega)
  have e1 := Option.some.inj e0
  simp only [Addr.mk.injEq] at e1
  obtain ⟨rfl, rfl, _⟩ := e1
  have HC := Lib.hid hcell
  clear hn hr hs hW ho2 e0 hcell
  go_enter Try.func78, Try.ntmps78
  go_upto_region 1 with fail
  refine wp_region_held_drew (S := fun v => 0 < 1) (by kernel_rfl) (by omega) ?_
  intro hHeld
  (refine' wpAnyH_take (i := 0) (v := ?_) rfl (by kernel_rfl) (by kernel_rfl) (by kernel_rfl) (fun _ _ _ h => h) (Or.inl ⟨by rfl, ?_⟩) (by assumption) ?_; rotate_left; (· (intro w hSw; (try dsimp only at hSw); go_simp; try with_reducible rfl)); (try simp only [Act.put, List.setIfInBounds_toArray, List.set_cons_zero, List.set_cons_succ]))
  (refine' wpAnyH_take (i := 1) (v := ?_) rfl (by kernel_rfl) (by kernel_rfl) (by kernel_rfl) (fun _ _ _ h => h) (Or.inl ⟨by rfl, ?_⟩) (by assumption) ?_; rotate_left; (· (intro w hSw; (try dsimp only at hSw); go_simp; try with_reducible rfl)); (try simp only [Act.put, List.setIfInBounds_toArray, List.set_cons_zero, List.set_cons_succ]))
  (refine' wpAnyH_take (i := 2) (v := ?_) rfl (by kernel_rfl) (by kernel_rfl) (by kernel_rfl) (fun _ _ _ h => h) (Or.inl ⟨by rfl, ?_⟩) (by assumption) ?_; rotate_left; (· (intro w hSw; (try dsimp only at hSw); go_simp; try with_reducible rfl)); (try simp only [Act.put, List.setIfInBounds_toArray, List.set_cons_zero, List.set_cons_succ]))
  (refine' wpAnyH_take (i := 3) (v := ?_) rfl (by kernel_rfl) (by kernel_rfl) (by kernel_rfl) (fun _ _ _ h => h) (Or.inl ⟨by rfl, ?_⟩) (by assumption) ?_; rotate_left; (· (intro w hSw; (try dsimp only at hSw); go_simp; try with_reducible rfl)); (try simp only [Act.put, List.setIfInBounds_toArray, List.set_cons_zero, List.set_cons_succ]))
  (refine' wpAnyH_take (i := 4) (v := ?_) rfl (by kernel_rfl) (by kernel_rfl) (by kernel_rfl) (fun _ _ _ h => h) (Or.inl ⟨by rfl, ?_⟩) (by assumption) ?_; rotate_left; (· (intro w hSw; (try dsimp only at hSw); go_simp; try with_reducible rfl)); (try simp only [Act.put, List.setIfInBounds_toArray, List.set_cons_zero, List.set_cons_succ]))
  (refine' wpAnyH_take (i := 5) (v := ?_) rfl (by kernel_rfl) (by kernel_rfl) (by kernel_rfl) (fun _ _ _ h => h) (Or.inl ⟨by rfl, ?_⟩) (by assumption) ?_; rotate_left; (· (intro w hSw; (try dsimp only at hSw); go_simp; try with_reducible rfl)); (try simp only [Act.put, List.setIfInBounds_toArray, List.set_cons_zero, List.set_cons_succ]))
  (refine' wpAnyH_take (i := 7) (v := ?_) rfl (by kernel_rfl) (by kernel_rfl) (by kernel_rfl) (fun _ _ _ h => h) (Or.inl ⟨by rfl, ?_⟩) (by assumption) ?_; rotate_left; (· (intro w hSw; (try dsimp only at hSw); go_simp; try with_reducible rfl)); (try simp only [Act.put, List.setIfInBounds_toArray, List.set_cons_zero, List.set_cons_succ]))
  (refine' wpAnyH_take (i := 8) (v := ?_) rfl (by kernel_rfl) (by kernel_rfl) (by kernel_rfl) (fun _ _ _ h => h) (Or.inl ⟨by rfl, ?_⟩) (by assumption) ?_; rotate_left; (· (intro w hSw; (try dsimp only at hSw); go_simp; try with_reducible rfl)); (try simp only [Act.put, List.setIfInBounds_toArray, List.set_cons_zero, List.set_cons_succ]))
  (refine' wpAnyH_take (i := 9) (v := ?_) rfl (by kernel_rfl) (by kernel_rfl) (by kernel_rfl) (fun _ _ _ h => h) (Or.inl ⟨by rfl, ?_⟩) (by assumption) ?_; rotate_left; (· (intro w hSw; (try dsimp only at hSw); go_simp; try with_reducible rfl)); (try simp only [Act.put, List.setIfInBounds_toArray, List.set_cons_zero, List.set_cons_succ]))
  refine wpAnyH_ready (rs := [6]) (by kernel_rfl) (by simp) ?_
  refine AllReadyH.cons rfl (fun K hK => ?_) AllReadyH.nil
  go_simp
  go_at_call 72
  refine (HW.out _).mono ?_
  rintro e w2 ⟨rfl, rfl⟩
  go_wp2_with fail
  refine hK.out _ _ (by omega) (fun hHeld => ?_)
  clear hK K
  refine wpAnyH_ready (rs := [10]) (by kernel_rfl) (by simp) ?_
  refine AllReadyH.cons rfl (fun K hK => ?_) AllReadyH.nil
  by_cases h0 : s = 0
  case pos =>
    have hln : l = n := by have := HS.out; omega
    subst h0
    refine step_append_nothing _ rfl (.tmp 11) (.tmp 14) rfl ⟨b, o2, none⟩ l l ⟨b, off, none⟩ n rfl (by rfl) (Nat.le_refl _) ?_
    (try simp only [List.getElem_toArray, List.getElem_cons_succ, List.getElem_cons_zero, Act.put, List.setIfInBounds_toArray, List.set_cons_zero, List.set_cons_succ])
    refine hK.out _ _ (by omega) (fun hHeld => ?_)
    clear hK K
    (refine' wpAnyH_take (i := 11) (v := ?_) rfl (by kernel_rfl) (by kernel_rfl) (by kernel_rfl) (fun _ _ _ h => h) (Or.inl ⟨by rfl, ?_⟩) (by assumption) ?_; rotate_left; (· (intro w hSw; (try dsimp only at hSw); go_simp; try with_reducible rfl)); (try simp only [Act.put, List.setIfInBounds_toArray, List.set_cons_zero, List.set_cons_succ]))
    (try simp only [List.getElem_toArray, List.getElem_cons_succ, List.getElem_cons_zero, Act.put, List.setIfInBounds_toArray, List.set_cons_zero, List.set_cons_succ])
    refine wpAnyH_done (by kernel_rfl) ?_ _
    go_wp2_with fail
    go_ret
    refine ⟨some ⟨b, o2, none⟩, n, rfl, ?_, fun x hx => Or.inl (by simpa [blockOf] using hx.symm), (Below.refl _ _).drew⟩
    rw [HO.out (by omega), Nat.add_zero]
    unfold rotL
    simp only [List.drop_zero, List.take_zero, List.append_nil]
    exact HR.out.drew
  case neg =>
    refine step_append_new _ rfl (.tmp 11) (.tmp 14) rfl b o2 l b off s n (xs.drop s) (xs.take s) rfl rfl (by rw [List.length_drop]; have := HN.out; have := HS.out; omega) (by rw [List.length_take]; have := HN.out; omega) (by omega) (by have := HS.out; omega) (fun j hj => ?_) (fun j hj => ?_) ?_
    · rw [HO.out (by omega), Nat.add_assoc]
      have := HC.out (s + j) (by have := HN.out; have := HS.out; omega)
      refine this.trans ?_
      simp [List.getD, List.getElem?_drop]
    · have := HC.out j (by have := HN.out; have := HS.out; omega)
      refine this.trans ?_
      simp [List.getD, List.getElem?_take, hj]
    · intro c5 w5 ho5 hb5
      (try simp only [List.getElem_toArray, List.getElem_cons_succ, List.getElem_cons_zero, Act.put, List.setIfInBounds_toArray, List.set_cons_zero, List.set_cons_succ])
      refine hK.out _ _ (by omega) (fun hHeld => ?_)
      clear hK K
      (refine' wpAnyH_take (i := 11) (v := ?_) rfl (by kernel_rfl) (by kernel_rfl) (by kernel_rfl) (fun _ _ _ h => h) (Or.inl ⟨by rfl, ?_⟩) (by assumption) ?_; rotate_left; (· (intro w hSw; (try dsimp only at hSw); go_simp; try with_reducible rfl)); (try simp only [Act.put, List.setIfInBounds_toArray, List.set_cons_zero, List.set_cons_succ]))
      (try simp only [List.getElem_toArray, List.getElem_cons_succ, List.getElem_cons_zero, Act.put, List.setIfInBounds_toArray, List.set_cons_zero, List.set_cons_succ])
      refine wpAnyH_done (by kernel_rfl) ?_ _
      have HO5 := Lib.hid ho5
      have HB5 := Lib.hid hb5
      have hln : l + s = n := by have := HS.out; omega
      clear ho5 hb5
      go_wp2_with fail
      go_ret
      exact ⟨some ⟨w.heap.size, 0, none⟩, c5, (show Ending.returned (Value.slice (some ⟨w.heap.size, 0, none⟩) (l + s) c5) = Ending.returned (Value.slice (some ⟨w.heap.size, 0, none⟩) n c5) by rw [hln]), HO5.out.rd, fun x hx => Or.inr (by simp only [blockOf, Option.some.injEq] at hx; omega), (Below.refl _ _).drew.trans HB5.out⟩

end Go.Proofs.Ytkjhpfgcmbigfaa
