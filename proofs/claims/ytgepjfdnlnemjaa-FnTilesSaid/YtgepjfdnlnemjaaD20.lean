/-
  Contracts of chapter 4: prolonged (program); a row of rows in new memory.
-/
import Derived.Test.YtgepjfdnlnemjaaM17
import Derived.Test.YtgepjfdnlnemjaaD17
namespace Go.Proofs.Ytgepjfdnlnemjaa
open Go.RowKit
set_option linter.unusedVariables false
set_option linter.unusedSimpArgs false

theorem own_cap {w : World} {B n cap : Nat} {ad : Option Addr} {xs : List Int} (h : OwnA w B ad n cap xs) : n ≤ cap := by
  rcases h with ⟨_, h2, h3, _⟩ | ⟨g, _, _, _, cur, _, r1, _⟩
  · omega
  · exact r1

def lenOfS : Value → Nat
  | .slice _ n _ => n
  | _ => 0

/-- 'append(row, row...)' where the row has no room: a new row of both. -/
theorem wp_append_twice (w : World) {ops : Array Oper} {rest : List Oper} {o : Oper} {a : Act} {Q : Exit → Act → World → Prop}
    (hgd : o.guard = none) (s x : Operand) (hop : o.op = .call { callee := .builtin .append, args := #[s, x], argTypes := #[23, 23] })
    (b off n : Nat) (xs : List Int) (hs : a.eval s = .slice (some ⟨b, off, none⟩) n n) (hx : a.eval x = .slice (some ⟨b, off, none⟩) n n) (hl : xs.length = n) (h1 : 1 ≤ n) (hn : n ≤ 1024) (hr : Rd w (some ⟨b, off, none⟩) xs)
    (hK : ∀ c w', OwnA w' w.heap.size (some ⟨w.heap.size, 0, none⟩) (n + n) c (xs ++ xs) → Below w.heap.size w w' → wpList Try.prog ops Q rest (a.put o.dst (.slice (some ⟨w.heap.size, 0, none⟩) (n + n) c)) w') :
    wpList Try.prog ops Q (o :: rest) a w := by
  obtain ⟨i, hi, hz0, hz1, hz2⟩ := info_parts infoInt
  refine wpList_plain hgd fun K hK' => ?_
  have hc : ∀ j v, (xs.map (Value.int .i64))[j]? = some v → w.cell? (Addr.add ⟨b, off, none⟩ j) = some v := by
    intro j v hv
    have hj : j < xs.length := by have := (List.getElem?_eq_some_iff.1 hv).1; simpa using this
    obtain ⟨b', off', e1, _, h3⟩ := hr j hj
    have e2 := Option.some.inj e1
    simp only [Addr.mk.injEq] at e2
    obtain ⟨rfl, rfl, _⟩ := e2
    rw [Addr.add_lit, h3, ← hv]
    simp [List.getD, hj]
  have hrun := run_append_grow (P := Try.prog) (w := w) 23 o.type 3 i (.int .i64 0) Try.underlying23 hi hz0 ⟨b, off, none⟩ n n (xs.map (Value.int .i64)) (by rw [hz1]; simpa using hl) hc ⟨b, off, none⟩ n n (xs.map (Value.int .i64)) (by rw [hz1]; simpa using hl) hc (by omega) (by omega) (by
    rw [hz2]
    have := nextslicecap_le (need := n + n) (old := n) (by omega)
    omega)
  unfold Oper.wp
  simp [execOp, hop, resolve, invoke, builtin, hs, hx, hrun, Result.andThen]
  have hg1 := grownCap_ge w (n + n) n 3
  have hg2 := grownCap_le_maxLen w (n + n) n 3 (by unfold maxLen; omega)
  refine hK' _ _ (hK _ _ ?_ ?_)
  · refine OwnA.mk ⟨by simp; omega, _, heap_alloc_new w.drew _, hg1, hg2, ?_, ?_⟩ (Nat.le_refl _)
    · simp [Value.cells, Builtin.zeroCells]
      omega
    · simp [Value.cells]
      rw [← List.append_assoc, List.take_append_of_le_length (by simp; omega), List.take_of_length_le (by simp; omega)]
  · exact bAlloc (Below.refl _ _).drew _

/-- 'xs = append(xs, zs...)', xs a row of the call's own. -/
theorem wp_appends (w : World) {ops : Array Oper} {rest : List Oper} {o : Oper} {a : Act} {Q : Exit → Act → World → Prop}
    (hgd : o.guard = none) (s x : Operand) (hop : o.op = .call { callee := .builtin .append, args := #[s, x], argTypes := #[23, 23] })
    (B n cap : Nat) (ad : Option Addr) (xs zs : List Int) (hs : a.eval s = .slice ad n cap) (ho : OwnA w B ad n cap xs) (b off m c : Nat) (hx : a.eval x = .slice (some ⟨b, off, none⟩) m c) (hm : zs.length = m)
    (hz : Rd w (some ⟨b, off, none⟩) zs) (hn : n + m ≤ 1048576) (hB : B ≤ w.heap.size)
    (hK : ∀ ad' cap' w', OwnA w' B ad' (n + m) cap' (xs ++ zs) → w.grownBy w' (blockOf ad) → wpList Try.prog ops Q rest (a.put o.dst (.slice ad' (n + m) cap')) w') :
    wpList Try.prog ops Q (o :: rest) a w := by
  obtain ⟨i, hi, hz0, hz1, hz2⟩ := info_parts infoInt
  refine wpList_append_own w hgd s x 23 hop B 3 i (.int .i64 0) 1 8 Try.underlying23 hi hz0 hz1 hz2 rfl (by decide) _ n (xs.map (Value.int .i64)) hs ho.toRow ⟨b, off, none⟩ m c (zs.map (Value.int .i64)) hx (by simpa using hm) ?_ (ints_oneCell _ _) (by unfold maxLen; omega) (by omega) hB ?_
  · intro j v hv
    have hj : j < zs.length := by have := (List.getElem?_eq_some_iff.1 hv).1; simpa using this
    obtain ⟨b', off', e1, _, h3⟩ := hz j hj
    have e2 := Option.some.inj e1
    simp only [Addr.mk.injEq] at e2
    obtain ⟨rfl, rfl, _⟩ := e2
    rw [Addr.add_lit, h3, ← hv]
    simp [List.getD, hj]
  · intro v' w' h2 h3 _
    have h4 : w'.ownsRow B 3 1 v' (n + m) ((xs ++ zs).map (Value.int .i64)) := by simpa using h2
    obtain ⟨ad', cap', rfl, h5⟩ := OwnA.ofRow h4
    rw [blockOf_own] at h3
    exact hK ad' cap' w' h5 h3

set_option maxHeartbeats 1600000 in
theorem impl_prolonged (b off W L y : Nat) (xs zs : List Int) (LL : Int) (w : World) (hLL : LL = (L : Int)) (hz : zs.length = W) (hr : Rd w (some ⟨b, off, none⟩) zs) (h1 : 1 ≤ W) (h2 : W ≤ 64) (h3 : L ≤ 128) (hc : ∀ j, j < W → zs.getD j 0 = xs.getD (y * W + j) 0) :
    Calls Try.prog 57 #[.slice (some ⟨b, off, none⟩) W W, .int .i64 LL] w fun e w' => ∃ a n c, e = .returned (.slice a n c) ∧ L ≤ n ∧ n ≤ c ∧ n ≤ 1048576 ∧ Rd w' a (perR W xs y n) ∧ (∀ x, blockOf a = some x → x = b ∨ w.heap.size ≤ x) ∧ Below w.heap.size w w' := by
  subst hLL
  have HZ := Lib.hid hz
  have HR := Lib.hid hr
  have HC := Lib.hid hc
  have P1 : Hid (zs = perR W xs y W) := Lib.hid (gen_ext W _ _ hz (fun k hk => by rw [hc k hk, Nat.mod_eq_of_lt hk]))
  clear hz hr hc
  go_enter Try.func57, Try.ntmps57
  go_wp2_with fail
  go_loopw [5] (fun s wr => ∃ (m : Nat) (a : Option Addr) (c : Nat), 1 ≤ m ∧ (m - 1) * W ≤ 128 ∧ s = .slice a (m * W) c ∧ ((m = 1 ∧ a = some ⟨b, off, none⟩ ∧ c = W) ∨ OwnA wr w.heap.size a (m * W) c (perR W xs y (m * W))) ∧ Below w.heap.size w wr) (fun s _ => L - lenOfS s)
  case atStart => exact ⟨1, _, _, Nat.le_refl _, by simp, by simp, Or.inl ⟨rfl, rfl, rfl⟩, Below.refl _ _⟩
  case round =>
    obtain ⟨m, a, c, hm, hmb, rfl, ho, hnx⟩ := hrel
    have HNX := Lib.hid hnx
    clear hnx
    rcases ho with ⟨rfl, rfl, rfl⟩ | ho
    · rw [Nat.one_mul]
      by_cases hlt : c < L
      · go_wp2_with (at_builtin; refine wp_append_twice _ rfl (.tmp 11) (.tmp 12) rfl b off c zs rfl rfl HZ.out h1 (by omega) (by exact HR.out.below HNX.out) ?_; intro c2 w5 ho5 hb5)
        have hs := per_snoc (y := y) (m := 1) h1 HZ.out HC.out
        rw [Nat.one_mul, ← P1.out] at hs
        have HO5 : Hid (OwnA w5 w.heap.size (some ⟨wr.heap.size, 0, none⟩) (2 * c) c2 (perR c xs y (2 * c))) := Lib.hid (by rw [← hs]; rw [Nat.two_mul]; exact ho5.mono HNX.out.size)
        have HW5 := Lib.hid (bTrans HNX.out hb5)
        clear ho5 hb5 hs
        go_roundw
        case rel => exact ⟨2, _, c2, by omega, by omega, by rw [Nat.two_mul], Or.inr HO5.out, HW5.out⟩
        case measure => simp [lenOfS]; omega
      · go_wp2_with fail
        go_ret
        exact ⟨_, _, _, rfl, by omega, Nat.le_refl _, by omega, by rw [← P1.out]; exact HR.out.below HNX.out, fun x hx => Or.inl (by simpa [blockOf] using hx.symm), HNX.out⟩
    · have HO := Lib.hid ho
      obtain ⟨q, rfl⟩ : ∃ q, m = q + 1 := ⟨m - 1, by omega⟩
      have e1 : (q + 1) * W = q * W + W := by rw [Nat.add_mul, Nat.one_mul]
      rw [Nat.add_sub_cancel] at hmb
      obtain ⟨N, hN⟩ : ∃ N, N = (q + 1) * W := ⟨_, rfl⟩
      rw [← hN] at HO e1 ⊢
      have HNN := Lib.hid hN
      clear hN ho
      by_cases hlt : N < L
      · go_wp2_with (at_builtin; refine wp_appends _ rfl (.tmp 11) (.tmp 12) rfl w.heap.size N c a _ zs rfl HO.out b off W W rfl HZ.out (by exact HR.out.below HNX.out) (by omega) (by exact HNX.out.size) ?_; intro ad2 cap2 w5 ho5 hg5)
        have hs := per_snoc (y := y) (m := q + 1) h1 HZ.out HC.out
        rw [← HNN.out] at hs
        have e2 : (q + 1 + 1) * W = N + W := by rw [Nat.add_mul (q + 1), Nat.one_mul, ← HNN.out]
        rw [e2] at hs
        have HO5 : Hid (OwnA w5 w.heap.size ad2 (N + W) cap2 (perR W xs y (N + W))) := Lib.hid (by rw [← hs]; exact ho5)
        have HW5 := Lib.hid (HNX.out.grown hg5 HNX.out.size (fun b hb => (HO.out.bd b hb).1))
        have E2 := Lib.hid e2
        clear ho5 hg5 hs e2
        go_roundw
        case rel => exact ⟨q + 1 + 1, ad2, cap2, by omega, by rw [Nat.add_sub_cancel, ← HNN.out]; omega, by (have h := E2.out; rw [h]; first | done | (congr 1; omega)), by rw [E2.out]; exact Or.inr HO5.out, HW5.out⟩
        case measure => simp [lenOfS]; omega
      · go_wp2_with fail
        go_ret
        exact ⟨_, _, _, rfl, by omega, own_cap HO.out, by omega, HO.out.rd, fun x hx => Or.inr (HO.out.bd x hx).1, HNX.out⟩

end Go.Proofs.Ytgepjfdnlnemjaa
