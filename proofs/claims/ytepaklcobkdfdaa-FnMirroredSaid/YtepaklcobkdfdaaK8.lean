/-
  A list cloned; contracts of chapter 5: MirrorKernel of the program and of the model.
-/
import Derived.Test.YtepaklcobkdfdaaK5
import Derived.Test.YtepaklcobkdfdaaK6
import Derived.Test.YtepaklcobkdfdaaD3
namespace Go.Proofs.Ytepaklcobkdfdaa
open Go.RowKit
set_option linter.unusedVariables false
set_option linter.unusedSimpArgs false

/-- 'append([]T{}, xs...)', T a struct of numbers. -/
theorem wp_cloneT {P : Program} (w : World) {ops : Array Oper} {rest : List Oper} {o : Oper} {a : Act} {Q : Exit → Act → World → Prop}
    (hgd : o.guard = none) (t e sz bytes : Nat) (z : Value) (ht : P.underlying t = some (.slice e)) (hi0 : (P.info? e).map (fun i => (i.zero, i.size, i.bytes)) = some (some z, sz, bytes)) (hz : z.cells.size = sz) (hsz : 1 ≤ sz) (hby : bytes ≤ 4096)
    (s x : Operand) (hop : o.op = .call { callee := .builtin .append, args := #[s, x], argTypes := #[t, t] })
    (B cap : Nat) (ad : Option Addr) (hs : a.eval s = .slice ad 0 cap) (ho : RowA w e sz B ad 0 cap []) (b off m c : Nat) (vs : List Int) (hx : a.eval x = .slice (some ⟨b, off, none⟩) m c)
    (hv : vs.length = m * sz) (hc : ∀ j, j < m * sz → w.cell? ⟨b, off + j, none⟩ = some (.int .i64 (vs.getD j 0))) (hn : m ≤ 1048576) (hB : B ≤ w.heap.size)
    (hK : ∀ ad' cap' w', RowA w' e sz B ad' m cap' vs → w.grownBy w' (blockOf ad) → wpList P ops Q rest (a.put o.dst (.slice ad' m cap')) w') :
    wpList P ops Q (o :: rest) a w := by
  obtain ⟨i, hi, hz0, hz1, hz2⟩ := info_parts hi0
  have m1 : m * bytes ≤ 1048576 * 4096 := Nat.mul_le_mul (by omega) hby
  refine wpList_append_own w hgd s x t hop B e i z sz bytes ht hi hz0 hz1 hz2 hz (by omega) _ 0 (([] : List Int).map (Value.int .i64)) hs ho.toRow ⟨b, off, none⟩ m c (vs.map (Value.int .i64)) hx (by simp [hv]) ?_ ?_ (by unfold maxLen; omega) (by rw [Nat.zero_add]; omega) hB ?_
  · intro j u hj
    by_cases hjs : j < m * sz
    · have := hc j hjs
      rw [List.getElem?_map, List.getElem?_eq_getElem (by omega)] at hj
      simp only [Option.map_some, Option.some.injEq] at hj
      subst hj
      rw [show (Addr.mk b off none).add j = ⟨b, off + j, none⟩ by rw [Addr.add_lit], this]
      simp [List.getD, List.getElem?_eq_getElem (show j < vs.length by omega)]
    · rw [List.getElem?_eq_none (by simp; omega)] at hj; cases hj
  · intro u hu
    obtain ⟨x, _, rfl⟩ := List.mem_map.1 hu
    rfl
  · intro v' w' h2 h3 _
    rw [Nat.zero_add] at h2
    have h4 : w'.ownsRow B e sz v' m (vs.map (Value.int .i64)) := by simpa using h2
    obtain ⟨ad', cap', rfl, h5⟩ := RowA.ofRow h4
    rw [blockOf_ownT] at h3
    exact hK ad' cap' w' h5 h3

theorem rowT_empty (w : World) (T sz : Nat) : RowT (w.alloc (.cells #[] T)) T sz w.heap.size 0 0 [] := ⟨by simp, #[], heap_alloc_new w _, Nat.le_refl _, by unfold maxLen; omega, by simp, by simp⟩

set_option maxHeartbeats 800000 in
set_option maxRecDepth 100000 in
theorem clone_parts (b off n cap : Nat) (ks : List Prt) (w : World) (hn : ks.length = n) (ha : Rd w (some ⟨b, off, none⟩) (flat ks)) (h1 : 1 ≤ n) (hl : n ≤ 1048576) :
    Calls Try.prog 54 #[.slice (some ⟨b, off, none⟩) n cap] w fun e w' => ∃ a c, e = .returned (.slice a n c) ∧ RowA w' 31 3 w.heap.size a n c (flat ks) ∧ Below w.heap.size w w' := by
  have HF := Lib.hid (flat_len ks)
  have HN := Lib.hid hn
  have HA := Lib.hid ha
  clear hn ha
  have hnil := fun v : World => Lib.run_eql_slice_nil (P := Try.prog) v (t := 23) (e := 31) (a := some ⟨b, off, none⟩) n cap 0 0 Try.underlying23
  go_enter Try.func54, Try.ntmps54
  go_wp2_with (at_builtin; refine wp_cloneT _ rfl 23 31 3 24 (zeros 3) Try.underlying23 infoPart rfl (by decide) (by decide) (.tmp 5) (.tmp 6) rfl w.heap.size 0 _ rfl (RowA.mk (rowT_empty w 31 3) (Nat.le_refl _)) b off n cap (flat ks) rfl (by have := HF.out; have := HN.out; omega) (fun j hj => by
    obtain ⟨b2, o2, h3, h4, h5⟩ := (HA.out.alloc (.cells #[] 31)).at (by have := HF.out; have := HN.out; omega)
    cases h3
    exact h5 j (by have := HF.out; have := HN.out; omega)) hl (by simp) ?_; intro ad2 cap2 w5 ho5 hg5)
  have HB5 := Lib.hid ((Joins.below_alloc1 w (.cells #[] 31)).grown hg5 (by simp) (fun k hk => by simp [blockOf] at hk; omega))
  have HO5 := Lib.hid ho5
  clear ho5 hg5
  go_ret
  exact ⟨_, _, rfl, HO5.out, HB5.out⟩

end Go.Proofs.Ytepaklcobkdfdaa
