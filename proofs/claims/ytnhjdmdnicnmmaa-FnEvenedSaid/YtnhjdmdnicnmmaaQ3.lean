/-
  Contracts of chapter 7: copies of any picture, in the program and in the model.
-/
import Derived.Test.YtnhjdmdnicnmmaaM40
import Derived.Test.YtnhjdmdnicnmmaaK1
import Derived.Test.YtnhjdmdnicnmmaaD3
import Derived.Test.YtnhjdmdnicnmmaaN0
import Derived.Test.YtnhjdmdnicnmmaaHeld
import Derived.Deep.RegionHeld3
import Derived.Deep.Cut
namespace Go.Proofs.Ytnhjdmdnicnmmaa
open Go.RowKit
set_option linter.unusedVariables false
set_option linter.unusedSimpArgs false

theorem infoInt6 : (Try.prog.info? 3).map (fun i => (i.zero, i.size, i.bytes)) = some (some (.int .i64 0), 1, 8) := by kernel_rfl

theorem RowA.toOwn6 {w : World} {B n cap : Nat} {ad : Option Addr} {xs : List Int} (h : RowA w 3 1 B ad n cap xs) : OwnA w B ad n cap xs := by
  rcases h with h | ⟨g, h1, h2, h3, cur, h4, h5, h6, h7, h8⟩
  · exact .inl h
  · exact .inr ⟨g, h1, h2, by omega, cur, h4, h5, h6, by omega, by rw [Nat.mul_one] at h8; exact h8⟩

theorem rowT_empty6 (w : World) (T sz : Nat) : RowT (w.alloc (.cells #[] T)) T sz w.heap.size 0 0 [] := ⟨by simp, #[], heap_alloc_new w _, Nat.le_refl _, by unfold maxLen; omega, by simp, by simp⟩

/-- 'append([]int{}, xs...)' at a step of a region that draws. -/
theorem step_clone6 (w : World) {ops : Array Oper} {o : Oper} {a : Act} {K : Act → World → Prop} {Q : Exit → Act → World → Prop} {E : Prop}
    (hgd : o.guard = none) (s x : Operand) (hop : o.op = .call { callee := .builtin .append, args := #[s, x], argTypes := #[23, 23] })
    (B cap : Nat) (ad : Option Addr) (hs : a.eval s = .slice ad 0 cap) (ho : RowA w 3 1 B ad 0 cap []) (b off m c : Nat) (vs : List Int) (hx : a.eval x = .slice (some ⟨b, off, none⟩) m c)
    (hv : vs.length = m) (hc : ∀ j, j < m → w.cell? ⟨b, off + j, none⟩ = some (.int .i64 (vs.getD j 0))) (hn : m ≤ 1048576) (hB : B ≤ w.heap.size)
    (hK : ∀ ad' cap' w', RowA w' 3 1 B ad' m cap' vs → w.grownBy w' (blockOf ad) → K (a.put o.dst (.slice ad' m cap')) w') :
    if Region.wanted o (yielded ops a.tmps) = true then Oper.wp Try.prog o a w K Q else E := by
  have hw : Region.wanted o (yielded ops a.tmps) = true := by simp [Region.wanted, hgd]
  rw [if_pos hw]
  obtain ⟨i, hi, hz0, hz1, hz2⟩ := info_parts infoInt6
  refine wp_append_own w s x 23 hop B 3 i (.int .i64 0) 1 8 Try.underlying23 hi hz0 hz1 hz2 rfl (by omega) _ 0 (([] : List Int).map (Value.int .i64)) hs ho.toRow ⟨b, off, none⟩ m c (vs.map (Value.int .i64)) hx (by simp [hv]) ?_ ?_ (by unfold maxLen; omega) (by rw [Nat.zero_add]; omega) hB ?_
  · intro j u hj
    by_cases hjs : j < m
    · have := hc j hjs
      rw [List.getElem?_map, List.getElem?_eq_getElem (by omega)] at hj
      simp only [Option.map_some, Option.some.injEq] at hj
      subst hj
      rw [show (Addr.mk b off none).add j = ⟨b, off + j, none⟩ by rw [Addr.add_lit], this]
      simp [List.getD, List.getElem?_eq_getElem (show j < vs.length by omega)]
    · rw [List.getElem?_eq_none (by simp; omega)] at hj; cases hj
  · intro u hu
    obtain ⟨x, _, rfl⟩ := List.mem_map.1 hu
    rfl
  · intro v' w' h2 h3 _
    rw [Nat.zero_add] at h2
    have h4 : w'.ownsRow B 3 1 v' m (vs.map (Value.int .i64)) := by simpa using h2
    obtain ⟨ad', cap', rfl, h5⟩ := RowA.ofRow h4
    rw [blockOf_ownT] at h3
    exact hK ad' cap' w' h5 h3

theorem wp_clone6 (w : World) {ops : Array Oper} {rest : List Oper} {o : Oper} {a : Act} {Q : Exit → Act → World → Prop}
    (hgd : o.guard = none) (s x : Operand) (hop : o.op = .call { callee := .builtin .append, args := #[s, x], argTypes := #[23, 23] })
    (B cap : Nat) (ad : Option Addr) (hs : a.eval s = .slice ad 0 cap) (ho : RowA w 3 1 B ad 0 cap []) (b off m c : Nat) (vs : List Int) (hx : a.eval x = .slice (some ⟨b, off, none⟩) m c)
    (hv : vs.length = m) (hc : ∀ j, j < m → w.cell? ⟨b, off + j, none⟩ = some (.int .i64 (vs.getD j 0))) (hn : m ≤ 1048576) (hB : B ≤ w.heap.size)
    (hK : ∀ ad' cap' w', RowA w' 3 1 B ad' m cap' vs → w.grownBy w' (blockOf ad) → wpList Try.prog ops Q rest (a.put o.dst (.slice ad' m cap')) w') :
    wpList Try.prog ops Q (o :: rest) a w := by
  obtain ⟨i, hi, hz0, hz1, hz2⟩ := info_parts infoInt6
  refine wpList_append_own w hgd s x 23 hop B 3 i (.int .i64 0) 1 8 Try.underlying23 hi hz0 hz1 hz2 rfl (by omega) _ 0 (([] : List Int).map (Value.int .i64)) hs ho.toRow ⟨b, off, none⟩ m c (vs.map (Value.int .i64)) hx (by simp [hv]) ?_ ?_ (by unfold maxLen; omega) (by rw [Nat.zero_add]; omega) hB ?_
  · intro j u hj
    by_cases hjs : j < m
    · have := hc j hjs
      rw [List.getElem?_map, List.getElem?_eq_getElem (by omega)] at hj
      simp only [Option.map_some, Option.some.injEq] at hj
      subst hj
      rw [show (Addr.mk b off none).add j = ⟨b, off + j, none⟩ by rw [Addr.add_lit], this]
      simp [List.getD, List.getElem?_eq_getElem (show j < vs.length by omega)]
    · rw [List.getElem?_eq_none (by simp; omega)] at hj; cases hj
  · intro u hu
    obtain ⟨x, _, rfl⟩ := List.mem_map.1 hu
    rfl
  · intro v' w' h2 h3 _
    rw [Nat.zero_add] at h2
    have h4 : w'.ownsRow B 3 1 v' m (vs.map (Value.int .i64)) := by simpa using h2
    obtain ⟨ad', cap', rfl, h5⟩ := RowA.ofRow h4
    rw [blockOf_ownT] at h3
    exact hK ad' cap' w' h5 h3

/-- A picture with a row of its own is handed back. -/
def CopyOut (w : World) (W H : Int) (n : Nat) (xs : List Int) (e : Ending) (w' : World) : Prop :=
  ∃ a c, e = .returned (.agg #[.int .i64 W, .int .i64 H, .slice a n c]) ∧ OwnA w' w.heap.size a n c xs ∧ Below w.heap.size w w'

def swapR (W H : Int) (xs : List Int) : List Int × Bool := if fieldOk W H xs = true then swapG W H xs else (xs, false)

theorem swapR_no {W H : Int} {xs : List Int} (h : ¬ fieldOk W H xs = true) : swapR W H xs = (xs, false) := by unfold swapR; rw [if_neg h]
theorem swapR_yes {W H : Int} {xs : List Int} (h : fieldOk W H xs = true) : swapR W H xs = swapG W H xs := by unfold swapR; rw [if_pos h]

theorem swapF2_is (W H : Int) (xs : List Int) : swapF2 W H xs = (⟨W, H, (swapR W H xs).1⟩, (swapR W H xs).2) := by
  unfold swapF2 swapR
  split <;> rfl

/-- A picture with a row of its own and a bool are handed back. -/
def SwapOut (w : World) (W H : Int) (n : Nat) (R : List Int × Bool) (e : Ending) (w' : World) : Prop :=
  ∃ a c, e = .returned (.tuple #[.agg #[.int .i64 W, .int .i64 H, .slice a n c], .bool R.2]) ∧ OwnA w' w.heap.size a n c R.1 ∧ Below w.heap.size w w'

theorem SwapOut.out {w : World} {W H : Int} {n : Nat} {xs : List Int} {e : Ending} {w' : World} (h : SwapOut w W H n (swapR W H xs) e w') (hl : n ≤ 1048576) : PicOut2 w (swapF2 W H xs) e w' := by
  rw [swapF2_is]
  obtain ⟨a, c, h1, h2, h3⟩ := h
  exact ⟨a, n, c, h1, h2, hl, h3⟩

def evenR (W H : Int) (xs : List Int) (m : Int) : List Int × Int := if fieldOk W H xs = true ∧ 0 ≤ m ∧ m ≤ 64 then ((evenG W H m.toNat xs).1, ((evenG W H m.toNat xs).2 : Int)) else (xs, 0)

theorem evenF_is (W H : Int) (xs : List Int) (m : Int) : evenF W H xs m = (⟨W, H, (evenR W H xs m).1⟩, (evenR W H xs m).2) := by
  unfold evenF evenR
  split <;> rfl

/-- A picture with a row of its own and a number are handed back. -/
def EvenOut (w : World) (W H : Int) (n : Nat) (R : List Int × Int) (e : Ending) (w' : World) : Prop :=
  ∃ a c, e = .returned (.tuple #[.agg #[.int .i64 W, .int .i64 H, .slice a n c], .int .i64 R.2]) ∧ OwnA w' w.heap.size a n c R.1 ∧ Below w.heap.size w w'

/-- A picture and a number are handed back. -/
def PicOutI (w : World) (R : Pic × Int) (e : Ending) (w' : World) : Prop :=
  ∃ a n c, e = .returned (.tuple #[.agg #[.int .i64 R.1.W, .int .i64 R.1.H, .slice a n c], .int .i64 R.2]) ∧ OwnA w' w.heap.size a n c R.1.ink ∧ n ≤ 1048576 ∧ Below w.heap.size w w'

theorem EvenOut.out {w : World} {W H m : Int} {n : Nat} {xs : List Int} {e : Ending} {w' : World} (h : EvenOut w W H n (evenR W H xs m) e w') (hl : n ≤ 1048576) : PicOutI w (evenF W H xs m) e w' := by
  rw [evenF_is]
  obtain ⟨a, c, h1, h2, h3⟩ := h
  exact ⟨a, n, c, h1, h2, hl, h3⟩

set_option maxRecDepth 100000 in
set_option maxHeartbeats 800000 in
theorem clone_ints6 (b off n cap : Nat) (xs : List Int) (w : World) (hn : xs.length = n) (ha : Rd w (some ⟨b, off, none⟩) xs) (hl : n ≤ 1048576) :
    Calls Try.prog 59 #[.slice (some ⟨b, off, none⟩) n cap] w fun e w' => ∃ a c, e = .returned (.slice a n c) ∧ OwnA w' w.heap.size a n c xs ∧ Below w.heap.size w w' := by
  have HN := Lib.hid hn
  have HA := Lib.hid ha
  clear hn ha
  have hnil := fun v : World => Lib.run_eql_slice_nil (P := Try.prog) v (t := 23) (e := 3) (a := some ⟨b, off, none⟩) n cap 0 0 Try.underlying23
  go_enter Try.func59, Try.ntmps59
  go_wp2_with (at_builtin; refine wp_clone6 _ rfl (.tmp 5) (.tmp 6) rfl w.heap.size 0 _ rfl (RowA.mk (rowT_empty6 w 3 1) (Nat.le_refl _)) b off n cap xs rfl HN.out (fun j hj => by
    obtain ⟨b2, o2, h3, h4, h5⟩ := (HA.out.alloc (.cells #[] 3)).at (by have := HN.out; omega)
    cases h3
    exact h5 j (by have := HN.out; omega)) hl (by simp) ?_; intro ad2 cap2 w5 ho5 hg5)
  have HB5 := Lib.hid ((Joins.below_alloc1 w (.cells #[] 3)).grown hg5 (by simp) (fun k hk => by simp [blockOf] at hk; omega))
  have HO5 := Lib.hid ho5.toOwn6
  clear ho5 hg5
  go_ret
  exact ⟨_, _, rfl, HO5.out, HB5.out⟩

set_option maxRecDepth 100000 in
set_option maxHeartbeats 1600000 in
theorem impl_unchanged (W H : Int) (b off n cap : Nat) (xs : List Int) (w : World) (hn : xs.length = n) (ha : Rd w (some ⟨b, off, none⟩) xs) (hl : n ≤ 1048576) :
    Calls Try.prog 44 #[.agg #[.int .i64 W, .int .i64 H, .slice (some ⟨b, off, none⟩) n cap]] w (CopyOut w W H n xs) := by
  have HN := Lib.hid hn
  have HA := Lib.hid ha
  clear hn ha
  go_enter Try.func44, Try.ntmps44
  go_upto_region 1 with fail
  have KP := Lib.hid ((Blk.new w 25 #[.int .i64 W, .int .i64 H, .slice (some ⟨b, off, none⟩) n cap]).alloc (.cells #[.int .i64 0, .int .i64 0, .slice none 0 0] 25))
  have KZ := Lib.hid (Blk.new' (g := w.heap.size + 1) (w := w.alloc (.cells #[.int .i64 W, .int .i64 H, .slice (some ⟨b, off, none⟩) n cap] 25)) 25 #[.int .i64 0, .int .i64 0, .slice none 0 0] (by simp))
  have HBP := Lib.hid (bAlloc (bAlloc (Below.refl w.heap.size w) (.cells #[.int .i64 W, .int .i64 H, .slice (some ⟨b, off, none⟩) n cap] 25)) (.cells #[.int .i64 0, .int .i64 0, .slice none 0 0] 25))
  have RP := Lib.hid ((HA.out.alloc (.cells #[.int .i64 W, .int .i64 H, .slice (some ⟨b, off, none⟩) n cap] 25)).alloc (.cells #[.int .i64 0, .int .i64 0, .slice none 0 0] 25))
  obtain ⟨wo, hwo⟩ : ∃ wo : World, wo = (w.alloc (.cells #[.int .i64 W, .int .i64 H, .slice (some ⟨b, off, none⟩) n cap] 25)).alloc (.cells #[.int .i64 0, .int .i64 0, .slice none 0 0] 25) := ⟨_, rfl⟩
  have ZO : Hid (wo.heap.size = w.heap.size + 1 + 1) := Lib.hid (by rw [hwo]; simp)
  rw [← hwo] at KP KZ HBP RP ⊢
  clear hwo
  obtain ⟨l0, o0, o1, o2⟩ := KP.out.c3
  have MK : Hid (∀ v, BelowL wo v → v.cell? ⟨w.heap.size, 0, none⟩ = some (.int .i64 W) ∧ v.cell? ⟨w.heap.size, 1, none⟩ = some (.int .i64 H) ∧ v.cell? ⟨w.heap.size, 2, none⟩ = some (.slice (some ⟨b, off, none⟩) n cap) ∧ BelowL wo v) := Lib.hid (fun v hB => ⟨(hB.out.cell l0).trans o0, (hB.out.cell l0).trans o1, (hB.out.cell l0).trans o2, hB⟩)
  refine wp_region_T 8 (fun v => v.cell? ⟨w.heap.size, 0, none⟩ = some (.int .i64 W) ∧ v.cell? ⟨w.heap.size, 1, none⟩ = some (.int .i64 H) ∧ v.cell? ⟨w.heap.size, 2, none⟩ = some (.slice (some ⟨b, off, none⟩) n cap) ∧ BelowL wo v) (by kernel_rfl) (MK.out _ (BelowL.start _)) ?_
  intro hHeld
  have hb0 := limb4 hHeld
  (refine' wpAnyT_take (i := 0) (v := ?_) rfl (by kernel_rfl) (by kernel_rfl) (by kernel_rfl) (by kernel_rfl) (fun _ _ _ h => h) (Or.inl ⟨by rfl, ?_⟩) (by assumption) ?_; rotate_left; (· (intro w hSw; (try dsimp only at hSw); go_simp; try with_reducible rfl)); (try simp only [Act.put, List.setIfInBounds_toArray, List.set_cons_zero, List.set_cons_succ]))
  (refine' wpAnyT_take (i := 1) (v := ?_) rfl (by kernel_rfl) (by kernel_rfl) (by kernel_rfl) (by kernel_rfl) (fun _ _ _ h => h) (Or.inl ⟨by rfl, ?_⟩) (by assumption) ?_; rotate_left; (· (intro w hSw; (try dsimp only at hSw); go_simp; try with_reducible rfl)); (try simp only [Act.put, List.setIfInBounds_toArray, List.set_cons_zero, List.set_cons_succ]))
  (refine' wpAnyT_take (i := 2) (v := ?_) rfl (by kernel_rfl) (by kernel_rfl) (by kernel_rfl) (by kernel_rfl) (fun _ _ _ h => h) (Or.inl ⟨by rfl, ?_⟩) (by assumption) ?_; rotate_left; (· (intro w hSw; (try dsimp only at hSw); go_simp; try with_reducible rfl)); (try simp only [Act.put, List.setIfInBounds_toArray, List.set_cons_zero, List.set_cons_succ]))
  (refine' wpAnyT_take (i := 3) (v := ?_) rfl (by kernel_rfl) (by kernel_rfl) (by kernel_rfl) (by kernel_rfl) (fun _ _ _ h => h) (Or.inl ⟨by rfl, ?_⟩) (by assumption) ?_; rotate_left; (· (intro w hSw; (try dsimp only at hSw); go_simp; try with_reducible rfl)); (try simp only [Act.put, List.setIfInBounds_toArray, List.set_cons_zero, List.set_cons_succ]))
  (refine' wpAnyT_take (i := 4) (v := ?_) rfl (by kernel_rfl) (by kernel_rfl) (by kernel_rfl) (by kernel_rfl) (fun _ _ _ h => h) (Or.inl ⟨by rfl, ?_⟩) (by assumption) ?_; rotate_left; (· (intro w hSw; (try dsimp only at hSw); go_simp; try with_reducible rfl)); (try simp only [Act.put, List.setIfInBounds_toArray, List.set_cons_zero, List.set_cons_succ]))
  (refine' wpAnyT_take (i := 5) (v := ?_) rfl (by kernel_rfl) (by kernel_rfl) (by kernel_rfl) (by kernel_rfl) (fun _ _ _ h => h) (Or.inl ⟨by rfl, ?_⟩) (by assumption) ?_; rotate_left; (· (intro w hSw; (try dsimp only at hSw); go_simp; try with_reducible rfl)); (try simp only [Act.put, List.setIfInBounds_toArray, List.set_cons_zero, List.set_cons_succ]))
  refine wpAnyT_one (i := 6) (by kernel_rfl) rfl (fun K hK => ?_)
  go_simp
  go_at_call 59
  ((with_reducible refine (clone_ints6 b off n cap xs _ HN.out (by exact RP.out.below hb0.out) hl).mono ?_); rintro e v1 ⟨ad2, cap2, rfl, ho5, hq1⟩)
  have hb1 := BelowL.call hb0 hq1
  go_wp2_with fail
  refine hK.out _ _ (fun _ => by (try dsimp only); exact MK.out _ hb1) (fun hH2 => ?_)
  clear hK K hHeld
  have HO5 := Lib.hid ho5
  have KZ5 := Lib.hid (KZ.out.below hb1.out KZ.out.lt)
  have HBF := Lib.hid (bTrans HBP.out hb1.out)
  clear ho5
  obtain ⟨z0, r0, r1, r2⟩ := KZ5.out.c3
  obtain ⟨f0, f1, f2⟩ := KZ5.out.f3
  refine wpAnyT_one (i := 7) (by kernel_rfl) rfl (fun K hK => ?_)
  go_simp
  refine hK.out _ _ (fun _ => by (try dsimp only); exact MK.out _ hb1) (fun hH2 => ?_)
  clear hK K
  refine wpAnyT_one (i := 8) (by kernel_rfl) rfl (fun K hK => ?_)
  go_simp
  refine hK.out _ _ (fun h => absurd h (by decide)) (fun hH2 => ?_)
  clear hK K hH2
  refine wpAnyT_done (by kernel_rfl) ?_ _
  (try go_simp)
  go_wp2_with fail
  exact bodyPost_ret (v := .agg #[.int .i64 W, .int .i64 H, .slice ad2 n cap2]) (by simp [results, Try.results44, go_sem, r0, r1, r2]) rfl
    ⟨_, _, rfl, (((HO5.out.other (by simp; (try have := ZO.out); omega) _).other (by simp; (try have := ZO.out); omega) _).other (by simp; (try have := ZO.out); omega) _).mono (by have := ZO.out; show w.heap.size ≤ wo.heap.size; omega),
      ((HBF.out.setCell (by first | (simp; done) | (simp; omega)) _).setCell (by first | (simp; done) | (simp; omega)) _).setCell (by first | (simp; done) | (simp; omega)) _⟩

end Go.Proofs.Ytnhjdmdnicnmmaa
