/-
  append to a row of the call's own; contracts of RowMatrix (program and model).
-/
import Derived.Test.YtgepjfdnlnemjaaD2
namespace Go.Proofs.Ytgepjfdnlnemjaa
open Go.RowKit
set_option linter.unusedVariables false
set_option linter.unusedSimpArgs false

theorem OwnA.toRow {w : World} {B n cap : Nat} {ad : Option Addr} {xs : List Int} (h : OwnA w B ad n cap xs) : w.ownsRow B 3 1 (.slice ad n cap) n (xs.map (Value.int .i64)) := by
  rcases h with ⟨rfl, rfl, rfl, rfl⟩ | ⟨g, rfl, hB, hl, cur, hg, h1, h2, h3, h4⟩
  · exact ⟨rfl, .inl ⟨rfl, rfl⟩⟩
  · exact ⟨by simp [hl], .inr ⟨g, cap, cur, rfl, hB, hg, h1, h2, by omega, by rw [Nat.mul_one]; exact h4⟩⟩

theorem OwnA.ofRow {w : World} {B n : Nat} {v : Value} {xs : List Int} (h : w.ownsRow B 3 1 v n (xs.map (Value.int .i64))) : ∃ ad cap, v = .slice ad n cap ∧ OwnA w B ad n cap xs := by
  obtain ⟨hl, h⟩ := h
  simp at hl
  rcases h with ⟨rfl, rfl⟩ | ⟨g, cap, cur, rfl, hB, hg, h1, h2, h3, h4⟩
  · obtain rfl : xs = [] := List.eq_nil_of_length_eq_zero hl
    exact ⟨Option.none, 0, rfl, OwnA.none _ _⟩
  · exact ⟨_, cap, rfl, .inr ⟨g, rfl, hB, hl, cur, hg, h1, h2, by omega, by rw [Nat.mul_one] at h4; exact h4⟩⟩

theorem blockOf_own (ad : Option Addr) (n cap : Nat) : (Value.slice ad n cap).ownBlock = blockOf ad := by cases ad <;> rfl

/-- 'xs = append(xs, v)'. -/
theorem wp_append (w : World) {ops : Array Oper} {rest : List Oper} {o : Oper} {a : Act} {Q : Exit → Act → World → Prop}
    (hgd : o.guard = none) (s x : Operand) (hop : o.op = .call { callee := .builtin .append, args := #[s, x], argTypes := #[23, 23] })
    (B n cap : Nat) (ad : Option Addr) (xs : List Int) (hs : a.eval s = .slice ad n cap) (ho : OwnA w B ad n cap xs) (g : Nat) (v : Int) (hx : a.eval x = .slice (some ⟨g, 0, none⟩) 1 1)
    (hc : w.cell? ⟨g, 0, none⟩ = some (.int .i64 v)) (hn : n ≤ 1048576) (hB : B ≤ w.heap.size)
    (hK : ∀ ad' cap' w', OwnA w' B ad' (n + 1) cap' (xs ++ [v]) → w.grownBy w' (blockOf ad) → wpList Try.prog ops Q rest (a.put o.dst (.slice ad' (n + 1) cap')) w') :
    wpList Try.prog ops Q (o :: rest) a w := by
  obtain ⟨i, hi, hz0, hz1, hz2⟩ := info_parts infoInt
  refine wpList_append_own w hgd s x 23 hop B 3 i (.int .i64 0) 1 8 Try.underlying23 hi hz0 hz1 hz2 rfl (by decide) _ n (xs.map (Value.int .i64)) hs ho.toRow ⟨g, 0, none⟩ 1 1 [.int .i64 v] hx rfl ?_ ?_ (by unfold maxLen; omega) (by omega) hB ?_
  · intro j u hj
    match j, hj with
    | 0, hj => simp at hj; subst hj; simpa [Addr.add] using hc
  · intro u hu; simp at hu; subst hu; rfl
  · intro v' w' h2 h3 _
    have h4 : w'.ownsRow B 3 1 v' (n + 1) ((xs ++ [v]).map (Value.int .i64)) := by simpa using h2
    obtain ⟨ad', cap', rfl, h5⟩ := OwnA.ofRow h4
    rw [blockOf_own] at h3
    exact hK ad' cap' w' h5 h3

theorem OwnA.other {w : World} {B n cap : Nat} {ad : Option Addr} {xs : List Int} (h : OwnA w B ad n cap xs) {a : Addr} (ha : a.block < B) (u : Value) : OwnA (w.setCell a u) B ad n cap xs := by
  rcases h with h | ⟨g, h1, h2, h⟩
  · exact .inl h
  · exact .inr ⟨g, h1, h2, h.other (by omega) u⟩

/-- Behind an append: a block below the row is as it was. -/
theorem app_blk {wr w1 : World} {B n cap g T : Nat} {ad : Option Addr} {xs : List Int} {cs : Array Value} {O : Obj} (ho : OwnA wr B ad n cap xs) (hg : (wr.alloc O).grownBy w1 (blockOf ad)) (hb : Blk wr g T cs) (h : g < B) : Blk w1 g T cs :=
  (hb.alloc O).grownS hg (fun b hb1 => by have := ho.bd b hb1; omega)

theorem app_below {w0 wr w1 : World} {B C n cap : Nat} {ad : Option Addr} {xs : List Int} {O : Obj} (ho : OwnA wr B ad n cap xs) (hg : (wr.alloc O).grownBy w1 (blockOf ad)) (hb : Below C w0 wr) (h : C < B) (hC : C ≤ wr.heap.size) : Below C w0 w1 :=
  (hb.alloc hC O).grown hg (by simp; omega) (fun k hk => by have := ho.bd k hk; omega)

theorem gen_snoc (n : Nat) (f : Nat → Int) : gen n f ++ [f n] = gen (n + 1) f := by
  simp [gen, List.range_succ]

theorem gen_nil (f : Nat → Int) : gen 0 f = [] := rfl

set_option maxHeartbeats 400000 in
theorem spec_RowMatrix (W H : Int) (w : World) : Calls Try.prog 81 #[.int .i64 W, .int .i64 H] w (MatOut2 w (rowF W H)) := by
  by_cases hs : matSize W H = true
  case neg =>
    rw [rowF_no hs]
    go_enter Try.func81, Try.ntmps81
    go_wp2_with (go_at_call 74; refine (spec_l2Shape_no _ _ _ hs).mono ?_; rintro e w' ⟨rfl, rfl⟩)
    exact bodyPost_ret (v := .tuple #[.agg #[.int .i64 0, .int .i64 0, .slice none 0 0], .bool false]) (by simp [results, Try.results81, go_sem]) rfl ⟨none, 0, 0, rfl, OwnA.none _ _, by omega, Joins.below_alloc1 _ _⟩
  case pos =>
    obtain ⟨n, hq⟩ : ∃ n : Nat, (n : Int) = W * H := ⟨_, (toNat_mulM hs).1⟩
    obtain ⟨b1, b2, b3, b4, b5, b6⟩ := matSize_bd hs
    have hn1 : 1 ≤ n := by omega
    have hn2 : n ≤ 256 := by omega
    rw [rowF_yes hs hq]
    have HQ := Lib.hid hq
    clear hq
    go_enter Try.func81, Try.ntmps81
    go_wp2_with (go_at_call 74; refine (spec_l2Shape_yes _ _ _ hs).mono ?_; rintro e w' ⟨rfl, rfl⟩)
    go_loopw [7] (fun i wr => ∃ (k : Nat) (ad' : Option Addr) (cap' : Nat), k ≤ n ∧ i = .int .i64 k ∧ OwnA wr (w.heap.size + 1 + 1) ad' k cap' (gen k ((fun i => (i : Int)))) ∧ Blk wr (w.heap.size + 1) 25 #[.int .i64 (W), .int .i64 (H), .slice ad' k cap'] ∧ Below (w.heap.size + 1) (w.alloc (.cells #[.int .i64 0, .int .i64 0, .slice none 0 0] 25)) wr) (fun i _ => n - (intOf i).toNat)
    case atStart => exact ⟨0, none, 0, Nat.zero_le _, rfl, OwnA.none _ _, by first | exact Blk.new _ _ _ | exact Blk.new' _ _ (by simp), by first | exact Joins.below_alloc1 _ _ | exact (Below.refl _ _).alloc (by simp) _⟩
    case round =>
      obtain ⟨k, ad', cap', hk, rfl, ho, hb', hw'⟩ := hrel
      have HO := Lib.hid ho
      have KB := Lib.hid hb'
      have HW := Lib.hid hw'
      obtain ⟨l0, o0, o1, o2⟩ := KB.out.c3
      clear ho hb' hw'
      by_cases hlt : k < n
      · have hlt2 : (k : Int) < W * H := by have := HQ.out; omega
        go_wp2_with (at_builtin; refine wp_append _ rfl (.tmp 24) (.tmp 26) rfl (w.heap.size + 1 + 1) k cap' ad' _ rfl (HO.out.alloc _) wr.heap.size ((k : Int)) rfl (by go_simp) (by omega) (by have := KB.out.lt; simp; omega) ?_; intro ad2 cap2 w5 ho5 hg5; have KB5 := Lib.hid (app_blk HO.out hg5 KB.out (by omega)); obtain ⟨l5, p0, p1, p2⟩ := KB5.out.c3; obtain ⟨f0, f1, f2⟩ := KB5.out.f3)
        have HW5 := Lib.hid (app_below HO.out hg5 HW.out (by omega) (by have := KB.out.lt; omega))
        have HO5 := Lib.hid ho5
        clear ho5 hg5
        go_roundw
        case rel => exact ⟨k + 1, ad2, cap2, by omega, by go_num, (by rw [← gen_snoc]; exact HO5.out.other (by simp) _), by first | exact KB5.out.set 2 _ | (have h := KB5.out.set 2 (.slice ad2 (k + 1) cap2); simpa using h), HW5.out.setCell (by simp) _⟩
        case measure => simp [intOf]; omega
      · have hlt2 : ¬ (k : Int) < W * H := by have := HQ.out; omega
        obtain rfl : n = k := by omega
        have KR := Lib.hid ((Blk.new w 25 #[.int .i64 0, .int .i64 0, .slice none 0 0]).below HW.out (by simp))
        have HBr := Lib.hid ((Joins.below_alloc1 w _).trans (HW.out.mono (by simp)))
        obtain ⟨r0, r1, r2, r3⟩ := KR.out.c3
        obtain ⟨q0, q1, q2⟩ := KR.out.f3
        go_wp2_with fail
        exact bodyPost_ret (v := .tuple #[.agg #[.int .i64 (W), .int .i64 (H), .slice ad' _ cap'], .bool true]) (by simp [results, Try.results81, go_sem, r1, r2, r3]) rfl
          ⟨_, _, _, rfl, (((HO.out.other (by simp; try omega) _).other (by simp; try omega) _).other (by simp; try omega) _).mono (by have := HBr.out.size; try simp; omega), by omega,
            ((HBr.out.setCell (by first | (simp; done) | (simp; omega)) _).setCell (by first | (simp; done) | (simp; omega)) _).setCell (by first | (simp; done) | (simp; omega)) _⟩

end Go.Proofs.Ytgepjfdnlnemjaa
