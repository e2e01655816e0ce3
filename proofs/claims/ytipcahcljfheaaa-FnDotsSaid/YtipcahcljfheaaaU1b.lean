/-
  append to a row of bytes of the call's own; contract of the laws' fresh.
-/
import Derived.Test.YtipcahcljfheaaaD3
import Derived.Test.YtipcahcljfheaaaR1b
import Derived.Test.YtipcahcljfheaaaD6b
namespace Go.Proofs.Ytipcahcljfheaaa
open Go.RowKit
set_option linter.unusedVariables false
set_option linter.unusedSimpArgs false

theorem infoU8 : (Try.prog.info? 5).map (fun i => (i.zero, i.size, i.bytes)) = some (some (.int .u8 0), 1, 1) := by kernel_rfl

/-- A row of bytes of the call's own. -/
def OwnsU (w : World) (B : Nat) (v : Value) (n : Nat) (xs : List Int) : Prop := w.ownsRow B 5 1 v n (xs.map (Value.int .u8))
def bytesOk (xs : List Int) : Prop := ∀ x, x ∈ xs → 0 ≤ x ∧ x ≤ 255

/-- 'bs = append(bs, v)'. -/
theorem wp_appendU (w : World) {ops : Array Oper} {rest : List Oper} {o : Oper} {a : Act} {Q : Exit → Act → World → Prop}
    (hgd : o.guard = none) (s x : Operand) (hop : o.op = .call { callee := .builtin .append, args := #[s, x], argTypes := #[22, 22] })
    (B n : Nat) (vs : Value) (xs : List Int) (hs : a.eval s = vs) (ho : OwnsU w B vs n xs) (g : Nat) (v : Int) (hx : a.eval x = .slice (some ⟨g, 0, none⟩) 1 1)
    (hc : w.cell? ⟨g, 0, none⟩ = some (.int .u8 v)) (hn : n ≤ 1048576) (hB : B ≤ w.heap.size)
    (hK : ∀ v' w', OwnsU w' B v' (n + 1) (xs ++ [v]) → w.grownBy w' vs.ownBlock → wpList Try.prog ops Q rest (a.put o.dst v') w') :
    wpList Try.prog ops Q (o :: rest) a w := by
  obtain ⟨i, hi, hz0, hz1, hz2⟩ := info_parts infoU8
  refine wpList_append_own w hgd s x 22 hop B 5 i (.int .u8 0) 1 1 Try.underlying22 hi hz0 hz1 hz2 rfl (by decide) _ n (xs.map (Value.int .u8)) hs ho ⟨g, 0, none⟩ 1 1 [.int .u8 v] hx rfl ?_ ?_ (by unfold maxLen; omega) (by omega) hB ?_
  · intro j u hj
    match j, hj with
    | 0, hj => simp at hj; subst hj; simpa [Addr.add] using hc
  · intro u hu; simp at hu; subst hu; rfl
  · intro v' w' h2 h3 _
    exact hK v' w' (by unfold OwnsU; simpa using h2) h3

theorem OwnsU.new (w : World) (v : Int) : OwnsU (w.alloc (.cells #[.int .u8 v] 5)) w.heap.size (.slice (some ⟨w.heap.size, 0, none⟩) 1 1) 1 [v] :=
  ⟨by simp, .inr ⟨w.heap.size, 1, #[.int .u8 v], rfl, Nat.le_refl _, heap_alloc_new w _, by omega, by unfold maxLen; omega, by simp, by simp⟩⟩

theorem OwnsU.alloc {w : World} {B n : Nat} {v : Value} {xs : List Int} (h : OwnsU w B v n xs) (o : Obj) : OwnsU (w.alloc o) B v n xs := by
  obtain ⟨hl, h⟩ := h
  refine ⟨hl, ?_⟩
  rcases h with h | ⟨g, cap, cur, h0, hB, hg, r⟩
  · exact .inl h
  · exact .inr ⟨g, cap, cur, h0, hB, (Below.heap_alloc w o g (Array.getElem?_eq_some_iff.1 hg).1).trans hg, r⟩

theorem OwnsU.rd {w : World} {B n : Nat} {v : Value} {xs : List Int} (h : OwnsU w B v n xs) (hb : bytesOk xs) : ∃ ad cap, v = .slice ad n cap ∧ xs.length = n ∧ RdU w.heap.size w ad xs := by
  obtain ⟨hl, h⟩ := h
  simp at hl
  rcases h with ⟨rfl, rfl⟩ | ⟨g, cap, cur, rfl, hB, hg, h1, h2, h3, h4⟩
  · obtain rfl : xs = [] := List.eq_nil_of_length_eq_zero hl
    exact ⟨Option.none, 0, rfl, rfl, fun k hk => by simp at hk⟩
  · refine ⟨_, cap, rfl, hl, fun k hk => ?_⟩
    have hlt := (Array.getElem?_eq_some_iff.1 hg).1
    have hm : xs.getD k 0 ∈ xs := by simp [List.getD, List.getElem?_eq_getElem hk]
    refine ⟨hb _ hm, g, 0, rfl, hlt, hlt, ?_⟩
    rw [Nat.zero_add, cell_of_row w g k cur 5 (0, 0) hg]
    rw [Nat.mul_one] at h4
    have h5 : (cur.toList.take n)[k]? = (xs.map (Value.int .u8))[k]? := by rw [h4]
    rw [List.getElem?_take, if_pos (by omega)] at h5
    simp only [Array.getElem?_toList] at h5
    rw [h5]
    simp [List.getD, List.getElem?_eq_getElem hk]

theorem OwnsU.own {w : World} {B n : Nat} {v : Value} {xs : List Int} (h : OwnsU w B v n xs) : ∀ b, v.ownBlock = some b → B ≤ b ∧ b < w.heap.size := by
  obtain ⟨hl, h⟩ := h
  intro b hb
  rcases h with ⟨rfl, rfl⟩ | ⟨g, cap, cur, rfl, hB, hg, r⟩
  · simp [Value.ownBlock] at hb
  · simp only [Value.ownBlock, Option.some.injEq] at hb
    subst hb
    exact ⟨hB, (Array.getElem?_eq_some_iff.1 hg).1⟩

theorem bytesOk.snoc {xs : List Int} {v : Int} (h : bytesOk xs) (h0 : 0 ≤ v) (h1 : v ≤ 255) : bytesOk (xs ++ [v]) := by
  intro x hx
  rcases List.mem_append.1 hx with hx | hx
  · exact h x hx
  · simp at hx; subst hx; exact ⟨h0, h1⟩

theorem u8_bd (x : Int) : 0 ≤ IntKind.u8.wrap x ∧ IntKind.u8.wrap x ≤ 255 := by rw [IntKind.wrap_u8]; omega

/-- Some bytes are handed back. -/
def FreshOut (w : World) (e : Ending) (w' : World) : Prop :=
  ∃ (ad : Option Addr) (n cap : Nat) (ys : List Int), e = .returned (.slice ad n cap) ∧ ys.length = n ∧ n ≤ 1048576 ∧ RdU w'.heap.size w' ad ys ∧ Below w.heap.size w w'

set_option maxRecDepth 100000 in
set_option maxHeartbeats 800000 in
theorem laws_fresh (ac : Option Addr) (nc capc : Nat) (bs : List Int) (B0 : Nat) (w : World) (hl : bs.length = nc) (hr : RdU B0 w ac bs) (hB0 : B0 ≤ w.heap.size) (hn : nc ≤ 1048576) :
    Calls Try.prog 9 #[.slice ac nc capc, .int .i64 3] w (FreshOut w) := by
  have HL := Lib.hid hl
  have HC := Lib.hid (hr.mono hB0)
  clear hl hr hB0
  go_enter Try.func9, Try.ntmps9
  go_wp2_with fail
  go_loopw [5, 6] (fun r i wr => ∃ (k : Nat) (xs : List Int), k ≤ nc ∧ k ≤ 600 ∧ i = .int .i64 k ∧ OwnsU wr w.heap.size r (k + 1) xs ∧ bytesOk xs ∧ Below w.heap.size w wr) (fun _ i _ => nc - (intOf i).toNat)
  case atStart => exact ⟨0, _, Nat.zero_le _, by omega, rfl, OwnsU.new _ _, fun x hx => by simp at hx; subst hx; omega, Joins.below_alloc1 _ _⟩
  case round =>
    obtain ⟨k, xs, hk, hk6, rfl, ho, hy, hw⟩ := hrel
    obtain ⟨ad', cap', rfl, hlen, hrd⟩ := ho.rd hy
    have HO := Lib.hid ho
    have HY := Lib.hid hy
    have HW := Lib.hid hw
    have HR := Lib.hid hrd
    have HN := Lib.hid hlen
    have HK6 := Lib.hid hk6
    clear ho hy hw hrd hlen hk6
    by_cases hlt : k < nc
    · by_cases hlt6 : (k : Int) < 600
      · obtain ⟨hv, ba, oa, hae, hba, hal, hac⟩ := (HC.out.below HW.out) k (by have := HL.out; omega)
        obtain ⟨v0, v1⟩ := hv
        have hac2 := hac
        rw [show bs.getD k 0 = bs[k]?.getD 0 from rfl] at hac2 v0 v1
        obtain ⟨u, hu⟩ : ∃ u : Int, bs[k]?.getD 0 = u := ⟨_, rfl⟩
        rw [hu] at hac2 v0 v1
        clear hac hu
        subst hae
        go_wp2_with (at_builtin; refine wp_appendU _ rfl (.tmp 20) (.tmp 34) rfl w.heap.size (k + 1) _ xs rfl (HO.out.alloc _) wr.heap.size _ rfl (cell_new1 _ _ _) (by have := HK6.out; omega) (by have := HW.out.size; simp; omega) ?_; intro v2 w5 ho5 hg5)
        have HO5 := Lib.hid ho5
        have HG5 := Lib.hid hg5
        clear ho5 hg5
        go_roundw
        case rel => exact ⟨k + 1, _, by omega, by omega, by go_num, HO5.out, HY.out.snoc (u8_bd _).1 (u8_bd _).2, (HW.out.alloc HW.out.size _).grown HG5.out (by have := HW.out.size; simp; omega) (fun b hb => (HO.out.own b hb).1)⟩
        case measure => simp [intOf]; omega
      · go_wp2_with fail
        go_ret
        exact ⟨_, _, _, _, rfl, HN.out, by have := HK6.out; omega, HR.out, HW.out⟩
    · go_wp2_with fail
      go_ret
      exact ⟨_, _, _, _, rfl, HN.out, by have := HK6.out; omega, HR.out, HW.out⟩

end Go.Proofs.Ytipcahcljfheaaa
