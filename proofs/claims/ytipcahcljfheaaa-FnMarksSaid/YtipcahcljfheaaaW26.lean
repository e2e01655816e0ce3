/-
  Chapter 8: plates of columns and rows, as FnOverprint calls for them.
-/
import Derived.Test.YtipcahcljfheaaaW23a
import Derived.Test.YtipcahcljfheaaaW17
import Derived.Test.YtipcahcljfheaaaW21
import Derived.Test.YtipcahcljfheaaaC2
namespace Go.Proofs.Ytipcahcljfheaaa
open Go.RowKit
set_option linter.unusedVariables false
set_option linter.unusedSimpArgs false

theorem at_callI (B : Nat) (ac : Option Addr) (nc capc : Nat) (bs : List Int) (i : Int) (w : World) (hl : bs.length = nc) (hr : RdU B w ac bs) (hn : nc ≤ 1048576) (h0 : 0 ≤ i) (h1 : i ≤ 100) :
    Calls Try.prog 7 #[.slice ac nc capc, .int .i64 i] w fun e w' => ∃ v : Nat, e = .returned (.int .i64 (v : Int)) ∧ v ≤ 255 ∧ Below w.heap.size w w' := by
  have h := at_call6 B ac nc capc bs i.toNat w hl hr hn (by omega)
  rw [Int.toNat_of_nonneg h0] at h
  refine h.mono (fun e w' ⟨he, hb⟩ => ⟨_, he, ?_, hb⟩)
  unfold atF
  by_cases h1 : i.toNat < nc
  · rw [if_pos h1]
    obtain ⟨⟨u0, u1⟩, _⟩ := hr i.toNat (by omega)
    omega
  · rw [if_neg h1]; omega

theorem own_nilW (w : World) : Own (w.alloc (.cells #[] 3)) w.heap.size 0 0 [] :=
  ⟨rfl, #[], heap_alloc_new w _, Nat.le_refl _, Nat.zero_le _, rfl, rfl⟩

def colsG (W H : Nat) (cols : List Int) : List Int := gen (W * H) (fun i => cols.getD (i % W) 0)
def rowsG (W H : Nat) (rows : List Int) : List Int := gen (W * H) (fun i => rows.getD (i / W) 0)
def overL (W H : Nat) (rows cols : List Int) : List Pic := [⟨W, H, colsG W H cols⟩, ⟨W, H, rowsG W H rows⟩]

section
variable {W H : Nat} {rows cols : List Int}

theorem over_size (w1 : 1 ≤ W) (w8 : W ≤ 8) (h1 : 1 ≤ H) (h8 : H ≤ 8) : sizeOk W H = true := by
  have e : (W : Int) * H ≤ 8 * 8 := Int.mul_le_mul (by omega) (by omega) (by omega) (by omega)
  unfold sizeOk
  rw [decide_eq_true_iff]
  omega

theorem dot_getD {xs : List Int} (h : within xs 1 = true) (k : Nat) : xs.getD k 0 = 0 ∨ xs.getD k 0 = 1 := by
  by_cases hk : k < xs.length
  · have h2 : 0 ≤ xs.getD k 0 ∧ xs.getD k 0 ≤ 1 := within_at h k hk
    omega
  · left; simp [List.getD, List.getElem?_eq_none (Nat.le_of_not_lt hk)]

theorem gen_dots {n : Nat} {f : Nat → Int} (h : ∀ i, f i = 0 ∨ f i = 1) : within (gen n f) 1 = true := by
  unfold within gen
  rw [List.all_eq_true]
  intro v hv
  obtain ⟨i, _, rfl⟩ := List.mem_map.1 hv
  rcases h i with e | e <;> rw [e] <;> rfl

theorem colsG_ok (hs : sizeOk W H = true) (hw : within cols 1 = true) : picOk W H (colsG W H cols) 1 = true :=
  picOk_mkW (n := W * H) hs (gen_len _ _) (by push_cast; rfl) (gen_dots (fun i => dot_getD hw _))

theorem rowsG_ok (hs : sizeOk W H = true) (hw : within rows 1 = true) : picOk W H (rowsG W H rows) 1 = true :=
  picOk_mkW (n := W * H) hs (gen_len _ _) (by push_cast; rfl) (gen_dots (fun i => dot_getD hw _))

theorem over_stack (hs : sizeOk W H = true) (hr : within rows 1 = true) (hc : within cols 1 = true) : stackOk (overL W H rows cols) = true := by
  refine stack_mk (by simp [overL]) (by simp [overL]) (fun k hk => ?_)
  have hk2 : k < 2 := by simpa [overL] using hk
  rcases (show k = 0 ∨ k = 1 by omega) with rfl | rfl
  · exact ⟨colsG_ok hs hc, rfl, rfl⟩
  · exact ⟨rowsG_ok hs hr, rfl, rfl⟩

theorem cols_sum (w1 : 1 ≤ W) (hW : cols.length = W) : isum (colsG W H cols) = isum cols * H := by
  unfold colsG
  rw [isum_gen, cross_cols (fun i => cols.getD i 0) W H (by omega), isum_list hW]

theorem rows_sum (w1 : 1 ≤ W) (hH : rows.length = H) : isum (rowsG W H rows) = W * isum rows := by
  unfold rowsG
  rw [isum_gen, isum_list hH]
  have h := cross_sum (fun _ => 1) (fun i => rows.getD i 0) W H (by omega)
  rw [sumJ_const, Int.one_mul] at h
  rw [← h]
  exact sumJ_congr (fun i _ => (Int.one_mul _).symm)

theorem over_len : ((overL W H rows cols).getD 0 noPic).ink.length = W * H := gen_len _ _

theorem over_both (w1 : 1 ≤ W) (hW : cols.length = W) (hH : rows.length = H) (hs : sizeOk W H = true) (hr : within rows 1 = true) (hc : within cols 1 = true) :
    cntI (markG (overL W H rows cols)) ((3 : Nat) : Int) (W * H) = isum rows * isum cols := by
  have hst := over_stack hs hr hc
  have hb : ∀ i, i < W * H → 0 ≤ markG (overL W H rows cols) i ∧ markG (overL W H rows cols) i < ((4 : Nat) : Int) := fun i hi => mark_bd hst over_len hi
  have h := cnt_weight hb (fun r => if r = 3 then 1 else 0)
  have s4 : ∀ f : Nat → Int, sumJ f 4 = f 0 + f 1 + f 2 + f 3 := fun f => by show 0 + f 0 + f 1 + f 2 + f 3 = _; omega
  rw [s4] at h
  simp only [show ((0 : Nat) = 3) = False by simp, show ((1 : Nat) = 3) = False by simp, show ((2 : Nat) = 3) = False by simp, if_false, if_true, Int.mul_zero, Int.mul_one, Int.zero_add] at h
  rw [h, Int.mul_comm, isum_list hW, isum_list hH, ← cross_sum (fun i => cols.getD i 0) (fun i => rows.getD i 0) W H (by omega)]
  refine sumJ_congr (fun i hi => ?_)
  have e1 : markG (overL W H rows cols) i = (colsG W H cols).getD i 0 + (rowsG W H rows).getD i 0 * 2 := by
    show 0 + (colsG W H cols).getD i 0 * 2 ^ 0 + (rowsG W H rows).getD i 0 * 2 ^ 1 = _
    omega
  have e2 : (colsG W H cols).getD i 0 = cols.getD (i % W) 0 := gen_get _ _ i hi
  have e3 : (rowsG W H rows).getD i 0 = rows.getD (i / W) 0 := gen_get _ _ i hi
  rw [e1, e2, e3]
  rcases dot_getD hc (i % W) with e | e <;> rcases dot_getD hr (i / W) with f | f <;> rw [e, f] <;> rfl

theorem over_counts (w1 : 1 ≤ W) (hW : cols.length = W) (hH : rows.length = H) (hs : sizeOk W H = true) (hr : within rows 1 = true) (hc : within cols 1 = true) :
    (markCountsF (overL W H rows cols)).length = 4 ∧ (markCountsF (overL W H rows cols)).getD 3 0 = isum rows * isum cols := by
  unfold markCountsF
  rw [if_pos (over_stack hs hr hc), over_len]
  refine ⟨gen_len _ _, ?_⟩
  rw [show (2 ^ (overL W H rows cols).length : Nat) = 4 from rfl]
  exact (gen_get 4 _ 3 (by omega)).trans (over_both w1 hW hH hs hr hc)

theorem over_shares (w1 : 1 ≤ W) (hW : cols.length = W) (hH : rows.length = H) (hs : sizeOk W H = true) (hr : within rows 1 = true) (hc : within cols 1 = true) :
    sharesMF W H (colsG W H cols) W H (rowsG W H rows) = true := by
  unfold sharesMF
  have e1 : stackOk [⟨W, H, colsG W H cols⟩, ⟨W, H, rowsG W H rows⟩] = true := over_stack hs hr hc
  have e2 : (markCountsF [⟨W, H, colsG W H cols⟩, ⟨W, H, rowsG W H rows⟩]).getD 3 0 = isum rows * isum cols := (over_counts w1 hW hH hs hr hc).2
  rw [e1, e2, cols_sum w1 hW, rows_sum w1 hH, show (colsG W H cols).length = W * H from gen_len _ _]
  rw [Bool.true_and, decide_eq_true_iff]
  push_cast
  ac_rfl
end

/-- The two plates, as a list. -/
def OverOut (w : World) (W H : Nat) (rows cols : List Int) (e : Ending) (w' : World) : Prop :=
  ∃ (al a b : Option Addr) (k c d : Nat), e = .returned (.tuple #[.slice al 2 k, .bool true]) ∧
    RdV w' al [⟨W, H, a, W * H, c, colsG W H cols⟩, ⟨W, H, b, W * H, d, rowsG W H rows⟩] ∧ Below w.heap.size w w'

end Go.Proofs.Ytipcahcljfheaaa
