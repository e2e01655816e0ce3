/-
  Contracts of chapter 8: CrossPlates, the parts that both have; the program's.
-/
import Derived.Test.YtipcahcljfheaaaW20
import Derived.RegionTactic
namespace Go.Proofs.Ytipcahcljfheaaa
open Go.RowKit
set_option linter.unusedVariables false
set_option linter.unusedSimpArgs false

/-- Plates of columns and of rows. -/
def crossC (rows cols : List Int) : List Int := gen (cols.length * rows.length) (fun i => cols.getD (i % cols.length) 0)
def crossR (rows cols : List Int) : List Int := gen (cols.length * rows.length) (fun i => rows.getD (i / cols.length) 0)

def crossF (rows cols : List Int) : List Pic × Bool :=
  if sizeOk cols.length rows.length = true ∧ within rows 1 = true ∧ within cols 1 = true then
    ([⟨cols.length, rows.length, crossC rows cols⟩, ⟨cols.length, rows.length, crossR rows cols⟩], true)
  else ([], false)

theorem cross_no {rows cols : List Int} (h : ¬ (sizeOk cols.length rows.length = true ∧ within rows 1 = true ∧ within cols 1 = true)) : crossF rows cols = ([], false) := by unfold crossF; rw [if_neg h]

theorem cross_yes {rows cols : List Int} {W H : Nat} (hW : cols.length = W) (hH : rows.length = H) (h : sizeOk W H = true) (h1 : within rows 1 = true) (h2 : within cols 1 = true) :
    crossF rows cols = ([⟨W, H, gen (W * H) (fun i => cols.getD (i % W) 0)⟩, ⟨W, H, gen (W * H) (fun i => rows.getD (i / W) 0)⟩], true) := by
  unfold crossF crossC crossR
  rw [hW, hH, if_pos ⟨h, h1, h2⟩]

/-- Two pictures, as a list of the call's own, and whether there are any. -/
def PicsOut2 (w : World) (R : List Pic × Bool) (e : Ending) (w' : World) : Prop := ∃ a n c Q, e = .returned (.tuple #[.slice a n c, .bool R.2]) ∧ OwnV w' w.heap.size a n c Q ∧ picsV Q = R.1 ∧ n ≤ 1048576 ∧ inkV Q ≤ 1048576 ∧ Below w.heap.size w w'

theorem pv_two0 (p q : PV) : pv [p, q] 0 = p := rfl
theorem pv_two1 (p q : PV) : pv [p, q] 1 = q := rfl

/-- Two pictures laid into a row of their own, their amounts their own and apart. -/
theorem ownV_two {w : World} {B g1 g2 N : Nat} {W H : Int} {xs ys : List Int} (h1 : Own w g1 N N xs) (h2 : Own w g2 N N ys) (b1 : B ≤ g1) (b2 : B ≤ g2) (hne : g1 ≠ g2) (hB : B ≤ w.heap.size) :
    OwnV (w.alloc (.cells #[.int .i64 W, .int .i64 H, .slice (some ⟨g1, 0, none⟩) N N, .int .i64 W, .int .i64 H, .slice (some ⟨g2, 0, none⟩) N N] 25)) B (some ⟨w.heap.size, 0, none⟩) 2 2 [⟨W, H, some ⟨g1, 0, none⟩, N, N, xs⟩, ⟨W, H, some ⟨g2, 0, none⟩, N, N, ys⟩] := by
  have KB := Blk.new w 25 #[.int .i64 W, .int .i64 H, .slice (some ⟨g1, 0, none⟩) N N, .int .i64 W, .int .i64 H, .slice (some ⟨g2, 0, none⟩) N N]
  have l1 := h1.lt
  have l2 := h2.lt
  refine ⟨rfl, .inr ⟨w.heap.size, rfl, hB, _, KB, Nat.le_refl _, by unfold maxLen; decide, rfl, rfl⟩, fun k hk => ?_, fun k b hk hb => ?_, fun j k b hjk hk hb => ?_⟩
  · have hk2 : k = 0 ∨ k = 1 := by omega
    rcases hk2 with rfl | rfl
    · exact OwnA.mk (h1.alloc _) b1
    · exact OwnA.mk (h2.alloc _) b2
  · have hk2 : k = 0 ∨ k = 1 := by omega
    intro e
    simp only [blockOf, Option.some.injEq] at e
    rcases hk2 with rfl | rfl
    · rw [pv_two0] at hb
      simp only [blockOf, Option.some.injEq] at hb
      omega
    · rw [pv_two1] at hb
      simp only [blockOf, Option.some.injEq] at hb
      omega
  · obtain rfl : j = 0 := by omega
    obtain rfl : k = 1 := by omega
    rw [pv_two0] at hb
    rw [pv_two1]
    simp only [blockOf, Option.some.injEq] at hb
    intro e
    simp only [blockOf, Option.some.injEq] at e
    omega

theorem filled_stepW {F : Nat → Int} {N k : Nat} {v : Int} (hk : k < N) (hv : F k = v) : (filled (gen N F) (List.replicate N 0) k).set k v = filled (gen N F) (List.replicate N 0) (k + 1) :=
  filled_succ (gen N F) _ k _ (by rw [gen_len]; exact hk) (by simp; omega) (by rw [gen_get _ _ _ hk, hv])

theorem filled_endW {F : Nat → Int} {N : Nat} : filled (gen N F) (List.replicate N 0) N = gen N F := filled_at _ _ _ (gen_len _ _) (by simp)

/-- A place's column and row. -/
theorem cross_place {W H k : Nat} (hk : k < W * H) (hW : 1 ≤ W) (hk2 : k ≤ 1048576) : ∃ X Y : Nat, k % W = X ∧ k / W = Y ∧ X < W ∧ Y < H ∧ ((k : Int).tmod (W : Int) = X) ∧ ((k : Int).tdiv (W : Int) = Y) ∧ IntKind.i64.wrap (X : Int) = X ∧ IntKind.i64.wrap (Y : Int) = Y := by
  have h1 := Nat.mod_lt k (show 0 < W by omega)
  have h4 := Nat.mod_le k W
  have h2 : k / W < H := by rw [Nat.div_lt_iff_lt_mul (by omega), Nat.mul_comm]; exact hk
  have h3 := Nat.div_le_self k W
  have e1 : (k : Int).tmod (W : Int) = ((k % W : Nat) : Int) := by rw [Int.tmod_eq_emod_of_nonneg (by omega)]; norm_cast
  have e2 : (k : Int).tdiv (W : Int) = ((k / W : Nat) : Int) := by rw [Int.tdiv_eq_ediv_of_nonneg (by omega)]; norm_cast
  obtain ⟨X, hX⟩ : ∃ X, k % W = X := ⟨_, rfl⟩
  obtain ⟨Y, hY⟩ : ∃ Y, k / W = Y := ⟨_, rfl⟩
  rw [hX] at h1 h4 e1
  rw [hY] at h2 h3 e2
  exact ⟨X, Y, hX, hY, h1, h2, e1, e2, IntWalk.i64_in _ (by omega), IntWalk.i64_in _ (by omega)⟩

theorem within_iff {cs : List Int} {m : Int} : within cs m = true ↔ ∀ k, k < cs.length → 0 ≤ cs.getD k 0 ∧ cs.getD k 0 ≤ m := by
  constructor
  · intro h k hk
    have := within_at h k hk
    simp only [List.getD_eq_getElem?_getD]
    exact this
  · exact within_mkW

theorem crossC_within {cols : List Int} {W H : Nat} (hc : cols.length = W) (hW : 1 ≤ W) (hH : 1 ≤ H) : within (gen (W * H) (fun i => cols.getD (i % W) 0)) 1 = within cols 1 := by
  have hWH : W * 1 ≤ W * H := Nat.mul_le_mul_left _ hH
  rw [Bool.eq_iff_iff, within_iff, within_iff]
  constructor
  · intro h k hk
    have := h k (by rw [gen_len]; omega)
    rw [gen_get _ _ _ (by omega), Nat.mod_eq_of_lt (by omega)] at this
    exact this
  · intro h k hk
    rw [gen_len] at hk
    rw [gen_get _ _ _ hk]
    exact h _ (by rw [hc]; exact Nat.mod_lt _ (by omega))

theorem crossR_within {rows : List Int} {W H : Nat} (hr : rows.length = H) (hW : 1 ≤ W) (hH : 1 ≤ H) : within (gen (W * H) (fun i => rows.getD (i / W) 0)) 1 = within rows 1 := by
  rw [Bool.eq_iff_iff, within_iff, within_iff]
  constructor
  · intro h k hk
    have hkW : W * (k + 1) ≤ W * H := Nat.mul_le_mul_left _ (by omega)
    rw [Nat.mul_succ] at hkW
    have := h (W * k) (by rw [gen_len]; omega)
    rw [gen_get _ _ _ (by omega), Nat.mul_div_cancel_left _ (by omega)] at this
    exact this
  · intro h k hk
    rw [gen_len] at hk
    rw [gen_get _ _ _ hk]
    exact h _ (by rw [hr, Nat.div_lt_iff_lt_mul (by omega), Nat.mul_comm]; exact hk)

theorem cross_stack {rows cols : List Int} {W H : Nat} (hc : cols.length = W) (hr : rows.length = H) (hs : sizeOk W H = true) :
    stackOk [⟨W, H, gen (W * H) (fun i => cols.getD (i % W) 0)⟩, ⟨W, H, gen (W * H) (fun i => rows.getD (i / W) 0)⟩] = (within cols 1 && within rows 1) := by
  obtain ⟨b1, b2, b3, b4, b5, b6⟩ := sizeOk_bd hs
  have e1 := crossC_within hc (by omega : 1 ≤ W) (by omega : 1 ≤ H)
  have e2 := crossR_within hr (by omega : 1 ≤ W) (by omega : 1 ≤ H)
  have p1 : picOk W H (gen (W * H) (fun i => cols.getD (i % W) 0)) 1 = within cols 1 := by
    unfold picOk
    rw [hs, decide_eq_true (by rw [gen_len]; push_cast; rfl), e1]
    rfl
  have p2 : picOk W H (gen (W * H) (fun i => rows.getD (i / W) 0)) 1 = within rows 1 := by
    unfold picOk
    rw [hs, decide_eq_true (by rw [gen_len]; push_cast; rfl), e2]
    rfl
  unfold stackOk
  simp only [List.all_cons, List.all_nil, p1, p2]
  simp

end Go.Proofs.Ytipcahcljfheaaa
