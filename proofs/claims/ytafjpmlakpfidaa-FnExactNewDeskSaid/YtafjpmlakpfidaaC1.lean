/-
  Contracts of chapter 2's functions, of the program (impl) and of the model (spec): blank pictures, InkAt, FlatPicture, RampPicture.
-/
import Derived.Test.YtafjpmlakpfidaaSize
namespace Go.Proofs.Ytafjpmlakpfidaa
open Go.RowKit
set_option linter.unusedVariables false
set_option linter.unusedSimpArgs false

theorem toNat_mul {W H : Int} (h : sizeOk W H = true) : ((W * H).toNat : Int) = W * H ∧ (W * H).toNat ≤ 1024 ∧ 1 ≤ (W * H).toNat := by
  obtain ⟨_, _, _, _, b5, b6⟩ := sizeOk_bd h
  omega

set_option maxHeartbeats 400000 in
theorem impl_blank (W H : Int) (n : Nat) (w : World) (hs : sizeOk W H = true) (hn : (n : Int) = W * H) :
    Calls Try.prog 40 #[.int .i64 W, .int .i64 H] w fun e w' => ∃ g, e = .returned (.agg #[.int .i64 W, .int .i64 H, .slice (some ⟨g, 0, none⟩) n n]) ∧ w.heap.size ≤ g ∧ Own w' g n n (List.replicate n 0) ∧ Below w.heap.size w w' := by
  obtain ⟨b1, b2, b3, b4, b5, b6⟩ := sizeOk_bd hs
  have HN := Lib.hid hn
  have hn2 : n ≤ 1024 := by omega
  clear hn
  go_enter Try.func40, Try.ntmps40
  go_wp2_with (at_make; refine wp_make _ rfl _ _ rfl .i64 .i64 (W * H) (W * H) n rfl rfl HN.out.symm HN.out.symm (by omega) ?_; intro M hM)
  have HM := Lib.hid hM
  clear hM
  refine bodyPost_ret (v := .agg #[.int .i64 W, .int .i64 H, .slice (some ⟨w.heap.size + 1, 0, none⟩) n n]) (by simp [results, Try.results40, go_sem]) rfl ⟨w.heap.size + 1, rfl, by omega, ?_, ?_⟩
  · exact HM.out.own' _ (by simp)
  · exact Joins.below_alloc2 _ _ _

set_option maxHeartbeats 400000 in
theorem spec_l1Empty (W H : Int) (n : Nat) (w : World) (hs : sizeOk W H = true) (hn : (n : Int) = W * H) :
    Calls Try.prog 14 #[.int .i64 W, .int .i64 H] w fun e w' => ∃ g, e = .returned (.agg #[.int .i64 W, .int .i64 H, .slice (some ⟨g, 0, none⟩) n n]) ∧ w.heap.size ≤ g ∧ Own w' g n n (List.replicate n 0) ∧ Below w.heap.size w w' := by
  obtain ⟨b1, b2, b3, b4, b5, b6⟩ := sizeOk_bd hs
  have HN := Lib.hid hn
  have hn2 : n ≤ 1024 := by omega
  clear hn
  go_enter Try.func14, Try.ntmps14
  go_wp2_with (at_make; refine wp_make _ rfl _ _ rfl .i64 .i64 (W * H) (W * H) n rfl rfl HN.out.symm HN.out.symm (by omega) ?_; intro M hM)
  have HM := Lib.hid hM
  clear hM
  refine bodyPost_ret (v := .agg #[.int .i64 W, .int .i64 H, .slice (some ⟨w.heap.size + 1, 0, none⟩) n n]) (by simp [results, Try.results14, go_sem]) rfl ⟨w.heap.size + 1, rfl, by omega, ?_, ?_⟩
  · exact HM.out.own' _ (by simp)
  · exact Joins.below_alloc2 _ _ _

theorem inkAt_no1 {W H : Int} {xs : List Int} {x y : Int} (h : picOk W H xs 255 = false) : inkAt W H xs x y = -1 := by unfold inkAt; simp [h]

theorem inkAt_no2 {W H : Int} {xs : List Int} {x y : Int} (h : ¬ (0 ≤ x ∧ x < W ∧ 0 ≤ y ∧ y < H)) : inkAt W H xs x y = -1 := by unfold inkAt; rw [if_neg (fun c => h c.2)]

theorem inkAt_yes {W H : Int} {xs : List Int} {x y : Int} (h : picOk W H xs 255 = true) (h2 : 0 ≤ x ∧ x < W ∧ 0 ≤ y ∧ y < H) : inkAt W H xs x y = xs.getD (y * W + x).toNat 0 := by unfold inkAt; rw [if_pos ⟨h, h2⟩]

theorem idx_bd {W H x y : Int} {n : Nat} (hn : (n : Int) = W * H) (h1 : 0 ≤ x) (h2 : x < W) (h3 : 0 ≤ y) (h4 : y < H) : 0 ≤ y * W ∧ y * W + x < n := by
  have e1 : 0 ≤ y * W := Int.mul_nonneg h3 (by omega)
  have e2 : (y + 1) * W ≤ H * W := Int.mul_le_mul_of_nonneg_right (by omega) (by omega)
  rw [Int.add_mul, Int.one_mul] at e2
  rw [hn, Int.mul_comm W H]
  omega

end Go.Proofs.Ytafjpmlakpfidaa
