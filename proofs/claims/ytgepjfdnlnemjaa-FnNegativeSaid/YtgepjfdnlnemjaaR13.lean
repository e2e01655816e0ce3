/-
  Contracts of the negative and of plates, as the laws call them.
-/
import Derived.Test.YtgepjfdnlnemjaaR12
import Derived.Test.YtgepjfdnlnemjaaR3
import Derived.Test.YtgepjfdnlnemjaaU1
namespace Go.Proofs.Ytgepjfdnlnemjaa
open Go.RowKit
set_option linter.unusedVariables false
set_option linter.unusedSimpArgs false

theorem isum_sub (M : Int) (xs : List Int) : isum (xs.map (fun v => M - v)) + isum xs = M * xs.length := by
  induction xs with
  | nil => simp [isum]
  | cons x xs ih =>
    simp only [List.map_cons, isum, List.length_cons]
    rw [Int.natCast_succ, Int.mul_add, Int.mul_one]
    omega

theorem sub_sub_map (M : Int) (xs : List Int) : (xs.map (fun v => M - v)).map (fun v => M - v) = xs := by
  rw [List.map_map]
  have : ((fun v => M - v) ∘ fun v => M - v) = id := by funext v; simp only [Function.comp, id]; omega
  rw [this, List.map_id]

theorem sub_ok {W H M : Int} {xs : List Int} {n : Nat} (hl : xs.length = n) (hp : picOk W H xs M = true) : picOk W H (xs.map (fun v => M - v)) M = true := by
  obtain ⟨hs, hn, hw⟩ := picOk_bd hl hp
  refine picOk_mk hs (by simpa using hl) hn (within_map (fun v hv => ?_))
  unfold within at hw
  rw [List.all_eq_true] at hw
  have h := hw v hv
  simp at h
  omega

theorem negi_call (W H : Int) (a : Option Addr) (n cp : Nat) (xs ys : List Int) (w : World) (hl : xs.length = n) (ha : Rd w a xs) (hn : n ≤ 9223372036854775807) (hy : negF W H xs = ⟨W, H, ys⟩) (hly : ys.length = n) :
    Calls Try.prog 32 #[.agg #[.int .i64 W, .int .i64 H, .slice a n cp]] w fun e w' =>
      ∃ a' c', e = .returned (.agg #[.int .i64 W, .int .i64 H, .slice a' n c']) ∧ OwnA w' w.heap.size a' n c' ys ∧ Below w.heap.size w w' := by
  refine (impl_NegativePicture W H a n cp xs w hl ha hn).mono ?_
  rintro e w' ⟨a', n', c', he, ho, hn', hb⟩
  rw [hy] at he ho
  have hm : n' = n := by have := ho.len; exact this.symm.trans hly
  subst hm
  exact ⟨a', c', he, ho, hb⟩

theorem ispl_call (W H : Int) (a : Option Addr) (n cp : Nat) (xs : List Int) (b : Bool) (w : World) (hl : xs.length = n) (ha : Rd w a xs) (hn : n ≤ 9223372036854775807) (h : picOk W H xs 1 = b) :
    Calls Try.prog 24 #[.agg #[.int .i64 W, .int .i64 H, .slice a n cp]] w fun e w' => e = .returned (.bool b) ∧ Below w.heap.size w w' :=
  (impl_IsPlate W H a n cp xs w hl ha hn).mono fun e w' ⟨he, hb⟩ => ⟨by rw [he, h], hb⟩

theorem sispl_call (W H : Int) (a : Option Addr) (n cp : Nat) (xs : List Int) (b : Bool) (w : World) (hl : xs.length = n) (ha : Rd w a xs) (hn : n ≤ 9223372036854775807) (h : picOk W H xs 1 = b) :
    Calls Try.prog 35 #[.agg #[.int .i64 W, .int .i64 H, .slice a n cp]] w fun e w' => e = .returned (.bool b) ∧ Below w.heap.size w w' :=
  (spec_IsPlate W H a n cp xs w hl ha hn).mono fun e w' ⟨he, hb⟩ => ⟨by rw [he, h], hb⟩

theorem mkplate_call (ac : Option Addr) (nc capc : Nat) (bs : List Int) (w : World) (hl : bs.length = nc) (hr : RdU w.heap.size w ac bs) (hn : nc ≤ 4611686018427387904) :
    Calls Try.prog 31 #[.slice ac nc capc, .int .i64 9] w fun e w' =>
      ∃ (W H : Int) (a : Option Addr) (n c : Nat) (xs : List Int), e = .returned (.agg #[.int .i64 W, .int .i64 H, .slice a n c]) ∧ 1 ≤ n ∧ n ≤ 81 ∧ xs.length = n ∧ Rd w' a xs ∧ picOk W H xs 1 = true ∧ Below w.heap.size w w' := by
  refine (spec_MakePlate ac nc capc bs 9 w hl hr hn (by omega) (by omega)).mono ?_
  rintro e w' ⟨W, H, g, n, xs, rfl, b1, b2, b3, b4, hq, hg, ho, hw, hb⟩
  have e1 : W * H ≤ 9 * 9 := Int.mul_le_mul (by omega) (by omega) (by omega) (by omega)
  have e2 : 1 * 1 ≤ W * H := Int.mul_le_mul b1 b3 (by omega) (by omega)
  have hs : sizeOk W H = true := by
    unfold sizeOk
    rw [decide_eq_true_iff]
    omega
  exact ⟨W, H, _, n, n, xs, rfl, by omega, by omega, ho.len, ho.rd, picOk_mk hs ho.len hq hw, hb⟩

theorem fresh_call (ac : Option Addr) (nc capc : Nat) (bs : List Int) (B0 : Nat) (w : World) (hl : bs.length = nc) (hr : RdU B0 w ac bs) (hB0 : B0 ≤ w.heap.size) (hn : nc ≤ 1048576) :
    Calls Try.prog 20 #[.slice ac nc capc, .int .i64 3] w (FreshOut w) := laws_fresh ac nc capc bs B0 w hl hr hB0 hn

end Go.Proofs.Ytgepjfdnlnemjaa
