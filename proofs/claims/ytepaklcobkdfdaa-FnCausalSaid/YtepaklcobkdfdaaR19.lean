/-
  Contracts as chapter 5's laws call them.
-/
import Derived.Test.YtepaklcobkdfdaaR17
import Derived.Test.YtepaklcobkdfdaaR18
import Derived.Test.YtepaklcobkdfdaaK15
import Derived.Test.YtepaklcobkdfdaaC2
import Derived.Test.YtepaklcobkdfdaaC3
import Derived.Test.YtepaklcobkdfdaaM27
namespace Go.Proofs.Ytepaklcobkdfdaa
open Go.RowKit
set_option linter.unusedVariables false
set_option linter.unusedSimpArgs false

theorem picOk_mkB {W H : Int} {xs : List Int} {m : Int} {n : Nat} (hs : sizeOk W H = true) (hn : xs.length = n) (hq : (n : Int) = W * H) (hw : within xs m = true) : picOk W H xs m = true := by
  rw [picOk_in hn hs hq]; exact hw

theorem pic_callB (ac : Option Addr) (nc capc : Nat) (bs : List Int) (most : Int) (w : World) (hl : bs.length = nc) (hr : RdU w.heap.size w ac bs) (hn : nc ≤ 4611686018427387904) (h1 : 1 ≤ most) (h2 : most ≤ 9) :
    Calls Try.prog 16 #[.slice ac nc capc, .int .i64 most] w fun e w' =>
      ∃ (W H : Int) (a : Option Addr) (n c : Nat) (xs : List Int), e = .returned (.agg #[.int .i64 W, .int .i64 H, .slice a n c]) ∧ 1 ≤ W ∧ W ≤ 9 ∧ 1 ≤ H ∧ H ≤ 9 ∧ sizeOk W H = true ∧ (n : Int) = W * H ∧ 1 ≤ n ∧ n ≤ 81 ∧ n ≤ c ∧ c ≤ 1048576 ∧ xs.length = n ∧ Rd w' a xs ∧ picOk W H xs 255 = true ∧ within xs 255 = true ∧ Below w.heap.size w w' := by
  refine (spec_MakePicture ac nc capc bs most w hl hr hn h1 (by omega)).mono ?_
  rintro e w' ⟨W, H, g, n, xs, rfl, b1, b2, b3, b4, hq, hg, ho, hw, hb⟩
  have e1 : W * H ≤ 9 * 9 := Int.mul_le_mul (by omega) (by omega) (by omega) (by omega)
  have e2 : 1 * 1 ≤ W * H := Int.mul_le_mul b1 b3 (by omega) (by omega)
  have hs : sizeOk W H = true := by
    unfold sizeOk
    rw [decide_eq_true_iff]
    omega
  exact ⟨W, H, _, n, n, xs, rfl, b1, by omega, b3, by omega, hs, hq, by omega, by omega, by omega, by omega, ho.len, ho.rd, picOk_mkB hs ho.len hq hw, hw, hb⟩

theorem cnt_callB (W H : Int) (a : Option Addr) (n cp : Nat) (xs : List Int) (v c : Int) (w : World) (hl : xs.length = n) (ha : Rd w a xs) (hp : picOk W H xs 255 = true) (hn : n ≤ 9223372036854775807) (hs : (icount v xs : Int) = c) :
    Calls Try.prog 20 #[.agg #[.int .i64 W, .int .i64 H, .slice a n cp], .int .i64 v] w fun e w' => e = .returned (.int .i64 c) ∧ Below w.heap.size w w' := by
  refine (impl_CountInk W H a n cp xs v w hl ha hn).mono ?_
  rintro e w' ⟨he, hb⟩
  unfold countF at he
  rw [if_pos hp, hs] at he
  exact ⟨he, hb⟩

theorem flat_callB (V U ink : Int) (m : Nat) (w : World) (hs : sizeOk V U = true) (hq : (m : Int) = V * U) (h0 : 0 ≤ ink) (h1 : ink ≤ 255) :
    Calls Try.prog 32 #[.int .i64 V, .int .i64 U, .int .i64 ink] w fun e w' =>
      ∃ a' c', e = .returned (.tuple #[.agg #[.int .i64 V, .int .i64 U, .slice a' m c'], .bool true]) ∧ OwnA w' w.heap.size a' m c' (List.replicate m ink) ∧ Below w.heap.size w w' := by
  refine (impl_FlatPicture V U ink w).mono ?_
  rintro e w' ⟨a', k, c', he, ho, hk, hbb⟩
  have e1 : flatF V U ink = (⟨V, U, List.replicate m ink⟩, true) := by unfold flatF; rw [if_pos ⟨hs, h0, h1⟩, ← hq]; simp
  rw [e1] at he ho
  obtain rfl : m = k := by have := ho.len; simp at this; exact this
  exact ⟨a', c', he, ho, hbb⟩

theorem diff_call (kad : Option Addr) (kn kcap : Nat) (ks : List Prt) (W H : Int) (ad : Option Addr) (n cap : Nat) (xs : List Int) (alt : Bool) (ds : List Int) (L : Int) (w : World)
    (hkl : ks.length = kn) (hkr : Rd w kad (flat ks)) (hkm : kn ≤ 1048576) (hkc : kn ≤ kcap) (hn : xs.length = n) (ha : Rd w ad xs) (hl : n ≤ 9223372036854775807)
    (hk : kernOk ks = true) (hp : picOk W H xs 255 = true) (hd : (runG alt ks W H xs n).dots = ds) (hL : (runG alt ks W H xs n).lost = L) :
    Calls Try.prog 18 #[.slice kad kn kcap, .agg #[.int .i64 W, .int .i64 H, .slice ad n cap], .bool alt] w fun e w' =>
      ∃ a' c', e = .returned (.tuple #[.agg #[.int .i64 W, .int .i64 H, .slice a' n c'], .int .i64 L, .bool true]) ∧ OwnA w' w.heap.size a' n c' ds ∧ Below w.heap.size w w' := by
  refine (impl_DiffusePicture kad kn kcap ks W H ad n cap xs alt w hkl hkr hkm hkc hn ha hl).mono ?_
  rintro e w' ⟨a', m, c', he, ho, hm, hb⟩
  rw [diffF_yes hn hk hp, hd, hL] at he
  rw [diffF_yes hn hk hp] at ho
  dsimp only at he ho
  rw [hd] at ho
  have e1 : n = m := by rw [← ho.len, ← hd, (run_len n).1]; exact hn.symm
  subst e1
  exact ⟨a', c', he, ho, hb⟩

theorem icount_rep (v : Int) (n : Nat) : (icount v (List.replicate n v) : Int) = n := by
  induction n with
  | zero => rfl
  | succ n ih => rw [List.replicate_succ, icount_cons]; simp; omega

end Go.Proofs.Ytepaklcobkdfdaa
