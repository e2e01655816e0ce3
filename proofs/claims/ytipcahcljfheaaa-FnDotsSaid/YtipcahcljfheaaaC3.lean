/-
  Contracts of FlatPicture and RampPicture, of the program (impl) and of the model (spec).
-/
import Derived.Test.YtipcahcljfheaaaC1
import Derived.StillTailTactics
namespace Go.Proofs.Ytipcahcljfheaaa
open Go.RowKit
set_option linter.unusedVariables false
set_option linter.unusedSimpArgs false

theorem flatF_no {W H v : Int} (h : ¬ (sizeOk W H = true ∧ 0 ≤ v ∧ v ≤ 255)) : flatF W H v = (noPic, false) := by unfold flatF; rw [if_neg h]

theorem flatF_yes {W H v : Int} {n : Nat} (h : sizeOk W H = true) (h2 : 0 ≤ v) (h3 : v ≤ 255) (hn : (n : Int) = W * H) : flatF W H v = (⟨W, H, List.replicate n v⟩, true) := by
  unfold flatF; rw [if_pos ⟨h, h2, h3⟩, ← hn]; simp

theorem spec_l1In_yes (x a b : Int) (w : World) (h1 : a ≤ x) (h2 : x ≤ b) :
    Calls Try.prog 52 #[.int .i64 x, .int .i64 a, .int .i64 b] w fun e w' => e = .returned (.bool true) ∧ w = w' :=
  (spec_l1In x a b w).mono fun e w' ⟨he, hw⟩ => ⟨by rw [he]; exact ret_bool (by simp [h1, h2]), hw⟩

theorem spec_l1In_no (x a b : Int) (w : World) (h : ¬ (a ≤ x ∧ x ≤ b)) :
    Calls Try.prog 52 #[.int .i64 x, .int .i64 a, .int .i64 b] w fun e w' => e = .returned (.bool false) ∧ w = w' :=
  (spec_l1In x a b w).mono fun e w' ⟨he, hw⟩ => ⟨by rw [he]; exact ret_bool (by simpa using h), hw⟩

theorem spec_l1Size_yes (W H : Int) (w : World) (h : sizeOk W H = true) :
    Calls Try.prog 51 #[.int .i64 W, .int .i64 H] w fun e w' => e = .returned (.bool true) ∧ w = w' :=
  (spec_l1Size W H w).mono fun e w' ⟨he, hw⟩ => ⟨by rw [he, h], hw⟩

theorem spec_l1Size_no (W H : Int) (w : World) (h : ¬ sizeOk W H = true) :
    Calls Try.prog 51 #[.int .i64 W, .int .i64 H] w fun e w' => e = .returned (.bool false) ∧ w = w' :=
  (spec_l1Size W H w).mono fun e w' ⟨he, hw⟩ => ⟨by rw [he]; exact ret_bool (by simpa using h), hw⟩

theorem impl_isSize_yes (W H : Int) (w : World) (h : sizeOk W H = true) :
    Calls Try.prog 32 #[.int .i64 W, .int .i64 H] w fun e w' => e = .returned (.bool true) ∧ w = w' :=
  (impl_isSize W H w).mono fun e w' ⟨he, hw⟩ => ⟨by rw [he, h], hw⟩

theorem impl_isSize_no (W H : Int) (w : World) (h : ¬ sizeOk W H = true) :
    Calls Try.prog 32 #[.int .i64 W, .int .i64 H] w fun e w' => e = .returned (.bool false) ∧ w = w' :=
  (impl_isSize W H w).mono fun e w' ⟨he, hw⟩ => ⟨by rw [he]; exact ret_bool (by simpa using h), hw⟩

theorem rampF_no {W H : Int} (h : ¬ sizeOk W H = true) : rampF W H = (noPic, false) := by unfold rampF; rw [if_neg h]

theorem gen_zero (n : Nat) (f : Nat → Int) (h : ∀ k, f k = 0) : gen n f = List.replicate n 0 := by
  symm; exact gen_ext n f _ (by simp) (fun k hk => by rw [h k]; simp [List.getD, hk])
def rampG (W : Int) (i : Nat) : Int := if 1 < W then (i : Int) % W * 255 / (W - 1) else 0

theorem rampF_yes {W H : Int} {n : Nat} (h : sizeOk W H = true) (hn : (n : Int) = W * H) : rampF W H = (⟨W, H, gen n (rampG W)⟩, true) := by
  unfold rampF; rw [if_pos h, ← hn]; simp; rfl

theorem ramp1 {W : Int} {k : Nat} (h : 1 < W) : (k : Int) % W * 255 / (W - 1) = rampG W k := by unfold rampG; rw [if_pos h]

theorem ramp0 {W : Int} {k : Nat} (h : ¬ 1 < W) : rampG W k = 0 := by unfold rampG; rw [if_neg h]

end Go.Proofs.Ytipcahcljfheaaa
