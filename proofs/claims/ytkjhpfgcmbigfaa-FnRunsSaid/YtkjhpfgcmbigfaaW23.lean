/-
  Chapter 8: the draws and the contracts as the laws call them.
-/
import Derived.Test.YtkjhpfgcmbigfaaQL
import Derived.Test.YtkjhpfgcmbigfaaN0
import Derived.Test.YtkjhpfgcmbigfaaW5
import Derived.Test.YtkjhpfgcmbigfaaC2
import Derived.Test.YtkjhpfgcmbigfaaC10
namespace Go.Proofs.Ytkjhpfgcmbigfaa
open Go.RowKit
set_option linter.unusedVariables false
set_option linter.unusedSimpArgs false

theorem picOk_mkW {W H : Int} {xs : List Int} {m : Int} {n : Nat} (hs : sizeOk W H = true) (hn : xs.length = n) (hq : (n : Int) = W * H) (hw : within xs m = true) : picOk W H xs m = true := by
  rw [picOk_in hn hs hq]; exact hw

def PlateOut (w : World) (M : Int) (e : Ending) (w' : World) : Prop :=
  ∃ (W H : Int) (g n : Nat) (xs : List Int), e = .returned (.agg #[.int .i64 W, .int .i64 H, .slice (some ⟨g, 0, none⟩) n n]) ∧ 1 ≤ W ∧ W ≤ M ∧ 1 ≤ H ∧ H ≤ M ∧ (n : Int) = W * H ∧ 1 ≤ n ∧ n ≤ 64 ∧ w.heap.size ≤ g ∧ Own w' g n n xs ∧ picOk W H xs 1 = true ∧ Below w.heap.size w w'

theorem mkpl_call (ac : Option Addr) (nc capc : Nat) (bs : List Int) (M : Int) (w : World) (hl : bs.length = nc) (hr : RdU w.heap.size w ac bs) (hn : nc ≤ 4611686018427387904) (h1 : 2 ≤ M) (h2 : M ≤ 8) :
    Calls Try.prog 11 #[.slice ac nc capc, .int .i64 M] w (PlateOut w M) := by
  refine (spec_MakePlate ac nc capc bs M w hl hr hn h1 (by omega)).mono ?_
  rintro e w' ⟨W, H, g, n, xs, rfl, b1, b2, b3, b4, hq, hg, ho, hw, hb⟩
  have e1 : W * H ≤ 8 * 8 := Int.mul_le_mul (by omega) (by omega) (by omega) (by omega)
  have e2 : 1 * 1 ≤ W * H := Int.mul_le_mul b1 b3 (by omega) (by omega)
  have hs : sizeOk W H = true := by
    unfold sizeOk
    rw [decide_eq_true_iff]
    omega
  exact ⟨W, H, g, n, xs, rfl, b1, b2, b3, b4, hq, by omega, by omega, hg, ho, picOk_mkW hs ho.len hq hw, hb⟩

/-- A picture of this width, height and these inks is handed back in memory of the call's own. -/
def PicY (w : World) (W H : Int) (n : Nat) (ys : List Int) (e : Ending) (w' : World) : Prop :=
  ∃ (a : Option Addr) (c : Nat), e = .returned (.agg #[.int .i64 W, .int .i64 H, .slice a n c]) ∧ n ≤ c ∧ OwnA w' w.heap.size a n c ys ∧ Below w.heap.size w w'

theorem ownA_cap {w : World} {B n c : Nat} {a : Option Addr} {xs : List Int} (h : OwnA w B a n c xs) : n ≤ c := by
  rcases h with ⟨_, h1, _, _⟩ | ⟨g, _, _, h1⟩
  · omega
  · obtain ⟨_, cur, _, h2, _⟩ := h1
    exact h2

theorem picY {w : World} {W H : Int} {n : Nat} {ys : List Int} {R : Pic} (h : R = ⟨W, H, ys⟩) (hl : ys.length = n) : ∀ e w', PicOut w R e w' → PicY w W H n ys e w' := by
  rintro e w' ⟨a, m, c, he, ho, hm, hb⟩
  subst h
  have hmn : m = n := by have := ho.len; exact this.symm.trans hl
  subst hmn
  exact ⟨a, c, he, ownA_cap ho, ho, hb⟩

theorem least_len (w h n : Nat) (xs : List Int) (m : Int) : (leastG w h xs n m).length = n := by unfold leastG; exact gen_len _ _

theorem least_ok {W H : Int} {n : Nat} {xs : List Int} (hl : xs.length = n) (hp : picOk W H xs 1 = true) (m : Int) : picOk W H (leastG W.toNat H.toNat xs n m) 1 = true := by
  obtain ⟨hs, hn, hw⟩ := picOk_bd hl hp
  exact picOk_mkW hs (least_len _ _ _ _ _) hn (least_within _ _ _ _ _)

theorem grow_call (W H : Int) (a : Option Addr) (n c : Nat) (xs ys : List Int) (w : World) (hl : xs.length = n) (ha : Rd w a xs) (hn : n ≤ 9223372036854775807) (hcap : n ≤ c) (hp : picOk W H xs 1 = true) (hy : leastG W.toNat H.toNat xs n 1 = ys) :
    Calls Try.prog 23 #[.agg #[.int .i64 W, .int .i64 H, .slice a n c]] w (PicY w W H n ys) :=
  (impl_GrowPlate W H a n c xs w hl ha hn hcap).mono (picY (by rw [growF_yes hl hp, hy]) (by rw [← hy]; exact least_len _ _ _ _ _))

theorem shrink_call (W H : Int) (a : Option Addr) (n c : Nat) (xs ys : List Int) (w : World) (hl : xs.length = n) (ha : Rd w a xs) (hn : n ≤ 9223372036854775807) (hcap : n ≤ c) (hp : picOk W H xs 1 = true) (hy : leastG W.toNat H.toNat xs n 5 = ys) :
    Calls Try.prog 24 #[.agg #[.int .i64 W, .int .i64 H, .slice a n c]] w (PicY w W H n ys) :=
  (impl_ShrinkPlate W H a n c xs w hl ha hn hcap).mono (picY (by rw [growF_yes hl hp, hy]) (by rw [← hy]; exact least_len _ _ _ _ _))

theorem snegp_call (W H : Int) (a : Option Addr) (n c : Nat) (xs ys : List Int) (w : World) (hl : xs.length = n) (ha : Rd w a xs) (hn : n ≤ 9223372036854775807) (hp : picOk W H xs 1 = true) (hy : xs.map (fun v => 1 - v) = ys) :
    Calls Try.prog 26 #[.agg #[.int .i64 W, .int .i64 H, .slice a n c]] w (PicY w W H n ys) :=
  (spec_NegativePicture W H a n c xs w hl ha hn).mono (picY (by unfold negF; rw [if_pos (picOk_le hp), ← hy]; simp only [hp, if_true]) (by rw [← hy]; simpa using hl))

theorem covp_call (W H : Int) (a : Option Addr) (n c : Nat) (xs : List Int) (a' : Option Addr) (c' : Nat) (ys : List Int) (w : World) (hl : xs.length = n) (ha : Rd w a xs) (hn : n ≤ 9223372036854775807) (hl' : ys.length = n) (ha' : Rd w a' ys) (hp : picOk W H xs 1 = true) (hq : picOk W H ys 1 = true) (h : ∀ i, i < n → ys.getD i 0 ≤ xs.getD i 0) :
    Calls Try.prog 25 #[.agg #[.int .i64 W, .int .i64 H, .slice a n c], .agg #[.int .i64 W, .int .i64 H, .slice a' n c']] w fun e w' => e = .returned (.bool true) ∧ Below w.heap.size w w' := by
  have hc : coversF W H xs W H ys = true := by
    unfold coversF pairOk
    rw [picOk_le hp, picOk_le hq]
    simp only [Bool.true_and, Bool.and_eq_true, decide_eq_true_eq, List.all_eq_true, List.mem_range]
    refine ⟨by simp, fun i hi => ?_⟩
    have := h i (by omega)
    first | exact this | (rw [decide_eq_true_iff]; exact this)
  exact (impl_CoversPicture W H a n c xs W H a' n c' ys w hl ha hn hl' ha' hn).mono fun e w' ⟨he, hb⟩ => ⟨by rw [he, hc], hb⟩

theorem sump_call (W H : Int) (a : Option Addr) (n c : Nat) (xs : List Int) (s : Int) (w : World) (hl : xs.length = n) (ha : Rd w a xs) (hp : picOk W H xs 1 = true) (hn : n ≤ 9223372036854775807) (hs : isum xs = s) :
    Calls Try.prog 29 #[.agg #[.int .i64 W, .int .i64 H, .slice a n c]] w fun e w' => e = .returned (.int .i64 s) ∧ Below w.heap.size w w' :=
  (impl_SumInk W H a n c xs w hl ha hn).mono fun e w' ⟨he, hb⟩ => ⟨by rw [he]; unfold sumF; rw [if_pos (picOk_le hp), hs], hb⟩

theorem totp_call (a : Option Addr) (n c : Nat) (xs : List Int) (s : Int) (w : World) (hl : xs.length = n) (ha : Rd w a xs) (hw : within xs 255 = true) (hn : n ≤ 1048576) (hs : isum xs = s) :
    Calls Try.prog 18 #[.slice a n c] w fun e w' => e = .returned (.int .i64 s) ∧ Below w.heap.size w w' :=
  (laws_total6 a n c xs w hl ha hw hn).mono fun e w' ⟨he, hw'⟩ => ⟨by rw [he, hs], by rw [← hw']; exact Below.refl _ _⟩

theorem gainp_call (W H : Int) (a : Option Addr) (n c : Nat) (xs : List Int) (s : Int) (w : World) (hl : xs.length = n) (ha : Rd w a xs) (hn : n ≤ 9223372036854775807) (hcap : n ≤ c) (hp : picOk W H xs 1 = true) (hs : isum (leastG W.toNat H.toNat xs n 1) - isum xs = s) :
    Calls Try.prog 27 #[.agg #[.int .i64 W, .int .i64 H, .slice a n c]] w fun e w' => e = .returned (.int .i64 s) ∧ Below w.heap.size w w' :=
  (impl_GainOf W H a n c xs w hl ha hn hcap).mono fun e w' ⟨he, hb⟩ => ⟨by rw [he]; unfold gainF; rw [if_pos hp, hl, hs], hb⟩

end Go.Proofs.Ytkjhpfgcmbigfaa
