/-
  Contracts of chapter 8: tones (program and model), and the laws' comparison of two floats.
-/
import Derived.Test.YthokmanjiebimaaW2
import Derived.Laws.FloatArith
namespace Go.Proofs.Ythokmanjiebimaa
open Go.RowKit
set_option linter.unusedVariables false
set_option linter.unusedSimpArgs false

/-! Floats, plain. -/

open Ieee in
/-- A word whose rung is below infinity's reads as a number. -/
theorem read_word (f : Format) (neg : Bool) {rung : Nat} (h : rung < f.infRung) : ∃ m e, f.read (f.word neg rung) = .number neg m e := by
  have h1 := f.infRung_lt
  have hr : f.word neg rung % f.signWeight = rung := by
    unfold Format.word
    cases neg
    · simp only [Bool.false_eq_true, if_false]
      exact Nat.mod_eq_of_lt (by omega)
    · simp only [if_true, Nat.add_mod_left]
      exact Nat.mod_eq_of_lt (by omega)
  have hd : (f.word neg rung / f.signWeight % 2 == 1) = neg := by
    unfold Format.word
    cases neg
    · simp only [Bool.false_eq_true, if_false]
      rw [Nat.div_eq_of_lt (by omega)]
      rfl
    · simp only [if_true]
      rw [Nat.add_comm, Nat.add_div_right _ (by omega), Nat.div_eq_of_lt (by omega)]
      rfl
  unfold Format.read
  simp only [hr, hd]
  split
  · exact ⟨_, _, rfl⟩
  · exact ⟨_, _, rfl⟩

open Ieee in
theorem read_inf (f : Format) (neg : Bool) (hb : f.binade ≤ f.infRung) : f.read (f.word neg f.infRung) = .infinity neg := by
  have h1 := f.infRung_lt
  have hr : f.word neg f.infRung % f.signWeight = f.infRung := by
    unfold Format.word
    cases neg
    · simp only [Bool.false_eq_true, if_false]
      exact Nat.mod_eq_of_lt (by omega)
    · simp only [if_true, Nat.add_mod_left]
      exact Nat.mod_eq_of_lt (by omega)
  have hd : (f.word neg f.infRung / f.signWeight % 2 == 1) = neg := by
    unfold Format.word
    cases neg
    · simp only [Bool.false_eq_true, if_false]
      rw [Nat.div_eq_of_lt (by omega)]
      rfl
    · simp only [if_true]
      rw [Nat.add_comm, Nat.add_div_right _ (by omega), Nat.div_eq_of_lt (by omega)]
      rfl
  unfold Format.read
  simp only [hr, hd]
  rw [if_neg (by omega), if_neg (by omega), if_pos trivial]

open Ieee in
/-- The nearest word is no NaN. -/
theorem read_nearest (f : Format) (neg : Bool) (mag : Nat) (place : Int) (hb : f.binade ≤ f.infRung) (h0 : 0 < f.infRung) : (∃ m e, f.read (f.nearest neg mag place) = .number neg m e) ∨ f.read (f.nearest neg mag place) = .infinity neg := by
  unfold Format.nearest
  split
  · exact Or.inl (read_word f neg h0)
  · dsimp only
    generalize ((max (place + mag.log2 - f.fractionBits) f.leastPlace) - f.leastPlace).toNat * f.binade + Toward.even.cut neg (mag <<< (place - max (place + mag.log2 - f.fractionBits) f.leastPlace).toNat) (max (place + mag.log2 - f.fractionBits) f.leastPlace - place).toNat = r
    by_cases h : r < f.infRung
    · rw [Nat.min_eq_left (by omega)]
      exact Or.inl (read_word f neg h)
    · rw [Nat.min_eq_right (by omega)]
      exact Or.inr (read_inf f neg hb)

/-- Whole numbers up to 1024 are numbers of single precision, and none but 0 is zero. -/
def wholeB (k : Nat) : Bool := match FloatKind.f32.decode (floatOfInt .f32 (k : Int)) with
  | .number _ m _ => k == 0 || m != 0
  | _ => false

theorem whole_all : (List.range 1025).all wholeB = true := by decide +kernel

theorem whole_num {S : Int} (h0 : 0 ≤ S) (h1 : S ≤ 1024) : ∃ s m e, FloatKind.f32.decode (floatOfInt .f32 S) = .number s m e ∧ (S ≠ 0 → m ≠ 0) := by
  obtain ⟨k, rfl⟩ : ∃ k : Nat, S = k := ⟨S.toNat, by omega⟩
  have h := List.all_eq_true.1 whole_all k (List.mem_range.2 (by omega))
  unfold wholeB at h
  split at h
  · rename_i s m e he
    refine ⟨s, m, e, he, fun hk hm => ?_⟩
    simp only [Bool.or_eq_true, beq_iff_eq, bne_iff_ne, ne_eq] at h
    rcases h with h | h
    · exact hk (by rw [h]; rfl)
    · exact h hm
  · cases h

/-- The tone of a plate: its bits. -/
def toneB (S n : Int) : Nat := (FloatKind.f32.format.div (floatOfInt .f32 S) (floatOfInt .f32 n)).getD 0

theorem tone_div {S n : Int} (h0 : 0 ≤ S) (h1 : S ≤ 1024) (n0 : 1 ≤ n) (n1 : n ≤ 1024) : floatBits .quo .f32 (floatOfInt .f32 S) (floatOfInt .f32 n) = some (toneB S n) := by
  obtain ⟨s, m, e, he, _⟩ := whole_num h0 h1
  obtain ⟨s2, m2, e2, he2, hz⟩ := whole_num (S := n) (by omega) n1
  have hm := hz (by omega)
  unfold toneB floatBits
  simp only
  unfold FloatKind.decode at he he2
  unfold Ieee.Format.div
  rw [he, he2]
  simp only [Ieee.Datum.quotient, if_neg hm, Option.map_some, Option.getD_some]

theorem tone_num {S n : Int} (h0 : 0 ≤ S) (h1 : S ≤ 1024) (n0 : 1 ≤ n) (n1 : n ≤ 1024) : (∃ s m e, FloatKind.f32.decode (toneB S n) = .number s m e) ∨ (∃ s, FloatKind.f32.decode (toneB S n) = .infinity s) := by
  obtain ⟨s, m, e, he, _⟩ := whole_num h0 h1
  obtain ⟨s2, m2, e2, he2, hz⟩ := whole_num (S := n) (by omega) n1
  have hm := hz (by omega)
  unfold toneB
  unfold FloatKind.decode at he he2 ⊢
  unfold Ieee.Format.div
  rw [he, he2]
  simp only [Ieee.Datum.quotient, if_neg hm, Option.map_some, Option.getD_some, Ieee.Format.write]
  rcases read_nearest FloatKind.f32.format (s ^^ s2) _ _ (by decide +kernel) (by decide +kernel) with ⟨a, b, h⟩ | h
  · exact Or.inl ⟨_, a, b, h⟩
  · exact Or.inr ⟨_, h⟩

/-- What a word of single precision reads as: its digits and its place are small. -/
theorem f32_small {b : Nat} {s : Bool} {m : Nat} {e : Int} (h : FloatKind.f32.decode b = .number s m e) : m < 2 ^ 24 ∧ -149 ≤ e ∧ e ≤ 105 := by
  unfold FloatKind.decode Ieee.Format.read at h
  have b1 : FloatKind.f32.format.binade = 8388608 := by decide +kernel
  have b2 : FloatKind.f32.format.infRung = 2139095040 := by decide +kernel
  have b3 : FloatKind.f32.format.leastPlace = -149 := by decide +kernel
  simp only [b1, b2, b3] at h
  generalize b % FloatKind.f32.format.signWeight = r at h
  split at h
  · simp only [Ieee.Datum.number.injEq] at h
    omega
  · split at h
    · simp only [Ieee.Datum.number.injEq] at h
      omega
    · split at h <;> cases h

open Ieee in
theorem f64_near (s : Bool) {m : Nat} {e : Int} (hm : m < 2 ^ 24) (h1 : -149 ≤ e) (h2 : e ≤ 105) : (FloatKind.f64.decode (FloatKind.f64.encode (.number s m e))).isInfinity = false := by
  have b1 : FloatKind.f64.format.binade = 4503599627370496 := by decide +kernel
  have b2 : FloatKind.f64.format.infRung = 9218868437227405312 := by decide +kernel
  have b3 : FloatKind.f64.format.leastPlace = -1074 := by decide +kernel
  have b4 : FloatKind.f64.format.fractionBits = 52 := by decide +kernel
  have key : ∃ r, r < FloatKind.f64.format.infRung ∧ FloatKind.f64.format.nearest s m e = FloatKind.f64.format.word s r := by
    unfold Format.nearest
    by_cases h0 : m = 0
    · rw [if_pos h0]
      exact ⟨0, by rw [b2]; omega, rfl⟩
    · rw [if_neg h0]
      have l1 : m.log2 < 24 := (Nat.log2_lt h0).2 hm
      have l2 : m < 2 ^ (m.log2 + 1) := Nat.lt_log2_self
      dsimp only
      rw [b1, b2, b3, b4]
      obtain ⟨L, hL⟩ : ∃ L, m.log2 = L := ⟨_, rfl⟩
      rw [hL] at l1 l2 ⊢
      have e1 : max (e + (L : Int) - ((52 : Nat) : Int)) (-1074) = e + L - 52 := by omega
      rw [e1]
      have e2 : (e + (L : Int) - 52 - e).toNat = 0 := by omega
      have e3 : (e - (e + (L : Int) - 52)).toNat = 52 - L := by omega
      rw [e2, e3]
      have e4 : Toward.even.cut s (m <<< (52 - L)) 0 = m <<< (52 - L) := by
        unfold Toward.cut
        simp
        omega
      rw [e4]
      have e5 : m <<< (52 - L) < 2 ^ 53 := by
        rw [Nat.shiftLeft_eq]
        have : m * 2 ^ (52 - L) < 2 ^ (L + 1) * 2 ^ (52 - L) := Nat.mul_lt_mul_of_pos_right l2 (Nat.pow_pos (by decide))
        rw [← Nat.pow_add, show L + 1 + (52 - L) = 53 by omega] at this
        exact this
      have e6 : (e + (L : Int) - 52 - -1074).toNat ≤ 1150 := by omega
      rw [show (2 : Nat) ^ 53 = 9007199254740992 from rfl] at e5
      generalize (e + (L : Int) - 52 - -1074).toNat = T at e6 ⊢
      generalize m <<< (52 - L) = Y at e5 ⊢
      clear e1 e2 e3 e4 l1 l2 hL h0 hm h1 h2
      have e8 : T * 4503599627370496 + Y < 9218868437227405312 := by omega
      rw [Nat.min_eq_left (Nat.le_of_lt e8)]
      exact ⟨_, e8, rfl⟩
  obtain ⟨r, hr, hk⟩ := key
  obtain ⟨a, c, h⟩ := read_word FloatKind.f64.format s hr
  show (FloatKind.f64.format.read (FloatKind.f64.format.nearest s m e)).isInfinity = false
  rw [hk, h]
  rfl

/-- In double precision. -/
def toneD (S n : Int) : Nat := (floatToFloatBits .f32 (toneB S n) .f64).getD 0

theorem wide_some {b : Nat} (h : (∃ s m e, FloatKind.f32.decode b = .number s m e) ∨ (∃ s, FloatKind.f32.decode b = .infinity s)) : floatToFloatBits .f32 b .f64 = some ((floatToFloatBits .f32 b .f64).getD 0) := by
  have hne : ¬ FloatKind.f32 = FloatKind.f64 := by decide
  have key : ∃ r, floatToFloatBits .f32 b .f64 = some r := by
    rcases h with ⟨s, m, e, h⟩ | ⟨s, h⟩
    · obtain ⟨h1, h2, h3⟩ := f32_small h
      have hi := f64_near s h1 h2 h3
      unfold floatToFloatBits
      rw [if_neg hne, h]
      dsimp only
      rw [hi]
      obtain ⟨r, hr⟩ : ∃ r, FloatKind.f64.encode (.number s m e) = r := ⟨_, rfl⟩
      rw [hr]
      exact ⟨r, if_neg (by decide)⟩
    · unfold floatToFloatBits
      rw [if_neg hne, h]
      dsimp only
      obtain ⟨r, hr⟩ : ∃ r, FloatKind.f64.encode (.infinity s) = r := ⟨_, rfl⟩
      rw [hr]
      exact ⟨r, rfl⟩
  obtain ⟨r, hr⟩ := key
  rw [hr, Option.getD_some]

theorem order_self (f : Ieee.Format) (x : Nat) : f.order x x = some .eq ∨ f.order x x = none := by
  unfold Ieee.Format.order
  cases h : f.read x with
  | number s m e => left; simp [Ieee.Datum.order]
  | infinity s => left; simp [Ieee.Datum.order]
  | nan s t => right; simp [Ieee.Datum.order]

theorem zero_div {x : Nat} (h : FloatKind.f64.format.order x 0 = some .eq) : ∃ r, floatBits .quo .f64 4607182418800017408 x = some r := by
  have h0 : FloatKind.f64.format.read 0 = .number false 0 (-1074) := by decide +kernel
  have h1 : FloatKind.f64.format.read 4607182418800017408 = .number false 4503599627370496 (-52) := by decide +kernel
  unfold Ieee.Format.order at h
  rw [h0] at h
  unfold floatBits
  simp only
  unfold Ieee.Format.div
  rw [h1]
  cases hx : FloatKind.f64.format.read x with
  | number s m e =>
    by_cases hm : m = 0
    · subst hm; exact ⟨_, rfl⟩
    · obtain ⟨d, hd⟩ : ∃ d, Ieee.Datum.quotient (FloatKind.f64.format.fractionBits + 2) (.number false 4503599627370496 (-52)) (.number s m e) = some d := by
        simp only [Ieee.Datum.quotient, if_neg hm]
        exact ⟨_, rfl⟩
      rw [hd]
      exact ⟨_, Option.map_some ..⟩
  | infinity s => exact ⟨_, rfl⟩
  | nan s t => rw [hx] at h; simp [Ieee.Datum.order] at h

set_option maxHeartbeats 1600000 in
theorem sameFloat_self (x : Nat) (w : World) :
    Calls Try.prog 53 #[.float .f64 x, .float .f64 x] w fun e w' => e = .returned (.bool true) ∧ w = w' := by
  rcases order_self FloatKind.f64.format x with h | h
  · have h1 : (FloatKind.f64.format.order x x == some .eq) = true := by rw [h]; rfl
    have h2 : (FloatKind.f64.format.order x x != some .eq) = false := by rw [h]; rfl
    clear h
    by_cases hz : FloatKind.f64.format.order x 0 = some .eq
    · have h3 : (FloatKind.f64.format.order x 0 == some .eq) = true := by rw [hz]; rfl
      obtain ⟨r, hr⟩ := zero_div hz
      have hq := fun w : World => run_float_arith (P := Try.prog) w .quo 60 .f64 4607182418800017408 x r hr
      clear hz hr
      obtain ⟨B, hB⟩ : ∃ B, (FloatKind.f64.format.order r 0 == some .gt) = B := ⟨_, rfl⟩
      have hBB : (B == B) = true := by simp
      go_enter Try.func53, Try.ntmps53
      go_wp2_with fail
      go_ret
      exact ⟨by first | rfl | simp, rfl⟩
    · have h3 : (FloatKind.f64.format.order x 0 == some .eq) = false := by simpa using hz
      clear hz
      go_enter Try.func53, Try.ntmps53
      go_wp2_with fail
      go_ret
      exact ⟨by first | rfl | simp, rfl⟩
  · have h1 : (FloatKind.f64.format.order x x == some .eq) = false := by rw [h]; rfl
    have h2 : (FloatKind.f64.format.order x x != some .eq) = true := by rw [h]; rfl
    clear h
    go_enter Try.func53, Try.ntmps53
    go_wp2_with fail
    go_ret
    exact ⟨by first | rfl | simp, rfl⟩

def toneF (W H : Int) (xs : List Int) : Nat := if picOk W H xs 1 = true then toneB (isum xs) (xs.length : Int) else 0

end Go.Proofs.Ythokmanjiebimaa
