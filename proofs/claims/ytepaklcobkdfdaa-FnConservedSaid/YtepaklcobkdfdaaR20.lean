/-
  Contracts as chapter 5's laws call them: errors, plates, what is kept.
-/
import Derived.Test.YtepaklcobkdfdaaR19
import Derived.Test.YtepaklcobkdfdaaK16
import Derived.Test.YtepaklcobkdfdaaC4
import Derived.Test.YtepaklcobkdfdaaU1
namespace Go.Proofs.Ytepaklcobkdfdaa
open Go.RowKit
set_option linter.unusedVariables false
set_option linter.unusedSimpArgs false

theorem isum_bits {xs : List Int} (h : within xs 1 = true) : isum xs = (icount 1 xs : Int) := by
  induction xs with
  | nil => rfl
  | cons x xs ih =>
    unfold within at h ih
    rw [List.all_cons, Bool.and_eq_true] at h
    rw [icount_cons, isum, ih h.2]
    have := of_decide_eq_true h.1
    by_cases e : x = 1
    · subst e; simp
    · have : x = 0 := by omega
      subst this; simp

theorem plate_callB (W H : Int) (a : Option Addr) (n cp : Nat) (xs : List Int) (w : World) (hl : xs.length = n) (ha : Rd w a xs) (hn : n ≤ 9223372036854775807) (hp : picOk W H xs 1 = true) :
    Calls Try.prog 19 #[.agg #[.int .i64 W, .int .i64 H, .slice a n cp]] w fun e w' => e = .returned (.bool true) ∧ Below w.heap.size w w' :=
  (impl_IsPlate W H a n cp xs w hl ha hn).mono fun e w' ⟨he, hb⟩ => ⟨by rw [he, hp], hb⟩

theorem tot_callB (a : Option Addr) (n cp : Nat) (xs : List Int) (s : Int) (w : World) (hl : xs.length = n) (ha : Rd w a xs) (hw : within xs 255 = true) (hn : n ≤ 1048576) (hs : isum xs = s) :
    Calls Try.prog 15 #[.slice a n cp] w fun e w' => e = .returned (.int .i64 s) ∧ Below w.heap.size w w' := by
  refine (laws_total a n cp xs w hl ha hw hn).mono ?_
  rintro e w' ⟨he, rfl⟩
  rw [hs] at he
  exact ⟨he, Below.refl _ _⟩

theorem err_callB (kad : Option Addr) (kn kcap : Nat) (ks : List Prt) (W H : Int) (ad : Option Addr) (n cap : Nat) (xs : List Int) (alt : Bool) (es : List Int) (w : World)
    (hkl : ks.length = kn) (hkr : Rd w kad (flat ks)) (hkm : kn ≤ 1048576) (hkc : kn ≤ kcap) (hn : xs.length = n) (ha : Rd w ad xs) (hl : n ≤ 9223372036854775807)
    (hk : kernOk ks = true) (hp : picOk W H xs 255 = true) (hd : (runG alt ks W H xs n).errs = es) :
    Calls Try.prog 21 #[.slice kad kn kcap, .agg #[.int .i64 W, .int .i64 H, .slice ad n cap], .bool alt] w fun e w' =>
      ∃ a' c', e = .returned (.slice a' n c') ∧ OwnA w' w.heap.size a' n c' es ∧ Below w.heap.size w w' := by
  refine (impl_ErrorsOf kad kn kcap ks W H ad n cap xs alt w hkl hkr hkm hkc hn ha hl).mono ?_
  rintro e w' ⟨a', m, c', he, ho, hm, hb⟩
  rw [errorsF_yes hn hk hp, hd] at ho
  have e1 : n = m := by rw [← ho.len, ← hd, (run_len n).2.2]; exact hn.symm
  subst e1
  exact ⟨a', c', he, ho, hb⟩

end Go.Proofs.Ytepaklcobkdfdaa
