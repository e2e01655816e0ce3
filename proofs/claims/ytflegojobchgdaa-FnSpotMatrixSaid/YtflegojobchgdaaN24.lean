/-
  Plates of spots in a square of a period: how many dots, and which covers which. Nothing of the program.
-/
import Derived.Test.YtflegojobchgdaaN18
import Derived.Test.YtflegojobchgdaaM37
namespace Go.Proofs.Ytflegojobchgdaa
set_option linter.unusedVariables false
set_option linter.unusedSimpArgs false

theorem size_all : (lats16.all (fun c => sizeOk (perI c.1 c.2) (perI c.1 c.2))) = true := by decide +kernel

theorem square_size {A B n g d a b p q : Int} (L : Lat A B n g d a b p q) (hm : (A, B) ∈ lats16) : sizeOk d d = true := by
  have h0 := List.all_eq_true.1 size_all _ hm
  simp only at h0
  rwa [L.hw] at h0

theorem plateG_01 (A B d : Int) (N : Nat) (nm : Nat → Nat) (lv : Int) (i : Nat) : plateG A B d N nm lv i = 0 ∨ plateG A B d N nm lv i = 1 := by
  unfold plateG; split <;> simp

theorem plate_pic {W H : Int} {n : Nat} (A B d : Int) (N : Nat) (nm : Nat → Nat) (lv : Int) (hs : sizeOk W H = true) (hq : (n : Int) = W * H) : picOk W H (gen n (plateG A B d N nm lv)) 255 = true := by
  unfold picOk within
  rw [hs, gen_len, decide_eq_true hq, Bool.true_and, Bool.true_and, List.all_eq_true]
  intro x hx
  unfold gen at hx
  simp at hx
  obtain ⟨i, hi, rfl⟩ := hx
  have := plateG_01 A B d N nm lv i
  simp; omega

theorem plate_count {A B d : Int} {N : Nat} {g a b p q : Int} (L : Lat A B (N : Int) g d a b p q) (hm : (A, B) ∈ lats16) (n : Nat) (hq : (n : Int) = d * d) (nm : Nat → Nat) (hnm : Named A B d n nm) (k : Nat) (hk : k ≤ N) :
    countF d d (gen n (plateG A B d N nm k)) 1 = ((k * (n / N) : Nat) : Int) := by
  have hs := square_size L hm
  have d1 := L.w1
  unfold countF
  rw [if_pos (plate_pic A B d N nm k hs hq)]
  congr 1
  obtain ⟨D, hD⟩ : ∃ D : Nat, (D : Int) = d := ⟨d.toNat, by omega⟩
  have hn : n = D * D := by have : (n : Int) = ((D * D : Nat) : Int) := by rw [hq, ← hD]; simp
                            exact_mod_cast this
  rw [← even_below L hm D n hD hn nm hnm (nearK A B d) k hk]
  unfold icount gen
  rw [← List.countP_eq_length_filter, List.countP_map]
  refine List.countP_congr (fun i hi => ?_)
  have e : overF A B d N nm i = (placeC (nearK A B d) (nm i : Int) N : Int) := rfl
  simp only [Function.comp, plateG]
  by_cases c : placeC (nearK A B d) (nm i : Int) N < k
  · rw [if_pos (by rw [e]; omega)]; simp [c]
  · rw [if_neg (by rw [e]; omega)]; simp [c]

theorem plate_covers {W H : Int} {n : Nat} (A B d : Int) (N : Nat) (nm : Nat → Nat) (k m : Int) (hkm : k ≤ m) (hs : sizeOk W H = true) (hq : (n : Int) = W * H) : coversF W H (gen n (plateG A B d N nm m)) W H (gen n (plateG A B d N nm k)) = true := by
  unfold coversF pairOk
  rw [plate_pic A B d N nm m hs hq, plate_pic A B d N nm k hs hq, gen_len]
  simp only [Bool.true_and, and_self, decide_true, List.all_eq_true, List.mem_range]
  intro i hi
  rw [gen_get _ _ _ hi, gen_get _ _ _ hi, decide_eq_true_eq]
  unfold plateG
  by_cases c : overF A B d N nm i < k
  · rw [if_pos c, if_pos (by omega)]; omega
  · rw [if_neg c]
    split <;> omega

end Go.Proofs.Ytflegojobchgdaa
