/-
  Contracts of chapter 6: the places in a sequence; SpotRanks of the program.
-/
import Derived.Test.YtflegojobchgdaaN13
namespace Go.Proofs.Ytflegojobchgdaa
open Go.RowKit
set_option linter.unusedVariables false
set_option linter.unusedSimpArgs false

def ranksL (key : Int → Int) (n : Nat) : List Int := gen n (fun i => (placeC key (i : Int) n : Int))

theorem put_row {W : World} {blk n cap : Nat} {F : Nat → Int} (h : Own W blk n cap (gen n F)) {t : Nat} (ht : t < n) (v : Int) : Own (W.setCell ⟨blk, t, none⟩ (.int .i64 v)) blk n cap (gen n (fun i => if i = t then v else F i)) := by
  have h1 := h.set t v
  rwa [gen_set n F (fun i => if i = t then v else F i) t v ht (by simp) (fun i _ hi => by simp [hi])] at h1

theorem zero_row {W : World} {blk n cap : Nat} (h : Own W blk n cap (List.replicate n 0)) : Own W blk n cap (gen n (fun _ => 0)) := by
  have e : List.replicate n (0 : Int) = gen n (fun _ => 0) := gen_ext n _ _ (by simp) (fun k hk => by simp [List.getD, hk])
  rwa [e] at h

set_option maxRecDepth 100000 in
set_option maxHeartbeats 1600000 in
theorem placesIn5 (key : Int → Int) (f : Nat → Int) (blk n : Nat) (w : World) (ho : Own w blk n n (gen n f)) (hg : Good key f 0 n) (hn : n ≤ 100000) :
    Calls Try.prog 45 #[.slice (some ⟨blk, 0, none⟩) n n] w fun e w' => ∃ nb : Nat, e = .returned (.slice (some ⟨nb, 0, none⟩) n n) ∧ w.heap.size ≤ nb ∧ Own w' nb n n (ranksL key n) ∧ Below w.heap.size w w' := by
  have HO := Lib.hid ho
  have HG := Lib.hid hg
  clear ho hg
  go_enter Try.func45, Try.ntmps45
  go_wp2_with (at_make; refine wp_make _ rfl _ _ rfl .i64 .i64 n n n rfl rfl rfl rfl (by omega) ?_; intro M hM)
  have HM := Lib.hid (zero_row (hM.own w))
  clear hM
  go_wp2_with fail
  go_loopw [11] (fun i wr => ∃ (k : Nat) (F : Nat → Int), k ≤ n ∧ i = .int .i64 k ∧ Hid (Own wr w.heap.size n n (gen n F)) ∧ Hid (∀ j, j < k → F (f j).toNat = (j : Int)) ∧ Hid (Below w.heap.size w wr)) (fun i _ => n - (intOf i).toNat)
  case atStart => exact ⟨0, _, Nat.zero_le _, rfl, HM, Lib.hid (fun j hj => by omega), Lib.hid (bAlloc (Below.refl _ _) _)⟩
  case round =>
    clear HM
    obtain ⟨k, F, hk, rfl, HR, HF, HB⟩ := hrel
    by_cases hlt : k < n
    · obtain ⟨t, ht⟩ : ∃ t : Nat, f k = (t : Int) := ⟨(f k).toNat, by have := HG.out.2 k (Nat.zero_le _) hlt; omega⟩
      have tn : t < n := by have := HG.out.2 k (Nat.zero_le _) hlt; omega
      have c0 := own_c (HO.out.below HB.out HO.out.lt) hlt
      rw [ht] at c0
      have c1 := own_c HR.out tn
      have f1 := HR.out.frozen t
      have HP := Lib.hid (put_row HR.out tn (k : Int))
      have HF2 : Hid (∀ j, j < k + 1 → (fun i => if i = t then (k : Int) else F i) (f j).toNat = (j : Int)) := Lib.hid (by
        intro j hj
        by_cases e : j = k
        · subst e; simp [ht]
        · have h1 := HG.out.2 j (Nat.zero_le _) (by omega)
          have hne : (f j).toNat ≠ t := by
            intro e2
            have e3 : f j = f k := by rw [ht]; omega
            have := HG.out.1 j k (Nat.zero_le _) (by omega) hlt
            rw [e3] at this
            exact RL.irrefl this
          simp only [hne, if_false]
          exact HF.out j (by omega))
      have tn2 : (t : Int) < (n : Int) := by omega
      clear ht
      go_wp2_with fail
      go_roundw
      case rel => exact ⟨k + 1, _, by omega, by go_num, HP, HF2, Lib.hid (HB.out.setCell (Nat.le_refl _) _)⟩
      case measure => simp [intOf]; omega
    · obtain rfl : k = n := by omega
      have HE : Hid (gen k F = ranksL key k) := Lib.hid (gen_congr (fun i hi => places_of HG.out HF.out i hi))
      go_wp2_with fail
      go_ret
      exact ⟨w.heap.size, rfl, Nat.le_refl _, by rw [← HE.out]; exact HR.out, HB.out⟩

end Go.Proofs.Ytflegojobchgdaa
