/-
  Contracts as the laws call them: sums, covers and comparisons whose answer is known; another picture's like.
-/
import Derived.Test.YtgepjfdnlnemjaaR3
import Derived.Test.YtgepjfdnlnemjaaR4
import Derived.Test.YtgepjfdnlnemjaaU1
import Derived.Test.YtgepjfdnlnemjaaM6
import Derived.Test.YtgepjfdnlnemjaaC12
import Derived.Test.YtgepjfdnlnemjaaCut
namespace Go.Proofs.Ytgepjfdnlnemjaa
open Go.RowKit
set_option linter.unusedVariables false
set_option linter.unusedSimpArgs false

theorem covb_call (W H : Int) (a : Option Addr) (n cp : Nat) (xs : List Int) (a' : Option Addr) (n' cp' : Nat) (ys : List Int) (b : Bool) (w : World) (hl : xs.length = n) (ha : Rd w a xs) (hn : n ≤ 9223372036854775807) (hl' : ys.length = n') (ha' : Rd w a' ys) (hn' : n' ≤ 9223372036854775807) (h : coversF W H xs W H ys = b) :
    Calls Try.prog 25 #[.agg #[.int .i64 W, .int .i64 H, .slice a n cp], .agg #[.int .i64 W, .int .i64 H, .slice a' n' cp']] w fun e w' => e = .returned (.bool b) ∧ Below w.heap.size w w' :=
  (impl_CoversPicture W H a n cp xs W H a' n' cp' ys w hl ha hn hl' ha' hn').mono fun e w' ⟨he, hb⟩ => ⟨by rw [he, h], hb⟩

theorem sameb_call (W H : Int) (a : Option Addr) (n cp : Nat) (xs : List Int) (a' : Option Addr) (n' cp' : Nat) (ys : List Int) (b : Bool) (w : World) (hl : xs.length = n) (ha : Rd w a xs) (hn : n ≤ 9223372036854775807) (hl' : ys.length = n') (ha' : Rd w a' ys) (hn' : n' ≤ 9223372036854775807) (h : decide (xs = ys) = b) :
    Calls Try.prog 28 #[.agg #[.int .i64 W, .int .i64 H, .slice a n cp], .agg #[.int .i64 W, .int .i64 H, .slice a' n' cp']] w fun e w' => e = .returned (.bool b) ∧ Below w.heap.size w w' :=
  (laws_same W H a n cp xs W H a' n' cp' ys w hl ha hn hl' ha' hn').mono fun e w' ⟨he, hb⟩ => ⟨by rw [he, ← h]; exact ret_bool (by simp), hb⟩

theorem pair_mk {W H : Int} {xs ys : List Int} (hp : picOk W H xs 255 = true) (hq : picOk W H ys 255 = true) : pairOk W H xs W H ys = true := pairOk_yes hp hq ⟨rfl, rfl⟩

theorem add_call (W H : Int) (a : Option Addr) (n cp : Nat) (xs : List Int) (a' : Option Addr) (cp' : Nat) (ys : List Int) (w : World) (hl : xs.length = n) (ha : Rd w a xs) (hn : n ≤ 9223372036854775807) (hl' : ys.length = n) (ha' : Rd w a' ys) (hp : picOk W H xs 255 = true) (hq : picOk W H ys 255 = true) :
    Calls Try.prog 36 #[.agg #[.int .i64 W, .int .i64 H, .slice a n cp], .agg #[.int .i64 W, .int .i64 H, .slice a' n cp']] w fun e w' =>
      ∃ b c, e = .returned (.tuple #[.agg #[.int .i64 W, .int .i64 H, .slice b n c], .bool true]) ∧ OwnA w' w.heap.size b n c (gen n (addG xs ys)) ∧ Below w.heap.size w w' := by
  refine (impl_AddPictures W H a n cp xs W H a' n cp' ys w hl ha hn hl' ha' hn).mono ?_
  rintro e w' ⟨b, m, c, he, ho, hm, hb⟩
  rw [addF_yes hl hl' (pair_mk hp hq)] at he ho
  obtain rfl : n = m := by have := ho.len; simp [gen_len] at this; exact this
  exact ⟨b, c, he, ho, hb⟩

theorem sadd_call (W H : Int) (a : Option Addr) (n cp : Nat) (xs : List Int) (a' : Option Addr) (cp' : Nat) (ys : List Int) (w : World) (hl : xs.length = n) (ha : Rd w a xs) (hn : n ≤ 9223372036854775807) (hl' : ys.length = n) (ha' : Rd w a' ys) (hp : picOk W H xs 255 = true) (hq : picOk W H ys 255 = true) :
    Calls Try.prog 21 #[.agg #[.int .i64 W, .int .i64 H, .slice a n cp], .agg #[.int .i64 W, .int .i64 H, .slice a' n cp']] w fun e w' =>
      ∃ b c, e = .returned (.tuple #[.agg #[.int .i64 W, .int .i64 H, .slice b n c], .bool true]) ∧ OwnA w' w.heap.size b n c (gen n (addG xs ys)) ∧ Below w.heap.size w w' := by
  refine (spec_AddPictures W H a n cp xs W H a' n cp' ys w hl ha hn hl' ha' hn).mono ?_
  rintro e w' ⟨b, m, c, he, ho, hm, hb⟩
  rw [addF_yes hl hl' (pair_mk hp hq)] at he ho
  obtain rfl : n = m := by have := ho.len; simp [gen_len] at this; exact this
  exact ⟨b, c, he, ho, hb⟩

theorem within_mono {xs : List Int} {m k : Int} (h : within xs m = true) (hmk : m ≤ k) : within xs k = true := by
  unfold within at h ⊢
  rw [List.all_eq_true] at h ⊢
  intro v hv
  have := h v hv
  simp at this ⊢
  omega

theorem plate_pic {W H : Int} {ys : List Int} {n : Nat} (hs : sizeOk W H = true) (hl : ys.length = n) (hq : (n : Int) = W * H) (hw : within ys 1 = true) : picOk W H ys 255 = true :=
  picOk_mk hs hl hq (within_mono hw (by omega))

theorem add_ok {W H : Int} {xs ys : List Int} {n : Nat} (hs : sizeOk W H = true) (hq : (n : Int) = W * H) (hl : xs.length = n) (hl' : ys.length = n) (hx : within xs 255 = true) (hy : within ys 1 = true) :
    picOk W H (gen n (addG xs ys)) 255 = true ∧ coversF W H (gen n (addG xs ys)) W H xs = true ∧ coversF W H (gen n (addG xs ys)) W H ys = true ∧ coversF W H xs W H (gen n (addG xs ys)) = decide (xs = gen n (addG xs ys)) := by
  have hg : ∀ i, i < n → (gen n (addG xs ys))[i]?.getD 0 = min (xs[i]?.getD 0 + ys[i]?.getD 0) 255 := fun i hi => gen_get n _ i hi
  have hbx : ∀ i, i < n → 0 ≤ xs[i]?.getD 0 ∧ xs[i]?.getD 0 ≤ 255 := fun i hi => within_at hx i (by omega)
  have hby : ∀ i, i < n → 0 ≤ ys[i]?.getD 0 ∧ ys[i]?.getD 0 ≤ 1 := fun i hi => within_at hy i (by omega)
  have p1 : picOk W H (gen n (addG xs ys)) 255 = true := by
    refine picOk_mk hs (gen_len _ _) hq ?_
    unfold within
    rw [List.all_eq_true]
    intro v hv
    obtain ⟨i, hi, rfl⟩ := List.getElem_of_mem hv
    rw [gen_len] at hi
    have h1 := hg i hi
    rw [List.getElem?_eq_getElem (by rw [gen_len]; exact hi), Option.getD_some] at h1
    have := hbx i hi
    have := hby i hi
    simp [h1]
    omega
  have px : picOk W H xs 255 = true := picOk_mk hs hl hq hx
  have py : picOk W H ys 255 = true := plate_pic hs hl' hq hy
  refine ⟨p1, ?_, ?_, ?_⟩
  · have hc : coverB (gen n (addG xs ys)) xs = true := coverB_yes (fun i hi => by rw [hg i (by omega)]; have := hbx i (by omega); have := hby i (by omega); omega)
    unfold coversF; rw [pair_mk p1 px]; simpa [coverB] using hc
  · have hc : coverB (gen n (addG xs ys)) ys = true := coverB_yes (fun i hi => by rw [hg i (by omega)]; have := hbx i (by omega); have := hby i (by omega); omega)
    unfold coversF; rw [pair_mk p1 py]; simpa [coverB] using hc
  · by_cases he : xs = gen n (addG xs ys)
    · rw [decide_eq_true he]
      have hc : coverB xs (gen n (addG xs ys)) = true := by rw [← he]; exact coverB_yes (fun i hi => Int.le_refl _)
      unfold coversF; rw [pair_mk px p1]; simpa [coverB] using hc
    · rw [decide_eq_false he]
      obtain ⟨i, hi, hne⟩ : ∃ i, i < n ∧ xs[i]?.getD 0 ≠ min (xs[i]?.getD 0 + ys[i]?.getD 0) 255 := by
        by_cases h : ∃ i, i < n ∧ xs[i]?.getD 0 ≠ min (xs[i]?.getD 0 + ys[i]?.getD 0) 255
        · exact h
        · exfalso
          apply he
          refine gen_ext n _ _ hl (fun k hk => ?_)
          have : xs[k]?.getD 0 = min (xs[k]?.getD 0 + ys[k]?.getD 0) 255 := by
            by_cases h2 : xs[k]?.getD 0 = min (xs[k]?.getD 0 + ys[k]?.getD 0) 255
            · exact h2
            · exact absurd ⟨k, hk, h2⟩ h
          simpa [addG, List.getD] using this
      have hc : coverB xs (gen n (addG xs ys)) = false := coverB_no (k := i) (by rw [gen_len]; exact hi) (by rw [hg i hi]; have := hbx i hi; have := hby i hi; omega)
      unfold coversF; rw [pair_mk px p1]; simpa [coverB] using hc

end Go.Proofs.Ytgepjfdnlnemjaa
