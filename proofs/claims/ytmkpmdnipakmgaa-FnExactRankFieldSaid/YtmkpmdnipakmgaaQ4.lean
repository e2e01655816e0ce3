/-
  Contracts of chapter 7 in the model: swaps.
-/
import Derived.Test.YtmkpmdnipakmgaaQ1
import Derived.Test.YtmkpmdnipakmgaaQ3
namespace Go.Proofs.Ytmkpmdnipakmgaa
open Go.RowKit
set_option linter.unusedVariables false
set_option linter.unusedSimpArgs false

def swapR (W H : Int) (xs : List Int) : List Int × Bool := if fieldOk W H xs = true then swapG W H xs else (xs, false)

theorem swapR_no {W H : Int} {xs : List Int} (h : ¬ fieldOk W H xs = true) : swapR W H xs = (xs, false) := by unfold swapR; rw [if_neg h]
theorem swapR_yes {W H : Int} {xs : List Int} (h : fieldOk W H xs = true) : swapR W H xs = swapG W H xs := by unfold swapR; rw [if_pos h]

theorem swapF2_is (W H : Int) (xs : List Int) : swapF2 W H xs = (⟨W, H, (swapR W H xs).1⟩, (swapR W H xs).2) := by
  unfold swapF2 swapR
  split <;> rfl

/-- A picture with a row of its own and a bool are handed back. -/
def SwapOut (w : World) (W H : Int) (n : Nat) (R : List Int × Bool) (e : Ending) (w' : World) : Prop :=
  ∃ a c, e = .returned (.tuple #[.agg #[.int .i64 W, .int .i64 H, .slice a n c], .bool R.2]) ∧ OwnA w' w.heap.size a n c R.1 ∧ Below w.heap.size w w'

theorem SwapOut.out {w : World} {W H : Int} {n : Nat} {xs : List Int} {e : Ending} {w' : World} (h : SwapOut w W H n (swapR W H xs) e w') (hl : n ≤ 1048576) : PicOut2 w (swapF2 W H xs) e w' := by
  rw [swapF2_is]
  obtain ⟨a, c, h1, h2, h3⟩ := h
  exact ⟨a, n, c, h1, h2, hl, h3⟩

theorem spec_tight (W H : Int) (ad : Option Addr) (n cap : Nat) (xs : List Int) (w : World) (hn : xs.length = n) (ha : Rd w ad xs) (hok : fieldOk W H xs = true) :
    Calls Try.prog 54 #[.agg #[.int .i64 W, .int .i64 H, .slice ad n cap], .int .i64 1, .int .i64 1] w fun e w' => e = .returned (.int .i64 (tightF W H xs)) ∧ Below w.heap.size w w' := by
  have h := spec_l6Best W H ad n cap xs 1 1 w hn ha hok (Or.inl rfl)
  rw [← hn] at h ⊢
  exact h

theorem spec_wide (W H : Int) (ad : Option Addr) (n cap : Nat) (xs : List Int) (w : World) (hn : xs.length = n) (ha : Rd w ad xs) (hok : fieldOk W H xs = true) :
    Calls Try.prog 54 #[.agg #[.int .i64 W, .int .i64 H, .slice ad n cap], .int .i64 0, .int .i64 (-1)] w fun e w' => e = .returned (.int .i64 (wideF W H xs)) ∧ Below w.heap.size w w' := by
  have h := spec_l6Best W H ad n cap xs 0 (-1) w hn ha hok (Or.inr rfl)
  rw [← hn] at h ⊢
  exact h

set_option maxRecDepth 100000 in
set_option maxHeartbeats 3200000 in
theorem spec_SwapStep (W H : Int) (b off n cap : Nat) (xs : List Int) (w : World) (hn : xs.length = n) (ha : Rd w (some ⟨b, off, none⟩) xs) (hl : n ≤ 1048576) :
    Calls Try.prog 26 #[.agg #[.int .i64 W, .int .i64 H, .slice (some ⟨b, off, none⟩) n cap]] w (SwapOut w W H n (swapR W H xs)) := by
  have HN := Lib.hid hn
  have HA := Lib.hid ha
  clear hn ha
  go_enter Try.func26, Try.ntmps26
  go_wp2_with fail
  have KP := Lib.hid ((Blk.new w 27 #[.int .i64 W, .int .i64 H, .slice (some ⟨b, off, none⟩) n cap]).alloc (.cells #[.int .i64 0, .int .i64 0, .slice none 0 0] 27))
  have KZ := Lib.hid (Blk.new' (g := w.heap.size + 1) (w := w.alloc (.cells #[.int .i64 W, .int .i64 H, .slice (some ⟨b, off, none⟩) n cap] 27)) 27 #[.int .i64 0, .int .i64 0, .slice none 0 0] (by simp))
  have HB := Lib.hid (bAlloc (bAlloc (Below.refl w.heap.size w) (.cells #[.int .i64 W, .int .i64 H, .slice (some ⟨b, off, none⟩) n cap] 27)) (.cells #[.int .i64 0, .int .i64 0, .slice none 0 0] 27))
  have RP := Lib.hid ((HA.out.alloc (.cells #[.int .i64 W, .int .i64 H, .slice (some ⟨b, off, none⟩) n cap] 27)).alloc (.cells #[.int .i64 0, .int .i64 0, .slice none 0 0] 27))
  obtain ⟨wo, hwo⟩ : ∃ wo : World, wo = (w.alloc (.cells #[.int .i64 W, .int .i64 H, .slice (some ⟨b, off, none⟩) n cap] 27)).alloc (.cells #[.int .i64 0, .int .i64 0, .slice none 0 0] 27) := ⟨_, rfl⟩
  have ZO : Hid (wo.heap.size = w.heap.size + 1 + 1) := Lib.hid (by rw [hwo]; simp)
  rw [← hwo] at KP KZ HB RP ⊢
  clear hwo
  obtain ⟨l0, o0, o1, o2⟩ := KP.out.c3
  refine (spec_l6Copy W H b off n cap xs _ HN.out (by exact RP.out) hl).mono ?_
  rintro e w2 ⟨oa, oc, rfl, ho, hb⟩
  have ZB : Hid (w.heap.size + 1 < w2.heap.size) := Lib.hid (by have := hb.size; have := ZO.out; omega)
  have KP := Lib.hid ((KP.out.below' hb).alloc (.cells #[.int .i64 W, .int .i64 H, .slice oa n oc] 27))
  have KZ := Lib.hid ((KZ.out.below' hb).alloc (.cells #[.int .i64 W, .int .i64 H, .slice oa n oc] 27))
  have KO := Lib.hid (Blk.new w2 27 #[.int .i64 W, .int .i64 H, .slice oa n oc])
  have HO := Lib.hid (ho.alloc (.cells #[.int .i64 W, .int .i64 H, .slice oa n oc] 27))
  have RP := Lib.hid ((RP.out.below hb).alloc (.cells #[.int .i64 W, .int .i64 H, .slice oa n oc] 27))
  have HB := Lib.hid (bAlloc (bTrans HB.out hb) (.cells #[.int .i64 W, .int .i64 H, .slice oa n oc] 27))
  have HG : Hid (∀ g, blockOf oa = some g → wo.heap.size ≤ g ∧ g < w2.heap.size) := Lib.hid ho.bd
  clear hb ho l0 o0 o1 o2
  obtain ⟨l0, o0, o1, o2⟩ := KP.out.c3
  obtain ⟨w3, hw3⟩ : ∃ w3, w3 = w2.alloc (.cells #[.int .i64 W, .int .i64 H, .slice oa n oc] 27) := ⟨_, rfl⟩
  go_wp2_with fail
  rw [← hw3] at KP KZ KO HO RP HB l0 o0 o1 o2 ⊢
  clear hw3
  refine (spec_IsField W H _ n cap xs _ HN.out (by exact RP.out) (by omega)).mono ?_
  rintro e w4 ⟨rfl, hb⟩
  have KP := Lib.hid (KP.out.below' hb)
  have KZ := Lib.hid (KZ.out.below' hb)
  have KO := Lib.hid (KO.out.below' hb)
  have HO := Lib.hid (HO.out.below' hb)
  have RP := Lib.hid (RP.out.below hb)
  have HB := Lib.hid (bTrans HB.out hb)
  clear hb l0 o0 o1 o2
  obtain ⟨l0, o0, o1, o2⟩ := KP.out.c3
  by_cases hok : fieldOk W H xs = true
  case neg =>
    have ER := Lib.hid (swapR_no hok)
    have hok2 : fieldOk W H xs = false := by simpa using hok
    rw [hok2]
    clear hok hok2 l0 o0 o1 o2
    obtain ⟨z0, r0, r1, r2⟩ := KZ.out.c3
    obtain ⟨f0, f1, f2⟩ := KZ.out.f3
    obtain ⟨l0, o0, o1, o2⟩ := KO.out.c3
    go_wp2_with fail
    exact bodyPost_ret (v := .tuple #[.agg #[.int .i64 W, .int .i64 H, .slice oa n oc], .bool false]) (by simp [results, Try.results26, go_sem, r0, r1, r2]) rfl
      ⟨_, _, by rw [ER.out], by rw [ER.out]; exact (((HO.out.other (by simp; (try have := ZO.out); omega) _).other (by simp; (try have := ZO.out); omega) _).other (by simp; (try have := ZO.out); omega) _).mono (by have := ZO.out; omega),
        ((HB.out.setCell (by first | (simp; done) | (simp; omega)) _).setCell (by first | (simp; done) | (simp; omega)) _).setCell (by first | (simp; done) | (simp; omega)) _⟩
  case pos =>
    have HOK := Lib.hid hok
    rw [hok]
    clear hok
    go_wp2_with fail
    refine (spec_tight W H _ n cap xs _ HN.out (by exact RP.out) HOK.out).mono ?_
    rintro e w5 ⟨rfl, hb⟩
    have KP := Lib.hid (KP.out.below' hb)
    have KZ := Lib.hid (KZ.out.below' hb)
    have KO := Lib.hid (KO.out.below' hb)
    have HO := Lib.hid (HO.out.below' hb)
    have RP := Lib.hid (RP.out.below hb)
    have HB := Lib.hid (bTrans HB.out hb)
    clear hb l0 o0 o1 o2
    obtain ⟨l0, o0, o1, o2⟩ := KP.out.c3
    have TC := Lib.hid (tight_cases W H xs)
    by_cases ht : tightF W H xs < 0
    · have ER : Hid (swapR W H xs = (xs, false)) := Lib.hid (by rw [swapR_yes HOK.out]; unfold swapG; rw [if_pos ht])
      obtain ⟨T, hT⟩ : ∃ T, tightF W H xs = T := ⟨_, rfl⟩
      rw [hT] at ht ⊢
      clear hT l0 o0 o1 o2
      obtain ⟨z0, r0, r1, r2⟩ := KZ.out.c3
      obtain ⟨f0, f1, f2⟩ := KZ.out.f3
      obtain ⟨l0, o0, o1, o2⟩ := KO.out.c3
      go_wp2_with fail
      exact bodyPost_ret (v := .tuple #[.agg #[.int .i64 W, .int .i64 H, .slice oa n oc], .bool false]) (by simp [results, Try.results26, go_sem, r0, r1, r2]) rfl
        ⟨_, _, by rw [ER.out], by rw [ER.out]; exact (((HO.out.other (by simp; (try have := ZO.out); omega) _).other (by simp; (try have := ZO.out); omega) _).other (by simp; (try have := ZO.out); omega) _).mono (by have := ZO.out; omega),
          ((HB.out.setCell (by first | (simp; done) | (simp; omega)) _).setCell (by first | (simp; done) | (simp; omega)) _).setCell (by first | (simp; done) | (simp; omega)) _⟩
    · obtain ⟨i, h1, h2, h3⟩ : ∃ i : Nat, tightF W H xs = i ∧ i < xs.length ∧ xs.getD i 0 = 1 := by
        rcases TC.out with h | h
        · omega
        · exact h
      have HT := Lib.hid h1
      have HI := Lib.hid h3
      rw [HN.out] at h2
      rw [h1]
      have hi0 : 0 ≤ (i : Int) := by omega
      clear h1 h3 ht TC
      go_wp2_with fail
      refine (spec_wide W H _ n cap xs _ HN.out (by exact RP.out) HOK.out).mono ?_
      rintro e w6 ⟨rfl, hb⟩
      have KP := Lib.hid (KP.out.below' hb)
      have KZ := Lib.hid (KZ.out.below' hb)
      have KO := Lib.hid (KO.out.below' hb)
      have HO := Lib.hid (HO.out.below' hb)
      have RP := Lib.hid (RP.out.below hb)
      have HB := Lib.hid (bTrans HB.out hb)
      clear hb l0 o0 o1 o2
      by_cases hw : wideF W H xs < 0
      · have ER : Hid (swapR W H xs = (xs, false)) := Lib.hid (by rw [swapR_yes HOK.out]; exact swap_full (dots_of (field_bd rfl HOK.out).2.2.2.2.2.2.2.1) hw)
        obtain ⟨T, hT⟩ : ∃ T, wideF W H xs = T := ⟨_, rfl⟩
        rw [hT] at hw ⊢
        clear hT
        obtain ⟨z0, r0, r1, r2⟩ := KZ.out.c3
        obtain ⟨f0, f1, f2⟩ := KZ.out.f3
        obtain ⟨l0, o0, o1, o2⟩ := KO.out.c3
        go_wp2_with fail
        exact bodyPost_ret (v := .tuple #[.agg #[.int .i64 W, .int .i64 H, .slice oa n oc], .bool false]) (by simp [results, Try.results26, go_sem, r0, r1, r2]) rfl
          ⟨_, _, by rw [ER.out], by rw [ER.out]; exact (((HO.out.other (by simp; (try have := ZO.out); omega) _).other (by simp; (try have := ZO.out); omega) _).other (by simp; (try have := ZO.out); omega) _).mono (by have := ZO.out; omega),
            ((HB.out.setCell (by first | (simp; done) | (simp; omega)) _).setCell (by first | (simp; done) | (simp; omega)) _).setCell (by first | (simp; done) | (simp; omega)) _⟩
      · obtain ⟨g, hga, hgB, hog⟩ : ∃ g, oa = some ⟨g, 0, none⟩ ∧ wo.heap.size ≤ g ∧ Own w6 g n oc xs := by
          rcases HO.out with ⟨_, h, _⟩ | h
          · omega
          · exact h
        subst hga
        have hg2 : g < w2.heap.size := (HG.out g rfl).2
        have HW := Lib.hid hog
        clear HO HG hog
        obtain ⟨T, hT⟩ : ∃ T, wideF W H xs = T := ⟨_, rfl⟩
        rw [hT] at hw ⊢
        have hw2 : 0 ≤ T := by omega
        clear hT hw
        obtain ⟨l0, o0, o1, o2⟩ := KO.out.c3
        go_wp2_with fail
        refine (spec_tight W H _ n oc xs _ HN.out (by exact HW.out.rd) HOK.out).mono ?_
        rw [HT.out]
        rintro e w7 ⟨rfl, hb⟩
        have KP := Lib.hid (KP.out.below' hb)
        have KZ := Lib.hid (KZ.out.below' hb)
        have KO := Lib.hid (KO.out.below' hb)
        have HW := Lib.hid (HW.out.below hb HW.out.lt)
        have HB := Lib.hid (bTrans HB.out hb)
        clear hb l0 o0 o1 o2
        have h2c : w7.cell? ⟨g, i, none⟩ = some (.int .i64 (xs.getD i 0)) := HW.out.cell h2
        have h3c : w7.frozen? ⟨g, i, none⟩ = false := HW.out.frozen i
        have hs := HW.out.set i 0
        have EF : Hid (flipT W H xs = xs.set i 0) := Lib.hid (by unfold flipT; rw [HT.out]; rfl)
        rw [← EF.out] at hs
        have HF := Lib.hid (field_flipT HOK.out)
        have HNF : Hid ((flipT W H xs).length = n) := Lib.hid (by rw [tight_len]; exact HN.out)
        have gne : w.heap.size + 1 < g := by have := ZO.out; omega
        have KP8 := Lib.hid (KP.out.other (a := ⟨g, i, none⟩) (by simp; omega) (.int .i64 0))
        have KZ8 := Lib.hid (KZ.out.other (a := ⟨g, i, none⟩) (by simp; omega) (.int .i64 0))
        have KO8 := Lib.hid (KO.out.other (a := ⟨g, i, none⟩) (by simp; omega) (.int .i64 0))
        have HW8 := Lib.hid hs
        have HB8 := Lib.hid (HB.out.setCell (show w.heap.size ≤ (⟨g, i, none⟩ : Addr).block by simp; omega) (.int .i64 0))
        obtain ⟨l0, o0, o1, o2⟩ := KO.out.c3
        obtain ⟨k0, p0, p1, p2⟩ := KO8.out.c3
        have HI2 := Lib.hid h2
        clear hs
        go_wp2_with fail
        refine (spec_wide W H _ n oc (flipT W H xs) _ HNF.out (by exact HW8.out.rd) HF.out).mono ?_
        obtain ⟨k, k1, k2, k3⟩ : ∃ k : Nat, wideF W H (flipT W H xs) = k ∧ k < n ∧ (flipT W H xs).getD k 0 = 0 := by
          have h := wide_after (W := W) (H := H) (xs := xs) (i := i) (by rw [HN.out]; exact HI2.out)
          rw [← EF.out, HN.out] at h
          exact h
        rw [k1]
        rintro e w9 ⟨rfl, hb⟩
        have ER : Hid (swapR W H xs = ((flipT W H xs).set k 1, decide ((k : Int) ≠ i))) := Lib.hid (by
          rw [swapR_yes HOK.out]
          unfold swapG flipW
          rw [if_neg (by rw [HT.out]; omega), k1, HT.out]
          simp)
        have KZ := Lib.hid (KZ8.out.below' hb)
        have KO := Lib.hid (KO8.out.below' hb)
        have HW := Lib.hid (HW8.out.below hb HW8.out.lt)
        have HB := Lib.hid (bTrans HB8.out hb)
        clear hb l0 o0 o1 o2 k0 p0 p1 p2 h2c h3c k1 k3 KP KP8 KZ8 KO8 HW8 HB8
        have h2c : w9.cell? ⟨g, k, none⟩ = some (.int .i64 ((flipT W H xs).getD k 0)) := HW.out.cell k2
        have h3c : w9.frozen? ⟨g, k, none⟩ = false := HW.out.frozen k
        have HW10 := Lib.hid (HW.out.set k 1)
        have KZ10 := Lib.hid (KZ.out.other (a := ⟨g, k, none⟩) (by simp; omega) (.int .i64 1))
        have KO10 := Lib.hid (KO.out.other (a := ⟨g, k, none⟩) (by simp; omega) (.int .i64 1))
        have HB10 := Lib.hid (HB.out.setCell (show w.heap.size ≤ (⟨g, k, none⟩ : Addr).block by simp; omega) (.int .i64 1))
        obtain ⟨l0, o0, o1, o2⟩ := KO.out.c3
        obtain ⟨w10, hw10⟩ : ∃ w10, w10 = w9.setCell ⟨g, k, none⟩ (.int .i64 1) := ⟨_, rfl⟩
        go_upto_region 8 with fail
        rw [← hw10] at HW10 KZ10 KO10 HB10 ⊢
        clear hw10 h2c h3c KZ KO HB HW l0 o0 o1 o2
        have KZ := KZ10
        have KO := KO10
        have HB := HB10
        have HO : Hid (OwnA w10 wo.heap.size (some ⟨g, 0, none⟩) n oc ((flipT W H xs).set k 1)) := Lib.hid (OwnA.mk HW10.out hgB)
        clear KZ10 KO10 HB10
        by_cases hki : (k : Int) = (i : Int)
        · have hd : decide ((k : Int) ≠ i) = false := by simp [hki]
          rw [hd] at ER
          have hq : ((k : Int) != (i : Int)) = false := by simp [hki]
          have HK := Lib.hid hki
          clear hd hki
          obtain ⟨z0, r0, r1, r2⟩ := KZ.out.c3
          obtain ⟨f0, f1, f2⟩ := KZ.out.f3
          obtain ⟨l0, o0, o1, o2⟩ := KO.out.c3
          go_wp2_with fail
          exact bodyPost_ret (v := .tuple #[.agg #[.int .i64 W, .int .i64 H, .slice (some ⟨g, 0, none⟩) n oc], .bool false]) (by simp [results, Try.results26, go_sem, r0, r1, r2]) rfl
            ⟨_, _, by rw [ER.out], by rw [ER.out]; exact (((HO.out.other (by simp; (try have := ZO.out); omega) _).other (by simp; (try have := ZO.out); omega) _).other (by simp; (try have := ZO.out); omega) _).mono (by have := ZO.out; omega),
              ((HB.out.setCell (by first | (simp; done) | (simp; omega)) _).setCell (by first | (simp; done) | (simp; omega)) _).setCell (by first | (simp; done) | (simp; omega)) _⟩
        · have hd : decide ((k : Int) ≠ i) = true := by simp; omega
          rw [hd] at ER
          have hq : ((k : Int) != (i : Int)) = true := by simp; omega
          have HK := Lib.hid hki
          clear hd hki
          obtain ⟨z0, r0, r1, r2⟩ := KZ.out.c3
          obtain ⟨f0, f1, f2⟩ := KZ.out.f3
          obtain ⟨l0, o0, o1, o2⟩ := KO.out.c3
          go_wp2_with fail
          exact bodyPost_ret (v := .tuple #[.agg #[.int .i64 W, .int .i64 H, .slice (some ⟨g, 0, none⟩) n oc], .bool true]) (by simp [results, Try.results26, go_sem, r0, r1, r2]) rfl
            ⟨_, _, by rw [ER.out], by rw [ER.out]; exact (((HO.out.other (by simp; (try have := ZO.out); omega) _).other (by simp; (try have := ZO.out); omega) _).other (by simp; (try have := ZO.out); omega) _).mono (by have := ZO.out; omega),
              ((HB.out.setCell (by first | (simp; done) | (simp; omega)) _).setCell (by first | (simp; done) | (simp; omega)) _).setCell (by first | (simp; done) | (simp; omega)) _⟩

end Go.Proofs.Ytmkpmdnipakmgaa
