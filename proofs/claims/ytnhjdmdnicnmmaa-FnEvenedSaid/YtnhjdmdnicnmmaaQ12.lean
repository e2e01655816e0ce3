/-
  Contracts of chapter 7 in the program: swaps and evening out.
-/
import Derived.Test.YtnhjdmdnicnmmaaQF
import Derived.Test.YtnhjdmdnicnmmaaQ3
namespace Go.Proofs.Ytnhjdmdnicnmmaa
open Go.RowKit
set_option linter.unusedVariables false
set_option linter.unusedSimpArgs false

set_option maxHeartbeats 800000 in
theorem impl_flip_none (h : Nat) (key : Int → Int) (v : Int) {w : World} {B f gi gc : Nat} {W H : Int} {n : Nat} {xs : List Int} (eh : ∀ args w, (callFunc h args).run Try.prog w = .ok (.enter h args) w) (ho : OrdBy h key) (F : FSt w B f gi gc W H n xs (gen n (crowdG W H xs))) (hn : n ≤ 256)
    (hb : bestTo xs v (fun j => key (crowdG W H xs j)) xs.length = -1) :
    Calls Try.prog 32 #[.pointer (some ⟨f, 0, none⟩), .agg #[.int .i64 v, .func (.func h) #[] #[]]] w fun e w' => e = .returned (.int .i64 (-1)) ∧ Below w.heap.size w w' := by
  have EB : Hid (bestTo xs v (fun j => key ((gen n (crowdG W H xs)).getD j 0)) n = -1) := Lib.hid (by rw [best_gen F.ink.len]; exact hb)
  have HO := Lib.hid ho
  have EH := Lib.hid eh
  have KB := Lib.hid ((Blk.new w 56 #[.int .i64 v, .func (.func h) #[] #[]]))
  have HF := Lib.hid (F.alloc (.cells #[.int .i64 v, .func (.func h) #[] #[]] 56))
  have HB := Lib.hid (Joins.below_alloc1 w (.cells #[.int .i64 v, .func (.func h) #[] #[]] 56))
  clear F hb ho eh
  go_enter Try.func32, Try.ntmps32
  go_upto_region 1 with fail
  obtain ⟨wo, hwo⟩ : ∃ wo : World, wo = w.alloc (.cells #[.int .i64 v, .func (.func h) #[] #[]] 56) := ⟨_, rfl⟩
  rw [← hwo] at KB HF HB ⊢
  clear hwo
  have lb := KB.out.lt
  have k0 : wo.cell? ⟨w.heap.size, 0, none⟩ = some (.int .i64 v) := by rw [KB.out.cell]; rfl
  have k1 : wo.cell? ⟨w.heap.size, 1, none⟩ = some (.func (.func h) #[] #[]) := by rw [KB.out.cell]; rfl
  go_wp2_with fail
  refine (impl_chosen h key v EH.out HO.out HF.out hn).mono ?_
  rw [EB.out]
  rintro e w4 ⟨rfl, hb⟩
  have HB := Lib.hid (bTrans HB.out hb)
  clear hb lb k0 k1
  go_wp2_with fail
  go_ret
  exact ⟨rfl, HB.out⟩

set_option maxHeartbeats 1600000 in
theorem impl_swap {w : World} {B f gi gc : Nat} {W H : Int} {n : Nat} {xs : List Int} (F : FSt w B f gi gc W H n xs (gen n (crowdG W H xs))) (hok : fieldOk W H xs = true) :
    Calls Try.prog 45 #[.pointer (some ⟨f, 0, none⟩)] w fun e w' => e = .returned (.bool (swapG W H xs).2) ∧ FSt w' B f gi gc W H n (swapG W H xs).1 (gen n (crowdG W H (swapG W H xs).1)) ∧ Keep6 (Duo gi gc) w w' := by
  have HN := Lib.hid F.ink.len
  have b6 := (field_bd HN.out hok).2.2.2.2.2.1
  have HOK := Lib.hid hok
  have HF := Lib.hid F
  clear F hok
  go_enter Try.func45, Try.ntmps45
  go_wp2_with fail
  refine (impl_tightest _).mono ?_
  rintro e w1 ⟨rfl, hb⟩
  have HF := Lib.hid (HF.out.below hb)
  have HB := Lib.hid hb
  clear hb
  go_wp2_with fail
  rcases tight_cases W H xs with ⟨h1, h2⟩ | ⟨i, h1, h2, h3⟩
  · have ES : Hid (swapG W H xs = (xs, false)) := Lib.hid (by unfold swapG; rw [if_pos (by omega)])
    refine (impl_flip_none 55 keyT 1 entT ordT HF.out b6 h1).mono ?_
    rintro e w2 ⟨rfl, hb⟩
    have HF := Lib.hid (HF.out.below hb)
    have HB := Lib.hid (bTrans HB.out hb)
    clear hb h1 h2
    go_wp2_with fail
    go_ret
    rw [ES.out]
    exact ⟨rfl, HF.out, Keep6.ofBelow HB.out⟩
  · refine (impl_flip 55 keyT 1 (Or.inr rfl) entT ordT HF.out HOK.out i h1 h2 h3).mono ?_
    rintro e w2 ⟨rfl, hf, hk⟩
    have EF : Hid (flipT W H xs = xs.set i (1 - 1)) := Lib.hid (by unfold flipT; rw [h1]; rfl)
    rw [← EF.out] at hf
    have HF := Lib.hid hf
    have HK := Lib.hid ((Keep6.ofBelow (S := Duo gi gc) HB.out).trans hk)
    have HOK2 := Lib.hid (field_flipT HOK.out)
    have hw := wide_after (W := W) (H := H) h2
    rw [show xs.set i 0 = flipT W H xs by rw [EF.out]; rfl] at hw
    obtain ⟨k, k1, k2, k3⟩ := hw
    have k2' : k < (flipT W H xs).length := by rw [tight_len]; exact k2
    have ES : Hid (swapG W H xs = ((flipT W H xs).set k (1 - 0), decide ((k : Int) ≠ i))) := Lib.hid (by
      unfold swapG flipW
      rw [if_neg (by omega), k1, h1]
      simp)
    have HT := Lib.hid (And.intro k1 (And.intro k2' k3))
    clear hf hk h1 h2 h3 k1 k2 k3 k2' HB
    have hi0 : 0 ≤ (i : Int) := by omega
    go_wp2_with fail
    refine (impl_widest _).mono ?_
    rintro e w3 ⟨rfl, hb⟩
    have HF := Lib.hid (HF.out.below hb)
    have HK := Lib.hid (HK.out.call hb)
    clear hb
    go_wp2_with fail
    refine (impl_flip 56 keyW 0 (Or.inl rfl) entW ordW HF.out HOK2.out k HT.out.1 HT.out.2.1 HT.out.2.2).mono ?_
    rintro e w4 ⟨rfl, hf, hk⟩
    have HF := Lib.hid hf
    have HK := Lib.hid (HK.out.trans hk)
    clear hf hk
    by_cases hki : (k : Int) = (i : Int)
    · have hd : decide ((k : Int) ≠ i) = false := by simp [hki]
      rw [hd] at ES
      have hq : ((k : Int) != (i : Int)) = false := by simp [hki]
      have HKI := Lib.hid hki
      clear hd hki
      go_wp2_with fail
      go_ret
      rw [ES.out]
      exact ⟨rfl, HF.out, HK.out⟩
    · have hd : decide ((k : Int) ≠ i) = true := by simp; omega
      rw [hd] at ES
      have hq : ((k : Int) != (i : Int)) = true := by simp; omega
      have HKI := Lib.hid hki
      clear hd hki
      go_wp2_with fail
      go_ret
      rw [ES.out]
      exact ⟨rfl, HF.out, HK.out⟩

set_option maxRecDepth 100000 in
set_option maxHeartbeats 1600000 in
theorem impl_SwapStep (W H : Int) (b off n cap : Nat) (xs : List Int) (w : World) (hn : xs.length = n) (ha : Rd w (some ⟨b, off, none⟩) xs) (hl : n ≤ 1048576) :
    Calls Try.prog 20 #[.agg #[.int .i64 W, .int .i64 H, .slice (some ⟨b, off, none⟩) n cap]] w (SwapOut w W H n (swapR W H xs)) := by
  have HN := Lib.hid hn
  have HA := Lib.hid ha
  clear hn ha
  go_enter Try.func20, Try.ntmps20
  go_wp2_with fail
  have KP := Lib.hid ((Blk.new w 25 #[.int .i64 W, .int .i64 H, .slice (some ⟨b, off, none⟩) n cap]).alloc (.cells #[.int .i64 0, .int .i64 0, .slice none 0 0] 25))
  have KZ := Lib.hid (Blk.new' (g := w.heap.size + 1) (w := w.alloc (.cells #[.int .i64 W, .int .i64 H, .slice (some ⟨b, off, none⟩) n cap] 25)) 25 #[.int .i64 0, .int .i64 0, .slice none 0 0] (by simp))
  have HB := Lib.hid (bAlloc (bAlloc (Below.refl w.heap.size w) (.cells #[.int .i64 W, .int .i64 H, .slice (some ⟨b, off, none⟩) n cap] 25)) (.cells #[.int .i64 0, .int .i64 0, .slice none 0 0] 25))
  have RP := Lib.hid ((HA.out.alloc (.cells #[.int .i64 W, .int .i64 H, .slice (some ⟨b, off, none⟩) n cap] 25)).alloc (.cells #[.int .i64 0, .int .i64 0, .slice none 0 0] 25))
  obtain ⟨wo, hwo⟩ : ∃ wo : World, wo = (w.alloc (.cells #[.int .i64 W, .int .i64 H, .slice (some ⟨b, off, none⟩) n cap] 25)).alloc (.cells #[.int .i64 0, .int .i64 0, .slice none 0 0] 25) := ⟨_, rfl⟩
  have ZO : Hid (wo.heap.size = w.heap.size + 1 + 1) := Lib.hid (by rw [hwo]; simp)
  rw [← hwo] at KP KZ HB RP ⊢
  clear hwo
  obtain ⟨l0, o0, o1, o2⟩ := KP.out.c3
  refine (impl_IsField W H _ n cap xs _ HN.out (by exact RP.out) (by omega)).mono ?_
  rintro e w4 ⟨rfl, hb⟩
  have ZO2 := ZO
  have KP := Lib.hid (KP.out.below' hb)
  have KZ := Lib.hid (KZ.out.below' hb)
  have RP := Lib.hid (RP.out.below hb)
  have ZB : Hid (wo.heap.size ≤ w4.heap.size) := Lib.hid hb.size
  have HB := Lib.hid (bTrans HB.out hb)
  clear hb l0 o0 o1 o2
  obtain ⟨l0, o0, o1, o2⟩ := KP.out.c3
  by_cases hok : fieldOk W H xs = true
  case neg =>
    have ER := Lib.hid (swapR_no hok)
    have hok2 : fieldOk W H xs = false := by simpa using hok
    rw [hok2]
    clear hok hok2
    go_wp2_with fail
    refine (impl_unchanged W H b off n cap xs _ HN.out (by exact RP.out) hl).mono ?_
    rintro e w5 ⟨oa, oc, rfl, ho, hb⟩
    have ZW : Hid (w.heap.size + 1 < w4.heap.size) := Lib.hid KZ.out.lt
    have KZ := Lib.hid (KZ.out.below' hb)
    have HB := Lib.hid (bTrans HB.out hb)
    have HO := Lib.hid ho
    clear hb ho l0 o0 o1 o2
    obtain ⟨z0, r0, r1, r2⟩ := KZ.out.c3
    obtain ⟨f0, f1, f2⟩ := KZ.out.f3
    go_wp2_with fail
    exact bodyPost_ret (v := .tuple #[.agg #[.int .i64 W, .int .i64 H, .slice oa n oc], .bool false]) (by simp [results, Try.results20, go_sem, r0, r1, r2]) rfl
      ⟨_, _, by rw [ER.out], by rw [ER.out]; exact (((HO.out.other (by simp; (try have := ZW.out); omega) _).other (by simp; (try have := ZW.out); omega) _).other (by simp; (try have := ZW.out); omega) _).mono (by have := ZW.out; omega),
        ((HB.out.setCell (by first | (simp; done) | (simp; omega)) _).setCell (by first | (simp; done) | (simp; omega)) _).setCell (by first | (simp; done) | (simp; omega)) _⟩
  case pos =>
    have HOK := Lib.hid hok
    rw [hok]
    clear hok
    go_wp2_with fail
    refine (impl_crowded W H _ n cap xs _ HN.out (by exact RP.out) HOK.out).mono ?_
    rintro e w5 ⟨f, gi, gc, rfl, hf, hb⟩
    have HF := Lib.hid (hf.mono ZB.out)
    have KZ := Lib.hid (KZ.out.below' hb)
    have HB := Lib.hid (bTrans HB.out hb)
    have HW5 := Lib.hid hb.size
    clear hf hb l0 o0 o1 o2
    go_wp2_with fail
    refine (impl_swap HF.out HOK.out).mono ?_
    rintro e w6 ⟨rfl, hf, hk⟩
    have KZ := Lib.hid (hk.blk KZ.out (by have := HF.out.hi; have := HF.out.hc; have := ZO.out; unfold Duo; omega))
    have HB := Lib.hid (HB.out.trans (hk.below (B := w.heap.size) (fun i hi => by have := HF.out.hi; have := HF.out.hc; have := ZO.out; unfold Duo at hi; omega) HB.out.size))
    have HF := Lib.hid hf
    have ER : Hid (swapR W H xs = ((swapG W H xs).1, (swapG W H xs).2)) := Lib.hid (by rw [swapR_yes HOK.out])
    obtain ⟨S1, hS1⟩ : ∃ S, (swapG W H xs).1 = S := ⟨_, rfl⟩
    obtain ⟨S2, hS2⟩ : ∃ S, (swapG W H xs).2 = S := ⟨_, rfl⟩
    rw [hS1] at ER HF
    rw [hS2] at ER ⊢
    clear hf hk hS1 hS2
    obtain ⟨z0, r0, r1, r2⟩ := KZ.out.c3
    obtain ⟨f0, f1, f2⟩ := KZ.out.f3
    obtain ⟨lf, p0, p1, p2, p3⟩ := HF.out.cells
    go_wp2_with fail
    exact bodyPost_ret (v := .tuple #[.agg #[.int .i64 W, .int .i64 H, .slice (some ⟨gi, 0, none⟩) n n], .bool S2]) (by simp [results, Try.results20, go_sem, r0, r1, r2]) rfl
      ⟨_, _, by rw [ER.out], by rw [ER.out]; exact ((((OwnA.mk HF.out.ink HF.out.hi).other (by simp; (try have := ZO.out); omega) _).other (by simp; (try have := ZO.out); omega) _).other (by simp; (try have := ZO.out); omega) _).mono (by have := ZO.out; omega),
        ((HB.out.setCell (by first | (simp; done) | (simp; omega)) _).setCell (by first | (simp; done) | (simp; omega)) _).setCell (by first | (simp; done) | (simp; omega)) _⟩

set_option maxRecDepth 100000 in
set_option maxHeartbeats 3200000 in
theorem impl_EvenField (W H : Int) (b off n cap : Nat) (xs : List Int) (m : Int) (w : World) (hn : xs.length = n) (ha : Rd w (some ⟨b, off, none⟩) xs) (hl : n ≤ 1048576) :
    Calls Try.prog 17 #[.agg #[.int .i64 W, .int .i64 H, .slice (some ⟨b, off, none⟩) n cap], .int .i64 m] w (EvenOut w W H n (evenR W H xs m)) := by
  have HN := Lib.hid hn
  have HA := Lib.hid ha
  clear hn ha
  go_enter Try.func17, Try.ntmps17
  go_wp2_with fail
  have KP := Lib.hid ((Blk.new w 25 #[.int .i64 W, .int .i64 H, .slice (some ⟨b, off, none⟩) n cap]).alloc (.cells #[.int .i64 0, .int .i64 0, .slice none 0 0] 25))
  have KZ := Lib.hid (Blk.new' (g := w.heap.size + 1) (w := w.alloc (.cells #[.int .i64 W, .int .i64 H, .slice (some ⟨b, off, none⟩) n cap] 25)) 25 #[.int .i64 0, .int .i64 0, .slice none 0 0] (by simp))
  have HB := Lib.hid (bAlloc (bAlloc (Below.refl w.heap.size w) (.cells #[.int .i64 W, .int .i64 H, .slice (some ⟨b, off, none⟩) n cap] 25)) (.cells #[.int .i64 0, .int .i64 0, .slice none 0 0] 25))
  have RP := Lib.hid ((HA.out.alloc (.cells #[.int .i64 W, .int .i64 H, .slice (some ⟨b, off, none⟩) n cap] 25)).alloc (.cells #[.int .i64 0, .int .i64 0, .slice none 0 0] 25))
  obtain ⟨wo, hwo⟩ : ∃ wo : World, wo = (w.alloc (.cells #[.int .i64 W, .int .i64 H, .slice (some ⟨b, off, none⟩) n cap] 25)).alloc (.cells #[.int .i64 0, .int .i64 0, .slice none 0 0] 25) := ⟨_, rfl⟩
  have ZO : Hid (wo.heap.size = w.heap.size + 1 + 1) := Lib.hid (by rw [hwo]; simp)
  rw [← hwo] at KP KZ HB RP ⊢
  clear hwo
  obtain ⟨l0, o0, o1, o2⟩ := KP.out.c3
  refine (impl_IsField W H _ n cap xs _ HN.out (by exact RP.out) (by omega)).mono ?_
  rintro e w4 ⟨rfl, hb⟩
  have KP := Lib.hid (KP.out.below' hb)
  have KZ := Lib.hid (KZ.out.below' hb)
  have RP := Lib.hid (RP.out.below hb)
  have ZB : Hid (wo.heap.size ≤ w4.heap.size) := Lib.hid hb.size
  have HB := Lib.hid (bTrans HB.out hb)
  clear hb l0 o0 o1 o2
  obtain ⟨l0, o0, o1, o2⟩ := KP.out.c3
  by_cases hok : fieldOk W H xs = true
  case neg =>
    have ER : Hid (evenR W H xs m = (xs, 0)) := Lib.hid (by unfold evenR; rw [if_neg (fun h => hok h.1)])
    have hok2 : fieldOk W H xs = false := by simpa using hok
    rw [hok2]
    clear hok hok2
    go_wp2_with fail
    refine (impl_unchanged W H b off n cap xs _ HN.out (by exact RP.out) hl).mono ?_
    rintro e w5 ⟨oa, oc, rfl, ho, hb⟩
    have ZW : Hid (w.heap.size + 1 < w4.heap.size) := Lib.hid KZ.out.lt
    have KZ := Lib.hid (KZ.out.below' hb)
    have HB := Lib.hid (bTrans HB.out hb)
    have HO := Lib.hid ho
    clear hb ho l0 o0 o1 o2
    obtain ⟨z0, r0, r1, r2⟩ := KZ.out.c3
    obtain ⟨f0, f1, f2⟩ := KZ.out.f3
    go_wp2_with fail
    exact bodyPost_ret (v := .tuple #[.agg #[.int .i64 W, .int .i64 H, .slice oa n oc], .int .i64 0]) (by simp [results, Try.results17, go_sem, r0, r1, r2]) rfl
      ⟨_, _, by rw [ER.out], by rw [ER.out]; exact (((HO.out.other (by simp; (try have := ZW.out); omega) _).other (by simp; (try have := ZW.out); omega) _).other (by simp; (try have := ZW.out); omega) _).mono (by have := ZW.out; omega),
        ((HB.out.setCell (by first | (simp; done) | (simp; omega)) _).setCell (by first | (simp; done) | (simp; omega)) _).setCell (by first | (simp; done) | (simp; omega)) _⟩
  case pos =>
    have HOK := Lib.hid hok
    rw [hok]
    by_cases hm : 0 ≤ m ∧ m ≤ 64
    case neg =>
      have ER : Hid (evenR W H xs m = (xs, 0)) := Lib.hid (by unfold evenR; rw [if_neg (fun h => hm h.2)])
      clear hok
      by_cases h0 : m < 0
      · clear hm
        go_wp2_with fail
        refine (impl_unchanged W H b off n cap xs _ HN.out (by exact RP.out) hl).mono ?_
        rintro e w5 ⟨oa, oc, rfl, ho, hb⟩
        have ZW : Hid (w.heap.size + 1 < w4.heap.size) := Lib.hid KZ.out.lt
        have KZ := Lib.hid (KZ.out.below' hb)
        have HB := Lib.hid (bTrans HB.out hb)
        have HO := Lib.hid ho
        clear hb ho l0 o0 o1 o2
        obtain ⟨z0, r0, r1, r2⟩ := KZ.out.c3
        obtain ⟨f0, f1, f2⟩ := KZ.out.f3
        go_wp2_with fail
        exact bodyPost_ret (v := .tuple #[.agg #[.int .i64 W, .int .i64 H, .slice oa n oc], .int .i64 0]) (by simp [results, Try.results17, go_sem, r0, r1, r2]) rfl
          ⟨_, _, by rw [ER.out], by rw [ER.out]; exact (((HO.out.other (by simp; (try have := ZW.out); omega) _).other (by simp; (try have := ZW.out); omega) _).other (by simp; (try have := ZW.out); omega) _).mono (by have := ZW.out; omega),
            ((HB.out.setCell (by first | (simp; done) | (simp; omega)) _).setCell (by first | (simp; done) | (simp; omega)) _).setCell (by first | (simp; done) | (simp; omega)) _⟩
      · have h1 : 0 ≤ m := by omega
        have h2 : 64 < m := by omega
        clear hm h0
        go_wp2_with fail
        all_goals (try (exfalso; omega))
        refine (impl_unchanged W H b off n cap xs _ HN.out (by exact RP.out) hl).mono ?_
        rintro e w5 ⟨oa, oc, rfl, ho, hb⟩
        have ZW : Hid (w.heap.size + 1 < w4.heap.size) := Lib.hid KZ.out.lt
        have KZ := Lib.hid (KZ.out.below' hb)
        have HB := Lib.hid (bTrans HB.out hb)
        have HO := Lib.hid ho
        clear hb ho l0 o0 o1 o2
        obtain ⟨z0, r0, r1, r2⟩ := KZ.out.c3
        obtain ⟨f0, f1, f2⟩ := KZ.out.f3
        go_wp2_with fail
        exact bodyPost_ret (v := .tuple #[.agg #[.int .i64 W, .int .i64 H, .slice oa n oc], .int .i64 0]) (by simp [results, Try.results17, go_sem, r0, r1, r2]) rfl
          ⟨_, _, by rw [ER.out], by rw [ER.out]; exact (((HO.out.other (by simp; (try have := ZW.out); omega) _).other (by simp; (try have := ZW.out); omega) _).other (by simp; (try have := ZW.out); omega) _).mono (by have := ZW.out; omega),
            ((HB.out.setCell (by first | (simp; done) | (simp; omega)) _).setCell (by first | (simp; done) | (simp; omega)) _).setCell (by first | (simp; done) | (simp; omega)) _⟩
    case pos =>
      obtain ⟨M, hM⟩ : ∃ M : Nat, m = M := ⟨m.toNat, by omega⟩
      subst hM
      have hm64 : M ≤ 64 := by omega
      have hm65 : (M : Int) ≤ 64 := by omega
      have hm0 : 0 ≤ (M : Int) := by omega
      have ER : Hid (evenR W H xs M = ((evenG W H M xs).1, ((evenG W H M xs).2 : Int))) := Lib.hid (by unfold evenR; rw [if_pos ⟨hok, hm⟩]; rfl)
      clear hok hm
      go_wp2_with fail
      all_goals (try (exfalso; omega))
      refine (impl_crowded W H _ n cap xs _ HN.out (by exact RP.out) HOK.out).mono ?_
      rintro e w5 ⟨f, gi, gc, rfl, hf, hb⟩
      have HF := Lib.hid (hf.mono ZB.out)
      have KZ := Lib.hid (KZ.out.below' hb)
      have HB := Lib.hid (bTrans HB.out hb)
      have HG : Hid (wo.heap.size ≤ gi ∧ wo.heap.size ≤ gc) := Lib.hid ⟨HF.out.hi, HF.out.hc⟩
      clear hf hb l0 o0 o1 o2
      go_wp2_with fail
      go_loopw [7] (fun s wr => ∃ (k : Nat) (cur : List Int), k ≤ M ∧ s = .int .i64 k ∧ Hid (evenG W H M xs = ((evenG W H (M - k) cur).1, (evenG W H (M - k) cur).2 + k)) ∧ Hid (fieldOk W H cur = true) ∧ Hid (FSt wr wo.heap.size f gi gc W H n cur (gen n (crowdG W H cur))) ∧ Hid (Keep6 (Duo gi gc) w5 wr)) (fun s _ => M - (intOf s).toNat)
      case atStart => exact ⟨0, xs, Nat.zero_le _, rfl, Lib.hid (by simp), HOK, HF, Lib.hid (Keep6.refl _ _)⟩
      case round =>
        clear HF
        obtain ⟨k, cur, hk, rfl, HE, HFO, HF, HK⟩ := hrel
        by_cases hlt : k < M
        · go_wp2_with fail
          refine (impl_swap HF.out HFO.out).mono ?_
          rintro e w6 ⟨rfl, hf, hkk⟩
          have HK6 := Lib.hid (HK.out.trans hkk)
          have HF6 := Lib.hid hf
          have HFO6 := Lib.hid (field_swap HFO.out)
          clear hf hkk
          by_cases hs : (swapG W H cur).2 = true
          · have EE : Hid (evenG W H M xs = ((evenG W H (M - (k + 1)) (swapG W H cur).1).1, (evenG W H (M - (k + 1)) (swapG W H cur).1).2 + (k + 1))) := Lib.hid (by
              rw [HE.out, show M - k = M - (k + 1) + 1 by omega, even_yes hs]
              simp only []
              congr 1
              omega)
            rw [hs]
            clear hs
            go_wp2_with fail
            go_roundw
            case rel => exact ⟨k + 1, (swapG W H cur).1, by omega, by go_num, Lib.hid (by have e := EE.out; push_cast at e ⊢; exact e), HFO6, HF6, HK6⟩
            case measure => simp [intOf]; omega
          · have hs2 : (swapG W H cur).2 = false := by simpa using hs
            have EE : Hid (evenR W H xs M = (cur, (k : Int))) := Lib.hid (by
              rw [ER.out, HE.out, even_no _ hs2]
              simp)
            rw [hs2]
            have HF : Hid (FSt w6 wo.heap.size f gi gc W H n cur (gen n (crowdG W H (swapG W H cur).1))) := Lib.hid (by have h := HF6.out; rw [swap_same hs2] at h ⊢; exact h)
            have ER := EE
            have KZ := Lib.hid (HK6.out.blk KZ.out (by have := HG.out; have := ZO.out; unfold Duo; omega))
            have HB := Lib.hid (HB.out.trans (HK6.out.below (B := w.heap.size) (fun i hi => by have := HG.out; have := ZO.out; unfold Duo at hi; omega) HB.out.size))
            clear hs hs2
            obtain ⟨z0, r0, r1, r2⟩ := KZ.out.c3
            obtain ⟨f0, f1, f2⟩ := KZ.out.f3
            obtain ⟨lf, p0, p1, p2, p3⟩ := HF.out.cells
            go_wp2_with fail
            exact bodyPost_ret (v := .tuple #[.agg #[.int .i64 W, .int .i64 H, .slice (some ⟨gi, 0, none⟩) n n], .int .i64 k]) (by simp [results, Try.results17, go_sem, r0, r1, r2]) rfl
              ⟨_, _, by rw [ER.out], by rw [ER.out]; exact ((((OwnA.mk HF.out.ink HF.out.hi).other (by simp; (try have := ZO.out); omega) _).other (by simp; (try have := ZO.out); omega) _).other (by simp; (try have := ZO.out); omega) _).mono (by have := ZO.out; omega),
                ((HB.out.setCell (by first | (simp; done) | (simp; omega)) _).setCell (by first | (simp; done) | (simp; omega)) _).setCell (by first | (simp; done) | (simp; omega)) _⟩
        · obtain rfl : k = M := by omega
          have EE : Hid (evenR W H xs k = (cur, (k : Int))) := Lib.hid (by
            rw [ER.out, HE.out, Nat.sub_self]
            simp [evenG])
          have ER := EE
          have KZ := Lib.hid (HK.out.blk KZ.out (by have := HG.out; have := ZO.out; unfold Duo; omega))
          have HB := Lib.hid (HB.out.trans (HK.out.below (B := w.heap.size) (fun i hi => by have := HG.out; have := ZO.out; unfold Duo at hi; omega) HB.out.size))
          obtain ⟨z0, r0, r1, r2⟩ := KZ.out.c3
          obtain ⟨f0, f1, f2⟩ := KZ.out.f3
          obtain ⟨lf, p0, p1, p2, p3⟩ := HF.out.cells
          go_wp2_with fail
          exact bodyPost_ret (v := .tuple #[.agg #[.int .i64 W, .int .i64 H, .slice (some ⟨gi, 0, none⟩) n n], .int .i64 k]) (by simp [results, Try.results17, go_sem, r0, r1, r2]) rfl
            ⟨_, _, by rw [ER.out], by rw [ER.out]; exact ((((OwnA.mk HF.out.ink HF.out.hi).other (by simp; (try have := ZO.out); omega) _).other (by simp; (try have := ZO.out); omega) _).other (by simp; (try have := ZO.out); omega) _).mono (by have := ZO.out; omega),
              ((HB.out.setCell (by first | (simp; done) | (simp; omega)) _).setCell (by first | (simp; done) | (simp; omega)) _).setCell (by first | (simp; done) | (simp; omega)) _⟩

end Go.Proofs.Ytnhjdmdnicnmmaa
