/-
  Contracts of chapter 7 in the model: evening out, roughness.
-/
import Derived.Test.YtmkpmdnipakmgaaQ4
namespace Go.Proofs.Ytmkpmdnipakmgaa
open Go.RowKit
set_option linter.unusedVariables false
set_option linter.unusedSimpArgs false

def evenR (W H : Int) (xs : List Int) (m : Int) : List Int × Int := if fieldOk W H xs = true ∧ 0 ≤ m ∧ m ≤ 64 then ((evenG W H m.toNat xs).1, ((evenG W H m.toNat xs).2 : Int)) else (xs, 0)

theorem evenF_is (W H : Int) (xs : List Int) (m : Int) : evenF W H xs m = (⟨W, H, (evenR W H xs m).1⟩, (evenR W H xs m).2) := by
  unfold evenF evenR
  split <;> rfl

/-- A picture with a row of its own and a number are handed back. -/
def EvenOut (w : World) (W H : Int) (n : Nat) (R : List Int × Int) (e : Ending) (w' : World) : Prop :=
  ∃ a c, e = .returned (.tuple #[.agg #[.int .i64 W, .int .i64 H, .slice a n c], .int .i64 R.2]) ∧ OwnA w' w.heap.size a n c R.1 ∧ Below w.heap.size w w'

/-- A picture and a number are handed back. -/
def PicOutI (w : World) (R : Pic × Int) (e : Ending) (w' : World) : Prop :=
  ∃ a n c, e = .returned (.tuple #[.agg #[.int .i64 R.1.W, .int .i64 R.1.H, .slice a n c], .int .i64 R.2]) ∧ OwnA w' w.heap.size a n c R.1.ink ∧ n ≤ 1048576 ∧ Below w.heap.size w w'

theorem EvenOut.out {w : World} {W H m : Int} {n : Nat} {xs : List Int} {e : Ending} {w' : World} (h : EvenOut w W H n (evenR W H xs m) e w') (hl : n ≤ 1048576) : PicOutI w (evenF W H xs m) e w' := by
  rw [evenF_is]
  obtain ⟨a, c, h1, h2, h3⟩ := h
  exact ⟨a, n, c, h1, h2, hl, h3⟩

theorem roughTo_bd {W H : Int} {xs : List Int} {n : Nat} (hn : xs.length = n) (h : fieldOk W H xs = true) (k : Nat) : 0 ≤ roughTo W H xs k ∧ roughTo W H xs k ≤ 1099511627776 * k := by
  induction k with
  | zero => exact ⟨Int.le_refl _, Int.le_refl _⟩
  | succ k ih =>
    obtain ⟨c1, c2⟩ := crowdG_bd hn h k
    have m1 := Int.mul_le_mul c2 c2 c1 (by omega)
    have m2 := Int.mul_nonneg c1 c1
    unfold roughTo
    omega

set_option maxHeartbeats 1600000 in
theorem spec_RoughnessOf (W H : Int) (ad : Option Addr) (n cap : Nat) (xs : List Int) (w : World) (hn : xs.length = n) (ha : Rd w ad xs) (hl : n ≤ 9223372036854775807) :
    Calls Try.prog 39 #[.agg #[.int .i64 W, .int .i64 H, .slice ad n cap]] w fun e w' => e = .returned (.int .i64 (roughF W H xs)) ∧ Below w.heap.size w w' := by
  have HN := Lib.hid hn
  have HA := Lib.hid ha
  clear hn ha
  go_enter Try.func39, Try.ntmps39
  go_wp2_with fail
  refine (spec_IsField _ _ _ _ _ xs _ HN.out (by exact HA.out.alloc _) hl).mono ?_
  rintro e w1 ⟨rfl, hb⟩
  have HB1 := Lib.hid ((Joins.below_alloc1 _ _).trans (hb.mono (by simp)))
  have KP1 := Lib.hid ((Blk.new w 27 #[.int .i64 W, .int .i64 H, .slice ad n cap]).below' hb)
  have RP1 := Lib.hid ((HA.out.alloc (.cells #[.int .i64 W, .int .i64 H, .slice ad n cap] 27)).below hb)
  obtain ⟨l1, c0, c1, c2⟩ := KP1.out.c3
  clear hb
  by_cases hok : fieldOk W H xs = true
  · have E : Hid (roughF W H xs = roughTo W H xs n) := Lib.hid (by unfold roughF; rw [if_pos hok, HN.out])
    obtain ⟨b1, b2, b3, b4, b5, b6, b7, b8, b9⟩ := field_bd HN.out hok
    have B5 := Lib.hid b5
    have B8 := Lib.hid b8
    have B9 := Lib.hid b9
    clear b5 b8 b9
    have HOK := Lib.hid hok
    rw [hok]
    clear hok
    go_wp2_with fail
    go_loopw [3, 12] (fun s j wr => ∃ k : Nat, k ≤ n ∧ j = .int .i64 k ∧ s = .int .i64 (roughTo W H xs k) ∧ Below w1.heap.size w1 wr) (fun _ j _ => n - (intOf j).toNat)
    case atStart => exact ⟨0, Nat.zero_le _, rfl, rfl, Below.refl _ _⟩
    case round =>
      obtain ⟨k, hk, rfl, rfl, hwr⟩ := hrel
      have HWr := Lib.hid hwr
      have KPr := Lib.hid (KP1.out.below' hwr)
      have RPr := Lib.hid (RP1.out.below hwr)
      clear hwr
      by_cases hlt : k < n
      · clear c0 c1 c2 l1
        obtain ⟨l0, o0, o1, o2⟩ := KPr.out.c3
        obtain ⟨c1, c2⟩ := crowdG_bd HN.out HOK.out k
        obtain ⟨s1, s2⟩ := roughTo_bd HN.out HOK.out k
        have ER : Hid (roughTo W H xs (k + 1) = roughTo W H xs k + crowdG W H xs k * crowdG W H xs k) := Lib.hid rfl
        have FC := Lib.hid (fun (v : World) hr => spec_l6Crowd W H ad n cap xs k v HN.out hr HOK.out hlt)
        obtain ⟨C, hC⟩ : ∃ C, crowdG W H xs k = C := ⟨_, rfl⟩
        obtain ⟨S, hS⟩ : ∃ S, roughTo W H xs k = S := ⟨_, rfl⟩
        rw [hC] at c1 c2 FC ER
        rw [hS] at s1 s2 ER
        rw [hS]
        have m1 := Int.mul_le_mul c2 c2 c1 (by omega)
        have m2 := Int.mul_nonneg c1 c1
        obtain ⟨Q, hQ⟩ : ∃ Q, C * C = Q := ⟨_, rfl⟩
        rw [hQ] at ER m1 m2
        have u1 : IntKind.i64.wrap (C * C) = Q := by rw [hQ]; exact IntWalk.i64_in _ (by omega)
        have s3 : S ≤ 281474976710656 := by omega
        have u2 : IntKind.i64.wrap (S + Q) = S + Q := IntWalk.i64_in _ (by omega)
        have HQ := Lib.hid hQ
        clear hC hS hQ s2
        go_wp2_with fail
        refine (FC.out _ (by exact RPr.out)).mono ?_
        rintro e w3 ⟨rfl, hb⟩
        have HW3 := Lib.hid (bTrans HWr.out hb)
        clear hb
        go_wp2_with fail
        go_roundw
        case rel => exact ⟨k + 1, by omega, by go_num, by rw [ER.out], HW3.out⟩
        case measure => simp [intOf]; omega
      · obtain rfl : n = k := by omega
        go_wp2_with fail
        go_ret
        exact ⟨ret_int (by rw [E.out]), bTrans HB1.out HWr.out⟩
  · have E : Hid (roughF W H xs = -1) := Lib.hid (by unfold roughF; rw [if_neg hok])
    have hok2 : fieldOk W H xs = false := by simpa using hok
    rw [hok2]
    clear hok hok2
    go_wp2_with fail
    go_ret
    exact ⟨ret_int (by rw [E.out]), HB1.out⟩

set_option maxRecDepth 100000 in
set_option maxHeartbeats 3200000 in
theorem spec_EvenField (W H : Int) (b off n cap : Nat) (xs : List Int) (m : Int) (w : World) (hn : xs.length = n) (ha : Rd w (some ⟨b, off, none⟩) xs) (hl : n ≤ 1048576) :
    Calls Try.prog 30 #[.agg #[.int .i64 W, .int .i64 H, .slice (some ⟨b, off, none⟩) n cap], .int .i64 m] w (EvenOut w W H n (evenR W H xs m)) := by
  have HN := Lib.hid hn
  have HA := Lib.hid ha
  clear hn ha
  go_enter Try.func30, Try.ntmps30
  go_wp2_with fail
  have KP := Lib.hid ((Blk.new w 27 #[.int .i64 W, .int .i64 H, .slice (some ⟨b, off, none⟩) n cap]).alloc (.cells #[.int .i64 0, .int .i64 0, .slice none 0 0] 27))
  have KZ := Lib.hid (Blk.new' (g := w.heap.size + 1) (w := w.alloc (.cells #[.int .i64 W, .int .i64 H, .slice (some ⟨b, off, none⟩) n cap] 27)) 27 #[.int .i64 0, .int .i64 0, .slice none 0 0] (by simp))
  have HB := Lib.hid (bAlloc (bAlloc (Below.refl w.heap.size w) (.cells #[.int .i64 W, .int .i64 H, .slice (some ⟨b, off, none⟩) n cap] 27)) (.cells #[.int .i64 0, .int .i64 0, .slice none 0 0] 27))
  have RP := Lib.hid ((HA.out.alloc (.cells #[.int .i64 W, .int .i64 H, .slice (some ⟨b, off, none⟩) n cap] 27)).alloc (.cells #[.int .i64 0, .int .i64 0, .slice none 0 0] 27))
  obtain ⟨wo, hwo⟩ : ∃ wo : World, wo = (w.alloc (.cells #[.int .i64 W, .int .i64 H, .slice (some ⟨b, off, none⟩) n cap] 27)).alloc (.cells #[.int .i64 0, .int .i64 0, .slice none 0 0] 27) := ⟨_, rfl⟩
  have ZO : Hid (wo.heap.size = w.heap.size + 1 + 1) := Lib.hid (by rw [hwo]; simp)
  rw [← hwo] at KP KZ HB RP ⊢
  clear hwo
  obtain ⟨l0, o0, o1, o2⟩ := KP.out.c3
  refine (spec_l6Copy W H b off n cap xs _ HN.out (by exact RP.out) hl).mono ?_
  rintro e w2 ⟨oa, oc, rfl, ho, hb⟩
  have ZB : Hid (wo.heap.size ≤ w2.heap.size) := Lib.hid hb.size
  have WB := Lib.hid (bAlloc hb (.cells #[.int .i64 W, .int .i64 H, .slice oa n oc] 27))
  have KP := Lib.hid ((KP.out.below' hb).alloc (.cells #[.int .i64 W, .int .i64 H, .slice oa n oc] 27))
  have KO := Lib.hid (Blk.new w2 27 #[.int .i64 W, .int .i64 H, .slice oa n oc])
  have HO := Lib.hid (ho.alloc (.cells #[.int .i64 W, .int .i64 H, .slice oa n oc] 27))
  have RP := Lib.hid ((RP.out.below hb).alloc (.cells #[.int .i64 W, .int .i64 H, .slice oa n oc] 27))
  have HBd := Lib.hid ho.bd
  clear hb ho l0 o0 o1 o2
  obtain ⟨l0, o0, o1, o2⟩ := KP.out.c3
  obtain ⟨w3, hw3⟩ : ∃ w3, w3 = w2.alloc (.cells #[.int .i64 W, .int .i64 H, .slice oa n oc] 27) := ⟨_, rfl⟩
  go_wp2_with fail
  rw [← hw3] at KP KO HO RP WB l0 o0 o1 o2 ⊢
  clear hw3
  refine (spec_IsField W H _ n cap xs _ HN.out (by exact RP.out) (by omega)).mono ?_
  rintro e w4 ⟨rfl, hb⟩
  have KO := Lib.hid (KO.out.below' hb)
  have HO := Lib.hid (HO.out.below' hb)
  have WB := Lib.hid (bTrans WB.out hb)
  clear hb l0 o0 o1 o2
  by_cases hok : fieldOk W H xs = true
  case neg =>
    have ER : Hid (evenR W H xs m = (xs, 0)) := Lib.hid (by unfold evenR; rw [if_neg (fun h => hok h.1)])
    have hok2 : fieldOk W H xs = false := by simpa using hok
    rw [hok2]
    have KZ := Lib.hid (KZ.out.below WB.out KZ.out.lt)
    have HB := Lib.hid (bTrans HB.out WB.out)
    clear hok hok2
    obtain ⟨z0, r0, r1, r2⟩ := KZ.out.c3
    obtain ⟨f0, f1, f2⟩ := KZ.out.f3
    obtain ⟨l0, o0, o1, o2⟩ := KO.out.c3
    go_wp2_with fail
    exact bodyPost_ret (v := .tuple #[.agg #[.int .i64 W, .int .i64 H, .slice oa n oc], .int .i64 0]) (by simp [results, Try.results30, go_sem, r0, r1, r2]) rfl
      ⟨_, _, by rw [ER.out], by rw [ER.out]; exact (((HO.out.other (by simp; (try have := ZO.out); omega) _).other (by simp; (try have := ZO.out); omega) _).other (by simp; (try have := ZO.out); omega) _).mono (by have := ZO.out; omega),
        ((HB.out.setCell (by first | (simp; done) | (simp; omega)) _).setCell (by first | (simp; done) | (simp; omega)) _).setCell (by first | (simp; done) | (simp; omega)) _⟩
  case pos =>
    have HOK := Lib.hid hok
    rw [hok]
    by_cases hm : 0 ≤ m ∧ m ≤ 64
    case neg =>
      have ER : Hid (evenR W H xs m = (xs, 0)) := Lib.hid (by unfold evenR; rw [if_neg (fun h => hm h.2)])
      have HM := Lib.hid hm
      clear hok hm
      go_wp2_with fail
      refine (spec_l1In_no _ _ _ _ HM.out).mono ?_
      rintro e w5 ⟨rfl, rfl⟩
      have KZ := Lib.hid (KZ.out.below WB.out KZ.out.lt)
      have HB := Lib.hid (bTrans HB.out WB.out)
      obtain ⟨z0, r0, r1, r2⟩ := KZ.out.c3
      obtain ⟨f0, f1, f2⟩ := KZ.out.f3
      obtain ⟨l0, o0, o1, o2⟩ := KO.out.c3
      go_wp2_with fail
      exact bodyPost_ret (v := .tuple #[.agg #[.int .i64 W, .int .i64 H, .slice oa n oc], .int .i64 0]) (by simp [results, Try.results30, go_sem, r0, r1, r2]) rfl
        ⟨_, _, by rw [ER.out], by rw [ER.out]; exact (((HO.out.other (by simp; (try have := ZO.out); omega) _).other (by simp; (try have := ZO.out); omega) _).other (by simp; (try have := ZO.out); omega) _).mono (by have := ZO.out; omega),
          ((HB.out.setCell (by first | (simp; done) | (simp; omega)) _).setCell (by first | (simp; done) | (simp; omega)) _).setCell (by first | (simp; done) | (simp; omega)) _⟩
    case pos =>
      obtain ⟨M, hM⟩ : ∃ M : Nat, m = M := ⟨m.toNat, by omega⟩
      subst hM
      have hm64 : M ≤ 64 := by omega
      have ER : Hid (evenR W H xs M = ((evenG W H M xs).1, ((evenG W H M xs).2 : Int))) := Lib.hid (by unfold evenR; rw [if_pos ⟨hok, hm⟩]; rfl)
      have n1 : 1 ≤ n := (field_bd HN.out hok).2.2.2.2.2.2.1
      clear hok hm
      go_wp2_with fail
      refine (spec_l1In_yes _ _ _ _ (by omega) (by omega)).mono ?_
      rintro e w5 ⟨rfl, rfl⟩
      go_wp2_with fail
      go_loopw [7] (fun s wr => ∃ (k : Nat) (a : Option Addr) (c : Nat) (cur : List Int), k ≤ M ∧ s = .int .i64 k ∧ Hid (evenG W H M xs = ((evenG W H (M - k) cur).1, (evenG W H (M - k) cur).2 + k)) ∧ Hid (fieldOk W H cur = true) ∧ Hid (cur.length = n) ∧ Hid (OwnA wr wo.heap.size a n c cur) ∧ Hid (∀ b, blockOf a = some b → b ≠ w2.heap.size) ∧ Hid (Blk wr w2.heap.size 27 #[.int .i64 W, .int .i64 H, .slice a n c]) ∧ Hid (Below wo.heap.size wo wr)) (fun s _ => M - (intOf s).toNat)
      case atStart => exact ⟨0, oa, oc, xs, Nat.zero_le _, rfl, Lib.hid (by simp), HOK, HN, HO, Lib.hid (fun b hb => by have := HBd.out b hb; omega), KO, WB⟩
      case round =>
        clear KO HO WB HBd
        obtain ⟨k, a, c, cur, hk, rfl, HE, HF, HL, HO, HNE, KO, WB⟩ := hrel
        by_cases hlt : k < M
        · obtain ⟨g, hga, hgB, hog⟩ : ∃ g, a = some ⟨g, 0, none⟩ ∧ wo.heap.size ≤ g ∧ Own wr g n c cur := by
            rcases HO.out with ⟨_, h, _⟩ | h
            · omega
            · exact h
          subst hga
          have HG := Lib.hid hog
          clear hog
          obtain ⟨l0, o0, o1, o2⟩ := KO.out.c3
          go_wp2_with fail
          refine (spec_SwapStep W H g 0 n c cur _ HL.out (by exact HG.out.rd) hl).mono ?_
          rw [swapR_yes HF.out]
          rintro e w6 ⟨a2, c2, rfl, ho, hb⟩
          have HL2 : Hid ((swapG W H cur).1.length = n) := Lib.hid (by rw [swap_len]; exact HL.out)
          have HF2 := Lib.hid (field_swap HF.out)
          have hsz := hb.size
          have HSZ := Lib.hid hsz
          have HO6 := Lib.hid (ho.alloc (.cells #[.int .i64 W, .int .i64 H, .slice a2 n c2] 27))
          have KO6 := Lib.hid ((KO.out.below' hb).alloc (.cells #[.int .i64 W, .int .i64 H, .slice a2 n c2] 27))
          have KN6 := Lib.hid (Blk.new w6 27 #[.int .i64 W, .int .i64 H, .slice a2 n c2])
          have HG6 := Lib.hid ((HG.out.below hb HG.out.lt).alloc (.cells #[.int .i64 W, .int .i64 H, .slice a2 n c2] 27))
          have WB6 := Lib.hid (bAlloc (bTrans WB.out hb) (.cells #[.int .i64 W, .int .i64 H, .slice a2 n c2] 27))
          have HBD := Lib.hid ho.bd
          have KL := Lib.hid KO.out.lt
          clear ho hb hsz l0 o0 o1 o2 HG
          obtain ⟨w7, hw7⟩ : ∃ w7, w7 = w6.alloc (.cells #[.int .i64 W, .int .i64 H, .slice a2 n c2] 27) := ⟨_, rfl⟩
          have sz7 : w2.heap.size < w6.heap.size := by have := KL.out; have := HSZ.out; omega
          by_cases hs : (swapG W H cur).2 = true
          · have EE : Hid (evenG W H M xs = ((evenG W H (M - (k + 1)) (swapG W H cur).1).1, (evenG W H (M - (k + 1)) (swapG W H cur).1).2 + (k + 1))) := Lib.hid (by
              rw [HE.out, show M - k = M - (k + 1) + 1 by omega, even_yes hs]
              simp only []
              congr 1
              omega)
            rw [hs]
            clear hs
            go_upto_region 8 with fail
            rw [← hw7] at HO6 KO6 KN6 HG6 WB6 ⊢
            clear hw7
            obtain ⟨q0, p0, p1, p2⟩ := KN6.out.c3
            obtain ⟨l0, o0, o1, o2⟩ := KO6.out.c3
            obtain ⟨f0, f1, f2⟩ := KO6.out.f3
            go_wp2_with fail
            go_roundw
            case rel =>
              have zb := ZB.out
              refine ⟨k + 1, a2, c2, (swapG W H cur).1, by omega, by go_num, Lib.hid (by have e := EE.out; push_cast at e ⊢; exact e), HF2, HL2, Lib.hid ?_, Lib.hid (fun b hb => ?_), Lib.hid ?_, Lib.hid ?_⟩
              · exact (((HO6.out.other (by simp; have := KL.out; omega) _).other (by simp; have := KL.out; omega) _).other (by simp; have := KL.out; omega) _).mono (by have := WB.out.size; omega)
              · have := HBD.out b hb; have := KL.out; omega
              · first | exact ((KO6.out.set 0 _).set 1 _).set 2 _ | (have h := ((KO6.out.set 0 (.int .i64 W)).set 1 (.int .i64 H)).set 2 (.slice a2 n c2); simpa using h)
              · exact ((WB6.out.setCell (by simp; omega) _).setCell (by simp; omega) _).setCell (by simp; omega) _
            case measure => simp [intOf]; omega
          · have hs2 : (swapG W H cur).2 = false := by simpa using hs
            have EE : Hid (evenR W H xs M = (cur, (k : Int))) := Lib.hid (by
              rw [ER.out, HE.out, even_no _ hs2]
              simp)
            rw [hs2]
            clear hs hs2
            go_upto_region 8 with fail
            rw [← hw7] at HO6 KO6 KN6 HG6 WB6 ⊢
            clear hw7
            have KZ := Lib.hid (KZ.out.below WB6.out KZ.out.lt)
            have HB := Lib.hid (bTrans HB.out WB6.out)
            have KO := KO6
            have HO : Hid (OwnA w7 wo.heap.size (some ⟨g, 0, none⟩) n c cur) := Lib.hid (OwnA.mk HG6.out hgB)
            have ER := EE
            obtain ⟨z0, r0, r1, r2⟩ := KZ.out.c3
            obtain ⟨f0, f1, f2⟩ := KZ.out.f3
            obtain ⟨l0, o0, o1, o2⟩ := KO.out.c3
            go_wp2_with fail
            exact bodyPost_ret (v := .tuple #[.agg #[.int .i64 W, .int .i64 H, .slice (some ⟨g, 0, none⟩) n c], .int .i64 k]) (by simp [results, Try.results30, go_sem, r0, r1, r2]) rfl
              ⟨_, _, by rw [ER.out], by rw [ER.out]; exact (((HO.out.other (by simp; (try have := ZO.out); omega) _).other (by simp; (try have := ZO.out); omega) _).other (by simp; (try have := ZO.out); omega) _).mono (by have := ZO.out; omega),
                ((HB.out.setCell (by first | (simp; done) | (simp; omega)) _).setCell (by first | (simp; done) | (simp; omega)) _).setCell (by first | (simp; done) | (simp; omega)) _⟩
        · obtain rfl : k = M := by omega
          have EE : Hid (evenR W H xs k = (cur, (k : Int))) := Lib.hid (by
            rw [ER.out, HE.out, Nat.sub_self]
            simp [evenG])
          have KZ := Lib.hid (KZ.out.below WB.out KZ.out.lt)
          have HB := Lib.hid (bTrans HB.out WB.out)
          have ER := EE
          obtain ⟨z0, r0, r1, r2⟩ := KZ.out.c3
          obtain ⟨f0, f1, f2⟩ := KZ.out.f3
          obtain ⟨l0, o0, o1, o2⟩ := KO.out.c3
          go_wp2_with fail
          exact bodyPost_ret (v := .tuple #[.agg #[.int .i64 W, .int .i64 H, .slice a n c], .int .i64 k]) (by simp [results, Try.results30, go_sem, r0, r1, r2]) rfl
            ⟨_, _, by rw [ER.out], by rw [ER.out]; exact (((HO.out.other (by simp; (try have := ZO.out); omega) _).other (by simp; (try have := ZO.out); omega) _).other (by simp; (try have := ZO.out); omega) _).mono (by have := ZO.out; omega),
              ((HB.out.setCell (by first | (simp; done) | (simp; omega)) _).setCell (by first | (simp; done) | (simp; omega)) _).setCell (by first | (simp; done) | (simp; omega)) _⟩

end Go.Proofs.Ytmkpmdnipakmgaa
