/-
  Contracts of InkAt (model), IsPlate, NegativePicture, of the program (impl) and of the model (spec).
-/
import Derived.Test.YtkjhpfgcmbigfaaC3
import Derived.Test.YtkjhpfgcmbigfaaM2
namespace Go.Proofs.Ytkjhpfgcmbigfaa
open Go.RowKit
set_option linter.unusedVariables false
set_option linter.unusedSimpArgs false

theorem within_le {xs : List Int} (h : within xs 1 = true) : within xs 255 = true := by
  unfold within at h ⊢
  rw [List.all_eq_true] at h ⊢
  intro x hx
  have := h x hx
  simp at this ⊢
  omega

theorem picOk_le {W H : Int} {xs : List Int} (h : picOk W H xs 1 = true) : picOk W H xs 255 = true := by
  obtain ⟨h1, h2, h3⟩ := picOk_bd rfl h
  rw [picOk_in rfl h1 h2]
  exact within_le h3

set_option maxHeartbeats 400000 in
theorem spec_IsPlate (W H : Int) (ad : Option Addr) (n cap : Nat) (xs : List Int) (w : World) (hn : xs.length = n) (ha : Rd w ad xs) (hl : n ≤ 9223372036854775807) :
    Calls Try.prog 57 #[.agg #[.int .i64 W, .int .i64 H, .slice ad n cap]] w fun e w' => e = .returned (.bool (picOk W H xs 1)) ∧ Below w.heap.size w w' := by
  have HN := Lib.hid hn
  have HA := Lib.hid ha
  clear hn ha
  go_enter Try.func57, Try.ntmps57
  go_wp2_with fail
  refine (spec_l1Up _ _ _ _ _ xs _ _ HN.out (HA.out.below (Joins.below_alloc1 _ _)) hl).mono ?_
  rintro e w' ⟨rfl, hb⟩
  have HB := Lib.hid hb
  clear hb
  go_wp2_with fail
  go_ret
  exact ⟨rfl, (Joins.below_alloc1 _ _).trans (HB.out.mono (by simp))⟩

set_option maxHeartbeats 400000 in
theorem impl_IsPlate (W H : Int) (ad : Option Addr) (n cap : Nat) (xs : List Int) (w : World) (hn : xs.length = n) (ha : Rd w ad xs) (hl : n ≤ 9223372036854775807) :
    Calls Try.prog 47 #[.agg #[.int .i64 W, .int .i64 H, .slice ad n cap]] w fun e w' => e = .returned (.bool (picOk W H xs 1)) ∧ Below w.heap.size w w' := by
  have HN := Lib.hid hn
  have HA := Lib.hid ha
  clear hn ha
  by_cases hp : picOk W H xs 255 = true
  case neg =>
    have hp2 : picOk W H xs 255 = false := by simpa using hp
    have e0 : picOk W H xs 1 = false := by
      cases h : picOk W H xs 1 with
      | false => rfl
      | true => exact absurd (picOk_le h) hp
    rw [e0]
    clear hp e0
    go_enter Try.func47, Try.ntmps47
    go_wp2_with fail
    refine (impl_IsPicture _ _ _ _ _ xs _ HN.out (by exact HA.out.alloc _) hl).mono ?_
    rintro e w1 ⟨rfl, hb⟩
    have HB1 := Lib.hid ((Joins.below_alloc1 _ _).trans (hb.mono (by simp)))
    have KP1 := Lib.hid ((Blk.new w 25 #[.int .i64 W, .int .i64 H, .slice ad n cap]).below' hb)
    obtain ⟨l1, c0, c1, c2⟩ := KP1.out.c3
    clear hb
    rw [hp2]
    go_wp2_with fail
    go_ret
    exact ⟨rfl, HB1.out⟩
  case pos =>
    obtain ⟨hs, hq, hi⟩ := picOk_bd HN.out hp
    obtain ⟨b1, b2, b3, b4, b5, b6⟩ := sizeOk_bd hs
    have HQ := Lib.hid hq
    have HI := Lib.hid hi
    have HS := Lib.hid hs
    have hn1 : 1 ≤ n := by omega
    have hn2 : n ≤ 1024 := by omega
    clear hq hi hs
    have e0 : picOk W H xs 1 = within xs 1 := picOk_in HN.out HS.out HQ.out
    rw [e0]
    clear e0
    go_enter Try.func47, Try.ntmps47
    go_wp2_with fail
    refine (impl_IsPicture _ _ _ _ _ xs _ HN.out (by exact HA.out.alloc _) hl).mono ?_
    rintro e w1 ⟨rfl, hb⟩
    have HB1 := Lib.hid ((Joins.below_alloc1 _ _).trans (hb.mono (by simp)))
    have KP1 := Lib.hid ((Blk.new w 25 #[.int .i64 W, .int .i64 H, .slice ad n cap]).below' hb)
    obtain ⟨l1, c0, c1, c2⟩ := KP1.out.c3
    clear hb
    rw [hp]
    go_wp2_with fail
    refine (impl_allWithin _ _ _ xs _ _ HN.out (by exact HA.out.below HB1.out) hl).mono ?_
    rintro e w' ⟨rfl, rfl⟩
    go_wp2_with fail
    go_ret
    exact ⟨rfl, HB1.out⟩

theorem negF_no {W H : Int} {xs : List Int} (h : ¬ picOk W H xs 255 = true) : negF W H xs = noPic := by unfold negF; rw [if_neg h]

theorem negF_1 {W H : Int} {xs : List Int} (h : picOk W H xs 1 = true) : negF W H xs = ⟨W, H, xs.map (fun v => 1 - v)⟩ := by unfold negF; rw [if_pos (picOk_le h)]; simp [h]

theorem negF_255 {W H : Int} {xs : List Int} (h : picOk W H xs 255 = true) (h2 : ¬ picOk W H xs 1 = true) : negF W H xs = ⟨W, H, xs.map (fun v => 255 - v)⟩ := by unfold negF; rw [if_pos h]; simp [h2]

set_option maxHeartbeats 800000 in
theorem spec_NegativePicture (W H : Int) (ad : Option Addr) (n cap : Nat) (xs : List Int) (w : World) (hn : xs.length = n) (ha : Rd w ad xs) (hl : n ≤ 9223372036854775807) :
    Calls Try.prog 26 #[.agg #[.int .i64 W, .int .i64 H, .slice ad n cap]] w (PicOut w (negF W H xs)) := by
  have HN := Lib.hid hn
  have HA := Lib.hid ha
  clear hn ha
  by_cases hp : picOk W H xs 255 = true
  case neg =>
    have hp2 : picOk W H xs 255 = false := by simpa using hp
    rw [negF_no hp]
    clear hp
    go_enter Try.func26, Try.ntmps26
    go_wp2_with fail
    refine (spec_IsPicture _ _ _ _ _ xs _ HN.out (by exact (HA.out.alloc _).alloc _) hl).mono ?_
    rintro e w1 ⟨rfl, hb⟩
    have HB1 := Lib.hid ((Joins.below_alloc2 _ _ _).trans (hb.mono (by simp; omega)))
    have KP1 := Lib.hid (((Blk.new w 25 #[.int .i64 W, .int .i64 H, .slice ad n cap]).alloc _).below' hb)
    have KR1 : Hid (Blk w1 (w.heap.size + 1) 25 #[.int .i64 0, .int .i64 0, .slice none 0 0]) := by
      have h := (Blk.new (w.alloc (.cells #[.int .i64 W, .int .i64 H, .slice ad n cap] 25)) 25 #[.int .i64 0, .int .i64 0, .slice none 0 0]).below' hb
      exact Lib.hid (by simpa using h)
    obtain ⟨l1, c0, c1, c2⟩ := KP1.out.c3
    obtain ⟨m1, d0, d1, d2⟩ := KR1.out.c3
    obtain ⟨f0, f1, f2⟩ := KR1.out.f3
    clear hb
    rw [hp2]
    go_wp2_with fail
    exact bodyPost_ret (v := .agg #[.int .i64 0, .int .i64 0, .slice none 0 0]) (by simp [results, Try.results26, go_sem, d0, d1, d2]) rfl ⟨none, 0, 0, rfl, OwnA.none _ _, by omega,
      ((HB1.out.setCell (by first | (simp; done) | (simp; omega)) _).setCell (by first | (simp; done) | (simp; omega)) _).setCell (by first | (simp; done) | (simp; omega)) _⟩
  case pos =>
    by_cases hp1 : picOk W H xs 1 = true
    · rw [negF_1 hp1]
      obtain ⟨hs, hq, hi⟩ := picOk_bd HN.out hp
      obtain ⟨b1, b2, b3, b4, b5, b6⟩ := sizeOk_bd hs
      have HQ := Lib.hid hq
      have HI := Lib.hid hi
      have HS := Lib.hid hs
      have hn1 : 1 ≤ n := by omega
      have hn2 : n ≤ 1024 := by omega
      clear hq hi hs
      go_enter Try.func26, Try.ntmps26
      go_wp2_with fail
      refine (spec_IsPicture _ _ _ _ _ xs _ HN.out (by exact (HA.out.alloc _).alloc _) hl).mono ?_
      rintro e w1 ⟨rfl, hb⟩
      have HB1 := Lib.hid ((Joins.below_alloc2 _ _ _).trans (hb.mono (by simp; omega)))
      have KP1 := Lib.hid (((Blk.new w 25 #[.int .i64 W, .int .i64 H, .slice ad n cap]).alloc _).below' hb)
      have KR1 : Hid (Blk w1 (w.heap.size + 1) 25 #[.int .i64 0, .int .i64 0, .slice none 0 0]) := by
        have h := (Blk.new (w.alloc (.cells #[.int .i64 W, .int .i64 H, .slice ad n cap] 25)) 25 #[.int .i64 0, .int .i64 0, .slice none 0 0]).below' hb
        exact Lib.hid (by simpa using h)
      obtain ⟨l1, c0, c1, c2⟩ := KP1.out.c3
      obtain ⟨m1, d0, d1, d2⟩ := KR1.out.c3
      obtain ⟨f0, f1, f2⟩ := KR1.out.f3
      clear hb
      rw [hp]
      go_wp2_with fail
      refine (spec_IsPlate _ _ _ _ _ xs _ HN.out (by exact HA.out.below HB1.out) hl).mono ?_
      rintro e w1 ⟨rfl, hb⟩
      rw [hp1]
      have HB1 := Lib.hid (HB1.out.trans (hb.mono HB1.out.size))
      have KP1 := Lib.hid (KP1.out.below' hb)
      have KR1 := Lib.hid (KR1.out.below' hb)
      clear hb c0 c1 c2 d0 d1 d2 f0 f1 f2
      obtain ⟨l1, c0, c1, c2⟩ := KP1.out.c3
      obtain ⟨m1, d0, d1, d2⟩ := KR1.out.c3
      obtain ⟨f0, f1, f2⟩ := KR1.out.f3
      go_wp2_with fail
      refine (spec_l1Empty W H n _ HS.out HQ.out).mono ?_
      rintro e w2 ⟨g, rfl, hg, ho, hb⟩
      have HB2 := Lib.hid (HB1.out.trans (hb.mono HB1.out.size))
      have KP2 := Lib.hid (KP1.out.below' hb)
      have KR2 := Lib.hid (KR1.out.below' hb)
      have HO := Lib.hid ho
      have HG : Hid (w1.heap.size ≤ g) := Lib.hid hg
      clear hb hg ho c0 c1 c2 d0 d1 d2 f0 f1 f2
      obtain ⟨l2, c0, c1, c2⟩ := KP2.out.c3
      go_wp2_with fail
      go_loopw [21] (fun i wr => ∃ k : Nat, k ≤ n ∧ i = .int .i64 k ∧ Own wr g n n (filled (xs.map (fun v => 1 - v)) (List.replicate n 0) k) ∧ (w2.alloc (.cells #[.int .i64 W, .int .i64 H, .slice (some ⟨g, 0, none⟩) n n] 25)).grownBy wr (some g)) (fun i _ => n - (intOf i).toNat)
      case atStart => exact ⟨0, Nat.zero_le _, rfl, by rw [filled_zero]; exact HO.out.alloc _, grown_refl _ _⟩
      case round =>
        obtain ⟨k, hk, rfl, ho, hg⟩ := hrel
        have HBr := Lib.hid ((HB2.out.alloc HB2.out.size _).grown hg (by have := HB2.out.size; simp; omega) (by intro k hk; cases hk; have := HG.out; omega))
        have KO := Lib.hid ((Blk.new w2 25 #[.int .i64 W, .int .i64 H, .slice (some ⟨g, 0, none⟩) n n]).grown hg (by have := HO.out.lt; simp; omega))
        obtain ⟨l0, o0, o1, o2⟩ := KO.out.c3
        have KP := Lib.hid ((KP2.out.alloc _).grown hg (by have := HG.out; have := KP1.out.lt; simp; omega))
        obtain ⟨l9, p0, p1, p2⟩ := KP.out.c3
        by_cases hlt : k < n
        · obtain ⟨ba, oa, hae, hal, hac⟩ := (HA.out.below HBr.out).at (by have := HN.out; omega)
          have h1 := hac (k) (by have := HN.out; omega)
          subst hae
          clear hac
          obtain ⟨v1, v2⟩ := within_at HI.out k (by have := HN.out; omega)
          have g2 : wr.cell? ⟨g, k, none⟩ = some (.int .i64 ((filled (xs.map (fun v => 1 - v)) (List.replicate n 0) k).getD k 0)) := ho.cell hlt
          have g3 : wr.frozen? ⟨g, k, none⟩ = false := ho.frozen k
          have hs := ho.set k (1 - xs[k]?.getD 0)
          rw [filled_succ (xs.map (fun v => 1 - v)) _ k _ (by have := HN.out; simp; omega) (by simp; omega) (map_get _ _ _ (by have := HN.out; omega))] at hs
          have HSt := Lib.hid hs
          clear hs ho
          go_wp2_with fail
          go_roundw
          case rel => exact ⟨k + 1, by omega, by go_num, by simpa using HSt.out, grown_set hg _⟩
          case measure => simp [intOf]; omega
        · obtain rfl : n = k := by omega
          have KR := Lib.hid ((KR2.out.alloc _).grown hg (by have := HG.out; have := KR2.out.lt; simp; omega))
          obtain ⟨r0, r1, r2, r3⟩ := KR.out.c3
          obtain ⟨q0, q1, q2⟩ := KR.out.f3
          rw [filled_at (xs.map (fun v => 1 - v)) _ n (by simp [HN.out]) (by simp)] at ho
          have HO3 := Lib.hid ho
          clear ho
          go_wp2_with fail
          exact bodyPost_ret (v := .agg #[.int .i64 W, .int .i64 H, .slice (some ⟨g, 0, none⟩) n n]) (by simp [results, Try.results26, go_sem, r1, r2, r3]) rfl
            ⟨_, _, _, rfl, OwnA.mk (((HO3.out.other (by have := HG.out; simp; omega) _).other (by have := HG.out; simp; omega) _).other (by have := HG.out; simp; omega) _) (by have := HG.out; omega), by omega,
              ((HBr.out.setCell (by first | (simp; done) | (simp; omega)) _).setCell (by first | (simp; done) | (simp; omega)) _).setCell (by first | (simp; done) | (simp; omega)) _⟩
    · rw [negF_255 hp hp1]
      have hp0 : picOk W H xs 1 = false := by simpa using hp1
      clear hp1
      obtain ⟨hs, hq, hi⟩ := picOk_bd HN.out hp
      obtain ⟨b1, b2, b3, b4, b5, b6⟩ := sizeOk_bd hs
      have HQ := Lib.hid hq
      have HI := Lib.hid hi
      have HS := Lib.hid hs
      have hn1 : 1 ≤ n := by omega
      have hn2 : n ≤ 1024 := by omega
      clear hq hi hs
      go_enter Try.func26, Try.ntmps26
      go_wp2_with fail
      refine (spec_IsPicture _ _ _ _ _ xs _ HN.out (by exact (HA.out.alloc _).alloc _) hl).mono ?_
      rintro e w1 ⟨rfl, hb⟩
      have HB1 := Lib.hid ((Joins.below_alloc2 _ _ _).trans (hb.mono (by simp; omega)))
      have KP1 := Lib.hid (((Blk.new w 25 #[.int .i64 W, .int .i64 H, .slice ad n cap]).alloc _).below' hb)
      have KR1 : Hid (Blk w1 (w.heap.size + 1) 25 #[.int .i64 0, .int .i64 0, .slice none 0 0]) := by
        have h := (Blk.new (w.alloc (.cells #[.int .i64 W, .int .i64 H, .slice ad n cap] 25)) 25 #[.int .i64 0, .int .i64 0, .slice none 0 0]).below' hb
        exact Lib.hid (by simpa using h)
      obtain ⟨l1, c0, c1, c2⟩ := KP1.out.c3
      obtain ⟨m1, d0, d1, d2⟩ := KR1.out.c3
      obtain ⟨f0, f1, f2⟩ := KR1.out.f3
      clear hb
      rw [hp]
      go_wp2_with fail
      refine (spec_IsPlate _ _ _ _ _ xs _ HN.out (by exact HA.out.below HB1.out) hl).mono ?_
      rintro e w1 ⟨rfl, hb⟩
      rw [hp0]
      have HB1 := Lib.hid (HB1.out.trans (hb.mono HB1.out.size))
      have KP1 := Lib.hid (KP1.out.below' hb)
      have KR1 := Lib.hid (KR1.out.below' hb)
      clear hb c0 c1 c2 d0 d1 d2 f0 f1 f2
      obtain ⟨l1, c0, c1, c2⟩ := KP1.out.c3
      obtain ⟨m1, d0, d1, d2⟩ := KR1.out.c3
      obtain ⟨f0, f1, f2⟩ := KR1.out.f3
      go_wp2_with fail
      refine (spec_l1Empty W H n _ HS.out HQ.out).mono ?_
      rintro e w2 ⟨g, rfl, hg, ho, hb⟩
      have HB2 := Lib.hid (HB1.out.trans (hb.mono HB1.out.size))
      have KP2 := Lib.hid (KP1.out.below' hb)
      have KR2 := Lib.hid (KR1.out.below' hb)
      have HO := Lib.hid ho
      have HG : Hid (w1.heap.size ≤ g) := Lib.hid hg
      clear hb hg ho c0 c1 c2 d0 d1 d2 f0 f1 f2
      obtain ⟨l2, c0, c1, c2⟩ := KP2.out.c3
      go_wp2_with fail
      go_loopw [21] (fun i wr => ∃ k : Nat, k ≤ n ∧ i = .int .i64 k ∧ Own wr g n n (filled (xs.map (fun v => 255 - v)) (List.replicate n 0) k) ∧ (w2.alloc (.cells #[.int .i64 W, .int .i64 H, .slice (some ⟨g, 0, none⟩) n n] 25)).grownBy wr (some g)) (fun i _ => n - (intOf i).toNat)
      case atStart => exact ⟨0, Nat.zero_le _, rfl, by rw [filled_zero]; exact HO.out.alloc _, grown_refl _ _⟩
      case round =>
        obtain ⟨k, hk, rfl, ho, hg⟩ := hrel
        have HBr := Lib.hid ((HB2.out.alloc HB2.out.size _).grown hg (by have := HB2.out.size; simp; omega) (by intro k hk; cases hk; have := HG.out; omega))
        have KO := Lib.hid ((Blk.new w2 25 #[.int .i64 W, .int .i64 H, .slice (some ⟨g, 0, none⟩) n n]).grown hg (by have := HO.out.lt; simp; omega))
        obtain ⟨l0, o0, o1, o2⟩ := KO.out.c3
        have KP := Lib.hid ((KP2.out.alloc _).grown hg (by have := HG.out; have := KP1.out.lt; simp; omega))
        obtain ⟨l9, p0, p1, p2⟩ := KP.out.c3
        by_cases hlt : k < n
        · obtain ⟨ba, oa, hae, hal, hac⟩ := (HA.out.below HBr.out).at (by have := HN.out; omega)
          have h1 := hac (k) (by have := HN.out; omega)
          subst hae
          clear hac
          obtain ⟨v1, v2⟩ := within_at HI.out k (by have := HN.out; omega)
          have g2 : wr.cell? ⟨g, k, none⟩ = some (.int .i64 ((filled (xs.map (fun v => 255 - v)) (List.replicate n 0) k).getD k 0)) := ho.cell hlt
          have g3 : wr.frozen? ⟨g, k, none⟩ = false := ho.frozen k
          have hs := ho.set k (255 - xs[k]?.getD 0)
          rw [filled_succ (xs.map (fun v => 255 - v)) _ k _ (by have := HN.out; simp; omega) (by simp; omega) (map_get _ _ _ (by have := HN.out; omega))] at hs
          have HSt := Lib.hid hs
          clear hs ho
          go_wp2_with fail
          go_roundw
          case rel => exact ⟨k + 1, by omega, by go_num, by simpa using HSt.out, grown_set hg _⟩
          case measure => simp [intOf]; omega
        · obtain rfl : n = k := by omega
          have KR := Lib.hid ((KR2.out.alloc _).grown hg (by have := HG.out; have := KR2.out.lt; simp; omega))
          obtain ⟨r0, r1, r2, r3⟩ := KR.out.c3
          obtain ⟨q0, q1, q2⟩ := KR.out.f3
          rw [filled_at (xs.map (fun v => 255 - v)) _ n (by simp [HN.out]) (by simp)] at ho
          have HO3 := Lib.hid ho
          clear ho
          go_wp2_with fail
          exact bodyPost_ret (v := .agg #[.int .i64 W, .int .i64 H, .slice (some ⟨g, 0, none⟩) n n]) (by simp [results, Try.results26, go_sem, r1, r2, r3]) rfl
            ⟨_, _, _, rfl, OwnA.mk (((HO3.out.other (by have := HG.out; simp; omega) _).other (by have := HG.out; simp; omega) _).other (by have := HG.out; simp; omega) _) (by have := HG.out; omega), by omega,
              ((HBr.out.setCell (by first | (simp; done) | (simp; omega)) _).setCell (by first | (simp; done) | (simp; omega)) _).setCell (by first | (simp; done) | (simp; omega)) _⟩

end Go.Proofs.Ytkjhpfgcmbigfaa
