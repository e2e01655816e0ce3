/-
  Contracts of AddPictures (program and model).
-/
import Derived.Test.YtgepjfdnlnemjaaC10
namespace Go.Proofs.Ytgepjfdnlnemjaa
open Go.RowKit
set_option linter.unusedVariables false
set_option linter.unusedSimpArgs false

def addG (xs ys : List Int) (i : Nat) : Int := min (xs.getD i 0 + ys.getD i 0) 255

theorem addF_no {W H W' H' : Int} {xs ys : List Int} (h : ¬ pairOk W H xs W' H' ys = true) : addF W H xs W' H' ys = (noPic, false) := by unfold addF; exact if_neg h

theorem addF_yes {W H W' H' : Int} {xs ys : List Int} {n n' : Nat} (hn : xs.length = n) (hn' : ys.length = n') (h : pairOk W H xs W' H' ys = true) : addF W H xs W' H' ys = (⟨W, H, gen n (addG xs ys)⟩, true) := by
  unfold addF; refine (if_pos h).trans ?_; rw [hn', ← pairOk_len hn hn' h]; rfl

set_option maxHeartbeats 1600000 in
theorem impl_AddPictures (W H : Int) (ad : Option Addr) (n cap : Nat) (xs : List Int) (W' H' : Int) (ad' : Option Addr) (n' cap' : Nat) (ys : List Int) (w : World)
    (hn : xs.length = n) (ha : Rd w ad xs) (hl : n ≤ 9223372036854775807) (hn' : ys.length = n') (ha' : Rd w ad' ys) (hl' : n' ≤ 9223372036854775807) :
    Calls Try.prog 36 #[.agg #[.int .i64 W, .int .i64 H, .slice ad n cap], .agg #[.int .i64 W', .int .i64 H', .slice ad' n' cap']] w (PicOut2 w (addF W H xs W' H' ys)) := by
  have HN := Lib.hid hn
  have HA := Lib.hid ha
  have HN' := Lib.hid hn'
  have HA' := Lib.hid ha'
  clear hn ha hn' ha'
  by_cases hp : pairOk W H xs W' H' ys = true
  case neg =>
    have hp0 : pairOk W H xs W' H' ys = false := by simpa using hp
    rw [addF_no hp]
    clear hp
    go_enter Try.func36, Try.ntmps36
    go_wp2_with fail
    refine (impl_arePictures _ _ _ _ _ xs _ _ _ _ _ ys _ HN.out (by exact ((HA.out.alloc _).alloc _).alloc _) hl HN'.out (by exact ((HA'.out.alloc _).alloc _).alloc _) hl').mono ?_
    rintro e w1 ⟨rfl, hb⟩
    have HB1 := Lib.hid (bTrans (bAlloc (bAlloc (bAlloc (Below.refl _ _) _) _) _) hb)
    have KP1 := Lib.hid ((((Blk.new' (g := w.heap.size) 30 #[.int .i64 W, .int .i64 H, .slice ad n cap] (by first | rfl | simp)).alloc _).alloc _).below' hb)
    have KQ1 : Hid (Blk w1 (w.heap.size + 1) 30 #[.int .i64 W', .int .i64 H', .slice ad' n' cap']) := Lib.hid (((Blk.new' (g := w.heap.size + 1) 30 #[.int .i64 W', .int .i64 H', .slice ad' n' cap'] (by simp)).alloc _).below' hb)
    have KR1 : Hid (Blk w1 (w.heap.size + 1 + 1) 30 #[.int .i64 0, .int .i64 0, .slice none 0 0]) := Lib.hid ((Blk.new' (g := w.heap.size + 1 + 1) 30 #[.int .i64 0, .int .i64 0, .slice none 0 0] (by simp)).below' hb)
    obtain ⟨l1, c0, c1, c2⟩ := KP1.out.c3
    obtain ⟨n1, g0, g1, g2⟩ := KQ1.out.c3
    obtain ⟨m1, d0, d1, d2⟩ := KR1.out.c3
    obtain ⟨f0, f1, f2⟩ := KR1.out.f3
    clear hb
    rw [hp0]
    go_wp2_with fail
    exact bodyPost_ret (v := .tuple #[.agg #[.int .i64 0, .int .i64 0, .slice none 0 0], .bool false]) (by simp [results, Try.results36, go_sem, d0, d1, d2]) rfl ⟨none, 0, 0, rfl, OwnA.none _ _, by omega,
      ((HB1.out.setCell (by first | (simp; done) | (simp; omega)) _).setCell (by first | (simp; done) | (simp; omega)) _).setCell (by first | (simp; done) | (simp; omega)) _⟩
  case pos =>
    rw [addF_yes HN.out HN'.out hp]
    have HNN := Lib.hid (pairOk_len HN.out HN'.out hp)
    have hpp := (pairOk_bd hp).1
    have hqq := (pairOk_bd hp).2.1
    obtain ⟨hs, hq, hi⟩ := picOk_bd HN.out hpp
    have HI' := Lib.hid (picOk_bd HN'.out hqq).2.2
    obtain ⟨b1, b2, b3, b4, b5, b6⟩ := sizeOk_bd hs
    have HQ := Lib.hid hq
    have HI := Lib.hid hi
    have HS := Lib.hid hs
    have hn1 : 1 ≤ n := by omega
    have hn2 : n ≤ 1024 := by omega
    clear hq hi hs hpp hqq
    go_enter Try.func36, Try.ntmps36
    go_wp2_with fail
    refine (impl_arePictures _ _ _ _ _ xs _ _ _ _ _ ys _ HN.out (by exact ((HA.out.alloc _).alloc _).alloc _) hl HN'.out (by exact ((HA'.out.alloc _).alloc _).alloc _) hl').mono ?_
    rintro e w1 ⟨rfl, hb⟩
    have HB1 := Lib.hid (bTrans (bAlloc (bAlloc (bAlloc (Below.refl _ _) _) _) _) hb)
    have KP1 := Lib.hid ((((Blk.new' (g := w.heap.size) 30 #[.int .i64 W, .int .i64 H, .slice ad n cap] (by first | rfl | simp)).alloc _).alloc _).below' hb)
    have KQ1 : Hid (Blk w1 (w.heap.size + 1) 30 #[.int .i64 W', .int .i64 H', .slice ad' n' cap']) := Lib.hid (((Blk.new' (g := w.heap.size + 1) 30 #[.int .i64 W', .int .i64 H', .slice ad' n' cap'] (by simp)).alloc _).below' hb)
    have KR1 : Hid (Blk w1 (w.heap.size + 1 + 1) 30 #[.int .i64 0, .int .i64 0, .slice none 0 0]) := Lib.hid ((Blk.new' (g := w.heap.size + 1 + 1) 30 #[.int .i64 0, .int .i64 0, .slice none 0 0] (by simp)).below' hb)
    obtain ⟨l1, c0, c1, c2⟩ := KP1.out.c3
    obtain ⟨n1, g0, g1, g2⟩ := KQ1.out.c3
    obtain ⟨m1, d0, d1, d2⟩ := KR1.out.c3
    obtain ⟨f0, f1, f2⟩ := KR1.out.f3
    clear hb
    rw [hp]
    go_wp2_with fail
    refine (impl_blank W H n _ HS.out HQ.out).mono ?_
    rintro e w2 ⟨g, rfl, hg, ho, hb⟩
    have HB2 := Lib.hid (HB1.out.trans (hb.mono HB1.out.size))
    have KP2 := Lib.hid (KP1.out.below' hb)
    have KQ2 := Lib.hid (KQ1.out.below' hb)
    have KR2 := Lib.hid (KR1.out.below' hb)
    have HO := Lib.hid ho
    have HG : Hid (w1.heap.size ≤ g) := Lib.hid hg
    clear hb hg ho c0 c1 c2 d0 d1 d2 f0 f1 f2 g0 g1 g2
    obtain ⟨l2, c0, c1, c2⟩ := KP2.out.c3
    obtain ⟨n2, e0, e1, e2⟩ := KQ2.out.c3
    go_wp2_with fail
    go_loopw [22] (fun i wr => ∃ k : Nat, k ≤ n ∧ i = .int .i64 k ∧ Own wr g n n (filled (gen n (addG xs ys)) (List.replicate n 0) k) ∧ (w2.alloc (.cells #[.int .i64 W, .int .i64 H, .slice (some ⟨g, 0, none⟩) n n] 30)).grownBy wr (some g)) (fun i _ => n - (intOf i).toNat)
    case atStart => exact ⟨0, Nat.zero_le _, rfl, by rw [filled_zero]; exact HO.out.alloc _, grown_refl _ _⟩
    case round =>
      obtain ⟨k, hk, rfl, ho, hg⟩ := hrel
      have HBr := Lib.hid ((HB2.out.alloc HB2.out.size _).grown hg (by have := HB2.out.size; simp; omega) (by intro k hk; cases hk; have := HG.out; omega))
      have KO := Lib.hid ((Blk.new w2 30 #[.int .i64 W, .int .i64 H, .slice (some ⟨g, 0, none⟩) n n]).grown hg (by have := HO.out.lt; simp; omega))
      obtain ⟨l0, o0, o1, o2⟩ := KO.out.c3
      have KP := Lib.hid ((KP2.out.alloc _).grown hg (by have := HG.out; have := KP1.out.lt; simp; omega))
      obtain ⟨l9, p0, p1, p2⟩ := KP.out.c3
      have KQ := Lib.hid ((KQ2.out.alloc _).grown hg (by have := HG.out; have := KQ1.out.lt; simp; omega))
      obtain ⟨n9, s0, s1, s2⟩ := KQ.out.c3
      by_cases hlt : k < n
      · obtain ⟨ba, oa, hae, hal, hac⟩ := (HA.out.below HBr.out).at (by have := HN.out; omega)
        have h1 := hac k (by have := HN.out; omega)
        obtain ⟨bb, ob, hbe, hbl, hbc⟩ := (HA'.out.below HBr.out).at (by have := HN'.out; have := HNN.out; omega)
        have h2 := hbc k (by have := HN'.out; have := HNN.out; omega)
        subst hae hbe
        clear hac hbc
        have hkn : k < n' := by have := HNN.out; omega
        obtain ⟨v1, v2⟩ := within_at HI.out k (by have := HN.out; omega)
        obtain ⟨v3, v4⟩ := within_at HI'.out k (by have := HN'.out; omega)
        by_cases hv : 255 < xs[k]?.getD 0 + ys[k]?.getD 0
        · have g2 : wr.cell? ⟨g, k, none⟩ = some (.int .i64 ((filled (gen n (addG xs ys)) (List.replicate n 0) k).getD k 0)) := ho.cell hlt
          have g3 : wr.frozen? ⟨g, k, none⟩ = false := ho.frozen k
          have hs := ho.set k (255)
          rw [filled_succ (gen n (addG xs ys)) _ k _ (by rw [gen_len]; exact hlt) (by simp; omega) (by rw [gen_get _ _ _ hlt]; simp only [addG, List.getD]; omega)] at hs
          have HSt := Lib.hid hs
          clear hs ho
          go_wp2_with fail
          go_region
          go_wp2_with fail
          go_roundw
          case rel => exact ⟨k + 1, by omega, by go_num, (by first | exact HSt.out.drewN 1 | exact HSt.out.drewN _ | (have h := HSt.out; simp at h; exact h.drewN 1)), (by first | exact grown_drewN (grown_set hg _) 1 | exact grown_drewN (grown_set hg _) _)⟩
          case measure => simp [intOf]; omega
        · have g2 : wr.cell? ⟨g, k, none⟩ = some (.int .i64 ((filled (gen n (addG xs ys)) (List.replicate n 0) k).getD k 0)) := ho.cell hlt
          have g3 : wr.frozen? ⟨g, k, none⟩ = false := ho.frozen k
          have hs := ho.set k (xs[k]?.getD 0 + ys[k]?.getD 0)
          rw [filled_succ (gen n (addG xs ys)) _ k _ (by rw [gen_len]; exact hlt) (by simp; omega) (by rw [gen_get _ _ _ hlt]; simp only [addG, List.getD]; omega)] at hs
          have HSt := Lib.hid hs
          clear hs ho
          go_wp2_with fail
          go_region
          go_wp2_with fail
          go_roundw
          case rel => exact ⟨k + 1, by omega, by go_num, (by first | exact HSt.out.drewN 1 | exact HSt.out.drewN _ | (have h := HSt.out; simp at h; exact h.drewN 1)), (by first | exact grown_drewN (grown_set hg _) 1 | exact grown_drewN (grown_set hg _) _)⟩
          case measure => simp [intOf]; omega
      · have hkn2 : n' ≤ n := by have := HNN.out; omega
        obtain rfl : n = k := by omega
        have KR := Lib.hid ((KR2.out.alloc _).grown hg (by have := HG.out; have := KR2.out.lt; simp; omega))
        obtain ⟨r0, r1, r2, r3⟩ := KR.out.c3
        obtain ⟨q0, q1, q2⟩ := KR.out.f3
        rw [filled_at (gen n (addG xs ys)) _ n (by rw [gen_len]) (by simp)] at ho
        have HO3 := Lib.hid ho
        clear ho
        go_wp2_with fail
        exact bodyPost_ret (v := .tuple #[.agg #[.int .i64 W, .int .i64 H, .slice (some ⟨g, 0, none⟩) n n], .bool true]) (by simp [results, Try.results36, go_sem, r1, r2, r3]) rfl
          ⟨_, _, _, rfl, OwnA.mk (((HO3.out.other (by have := HG.out; simp; omega) _).other (by have := HG.out; simp; omega) _).other (by have := HG.out; simp; omega) _) (by have := HG.out; omega), by omega,
            ((HBr.out.setCell (by first | (simp; done) | (simp; omega)) _).setCell (by first | (simp; done) | (simp; omega)) _).setCell (by first | (simp; done) | (simp; omega)) _⟩

set_option maxHeartbeats 1600000 in
theorem spec_AddPictures (W H : Int) (ad : Option Addr) (n cap : Nat) (xs : List Int) (W' H' : Int) (ad' : Option Addr) (n' cap' : Nat) (ys : List Int) (w : World)
    (hn : xs.length = n) (ha : Rd w ad xs) (hl : n ≤ 9223372036854775807) (hn' : ys.length = n') (ha' : Rd w ad' ys) (hl' : n' ≤ 9223372036854775807) :
    Calls Try.prog 21 #[.agg #[.int .i64 W, .int .i64 H, .slice ad n cap], .agg #[.int .i64 W', .int .i64 H', .slice ad' n' cap']] w (PicOut2 w (addF W H xs W' H' ys)) := by
  have HN := Lib.hid hn
  have HA := Lib.hid ha
  have HN' := Lib.hid hn'
  have HA' := Lib.hid ha'
  clear hn ha hn' ha'
  by_cases hp : pairOk W H xs W' H' ys = true
  case neg =>
    have hp0 : pairOk W H xs W' H' ys = false := by simpa using hp
    rw [addF_no hp]
    clear hp
    go_enter Try.func21, Try.ntmps21
    go_wp2_with fail
    refine (spec_l1Pair _ _ _ _ _ xs _ _ _ _ _ ys _ HN.out (by exact ((HA.out.alloc _).alloc _).alloc _) hl HN'.out (by exact ((HA'.out.alloc _).alloc _).alloc _) hl').mono ?_
    rintro e w1 ⟨rfl, hb⟩
    have HB1 := Lib.hid (bTrans (bAlloc (bAlloc (bAlloc (Below.refl _ _) _) _) _) hb)
    have KP1 := Lib.hid ((((Blk.new' (g := w.heap.size) 30 #[.int .i64 W, .int .i64 H, .slice ad n cap] (by first | rfl | simp)).alloc _).alloc _).below' hb)
    have KQ1 : Hid (Blk w1 (w.heap.size + 1) 30 #[.int .i64 W', .int .i64 H', .slice ad' n' cap']) := Lib.hid (((Blk.new' (g := w.heap.size + 1) 30 #[.int .i64 W', .int .i64 H', .slice ad' n' cap'] (by simp)).alloc _).below' hb)
    have KR1 : Hid (Blk w1 (w.heap.size + 1 + 1) 30 #[.int .i64 0, .int .i64 0, .slice none 0 0]) := Lib.hid ((Blk.new' (g := w.heap.size + 1 + 1) 30 #[.int .i64 0, .int .i64 0, .slice none 0 0] (by simp)).below' hb)
    obtain ⟨l1, c0, c1, c2⟩ := KP1.out.c3
    obtain ⟨n1, g0, g1, g2⟩ := KQ1.out.c3
    obtain ⟨m1, d0, d1, d2⟩ := KR1.out.c3
    obtain ⟨f0, f1, f2⟩ := KR1.out.f3
    clear hb
    rw [hp0]
    go_wp2_with fail
    exact bodyPost_ret (v := .tuple #[.agg #[.int .i64 0, .int .i64 0, .slice none 0 0], .bool false]) (by simp [results, Try.results21, go_sem, d0, d1, d2]) rfl ⟨none, 0, 0, rfl, OwnA.none _ _, by omega,
      ((HB1.out.setCell (by first | (simp; done) | (simp; omega)) _).setCell (by first | (simp; done) | (simp; omega)) _).setCell (by first | (simp; done) | (simp; omega)) _⟩
  case pos =>
    rw [addF_yes HN.out HN'.out hp]
    have HNN := Lib.hid (pairOk_len HN.out HN'.out hp)
    have hpp := (pairOk_bd hp).1
    have hqq := (pairOk_bd hp).2.1
    obtain ⟨hs, hq, hi⟩ := picOk_bd HN.out hpp
    have HI' := Lib.hid (picOk_bd HN'.out hqq).2.2
    obtain ⟨b1, b2, b3, b4, b5, b6⟩ := sizeOk_bd hs
    have HQ := Lib.hid hq
    have HI := Lib.hid hi
    have HS := Lib.hid hs
    have hn1 : 1 ≤ n := by omega
    have hn2 : n ≤ 1024 := by omega
    clear hq hi hs hpp hqq
    go_enter Try.func21, Try.ntmps21
    go_wp2_with fail
    refine (spec_l1Pair _ _ _ _ _ xs _ _ _ _ _ ys _ HN.out (by exact ((HA.out.alloc _).alloc _).alloc _) hl HN'.out (by exact ((HA'.out.alloc _).alloc _).alloc _) hl').mono ?_
    rintro e w1 ⟨rfl, hb⟩
    have HB1 := Lib.hid (bTrans (bAlloc (bAlloc (bAlloc (Below.refl _ _) _) _) _) hb)
    have KP1 := Lib.hid ((((Blk.new' (g := w.heap.size) 30 #[.int .i64 W, .int .i64 H, .slice ad n cap] (by first | rfl | simp)).alloc _).alloc _).below' hb)
    have KQ1 : Hid (Blk w1 (w.heap.size + 1) 30 #[.int .i64 W', .int .i64 H', .slice ad' n' cap']) := Lib.hid (((Blk.new' (g := w.heap.size + 1) 30 #[.int .i64 W', .int .i64 H', .slice ad' n' cap'] (by simp)).alloc _).below' hb)
    have KR1 : Hid (Blk w1 (w.heap.size + 1 + 1) 30 #[.int .i64 0, .int .i64 0, .slice none 0 0]) := Lib.hid ((Blk.new' (g := w.heap.size + 1 + 1) 30 #[.int .i64 0, .int .i64 0, .slice none 0 0] (by simp)).below' hb)
    obtain ⟨l1, c0, c1, c2⟩ := KP1.out.c3
    obtain ⟨n1, g0, g1, g2⟩ := KQ1.out.c3
    obtain ⟨m1, d0, d1, d2⟩ := KR1.out.c3
    obtain ⟨f0, f1, f2⟩ := KR1.out.f3
    clear hb
    rw [hp]
    go_wp2_with fail
    refine (spec_l1Empty W H n _ HS.out HQ.out).mono ?_
    rintro e w2 ⟨g, rfl, hg, ho, hb⟩
    have HB2 := Lib.hid (HB1.out.trans (hb.mono HB1.out.size))
    have KP2 := Lib.hid (KP1.out.below' hb)
    have KQ2 := Lib.hid (KQ1.out.below' hb)
    have KR2 := Lib.hid (KR1.out.below' hb)
    have HO := Lib.hid ho
    have HG : Hid (w1.heap.size ≤ g) := Lib.hid hg
    clear hb hg ho c0 c1 c2 d0 d1 d2 f0 f1 f2 g0 g1 g2
    obtain ⟨l2, c0, c1, c2⟩ := KP2.out.c3
    obtain ⟨n2, e0, e1, e2⟩ := KQ2.out.c3
    go_wp2_with fail
    go_loopw [22] (fun i wr => ∃ k : Nat, k ≤ n ∧ i = .int .i64 k ∧ Own wr g n n (filled (gen n (addG xs ys)) (List.replicate n 0) k) ∧ (w2.alloc (.cells #[.int .i64 W, .int .i64 H, .slice (some ⟨g, 0, none⟩) n n] 30)).grownBy wr (some g)) (fun i _ => n - (intOf i).toNat)
    case atStart => exact ⟨0, Nat.zero_le _, rfl, by rw [filled_zero]; exact HO.out.alloc _, grown_refl _ _⟩
    case round =>
      obtain ⟨k, hk, rfl, ho, hg⟩ := hrel
      have HBr := Lib.hid ((HB2.out.alloc HB2.out.size _).grown hg (by have := HB2.out.size; simp; omega) (by intro k hk; cases hk; have := HG.out; omega))
      have KO := Lib.hid ((Blk.new w2 30 #[.int .i64 W, .int .i64 H, .slice (some ⟨g, 0, none⟩) n n]).grown hg (by have := HO.out.lt; simp; omega))
      obtain ⟨l0, o0, o1, o2⟩ := KO.out.c3
      have KP := Lib.hid ((KP2.out.alloc _).grown hg (by have := HG.out; have := KP1.out.lt; simp; omega))
      obtain ⟨l9, p0, p1, p2⟩ := KP.out.c3
      have KQ := Lib.hid ((KQ2.out.alloc _).grown hg (by have := HG.out; have := KQ1.out.lt; simp; omega))
      obtain ⟨n9, s0, s1, s2⟩ := KQ.out.c3
      by_cases hlt : k < n
      · obtain ⟨ba, oa, hae, hal, hac⟩ := (HA.out.below HBr.out).at (by have := HN.out; omega)
        have h1 := hac k (by have := HN.out; omega)
        obtain ⟨bb, ob, hbe, hbl, hbc⟩ := (HA'.out.below HBr.out).at (by have := HN'.out; have := HNN.out; omega)
        have h2 := hbc k (by have := HN'.out; have := HNN.out; omega)
        subst hae hbe
        clear hac hbc
        have hkn : k < n' := by have := HNN.out; omega
        obtain ⟨v1, v2⟩ := within_at HI.out k (by have := HN.out; omega)
        obtain ⟨v3, v4⟩ := within_at HI'.out k (by have := HN'.out; omega)
        by_cases hv : ys[k]?.getD 0 + xs[k]?.getD 0 < 255
        · have g2 : wr.cell? ⟨g, k, none⟩ = some (.int .i64 ((filled (gen n (addG xs ys)) (List.replicate n 0) k).getD k 0)) := ho.cell hlt
          have g3 : wr.frozen? ⟨g, k, none⟩ = false := ho.frozen k
          have hs := ho.set k (ys[k]?.getD 0 + xs[k]?.getD 0)
          rw [filled_succ (gen n (addG xs ys)) _ k _ (by rw [gen_len]; exact hlt) (by simp; omega) (by rw [gen_get _ _ _ hlt]; simp only [addG, List.getD]; omega)] at hs
          have HSt := Lib.hid hs
          clear hs ho
          go_wp2_with fail
          go_region
          go_wp2_with fail
          go_roundw
          case rel => exact ⟨k + 1, by omega, by go_num, (by first | exact HSt.out.drewN 1 | exact HSt.out.drewN _ | (have h := HSt.out; simp at h; exact h.drewN 1)), (by first | exact grown_drewN (grown_set hg _) 1 | exact grown_drewN (grown_set hg _) _)⟩
          case measure => simp [intOf]; omega
        · have g2 : wr.cell? ⟨g, k, none⟩ = some (.int .i64 ((filled (gen n (addG xs ys)) (List.replicate n 0) k).getD k 0)) := ho.cell hlt
          have g3 : wr.frozen? ⟨g, k, none⟩ = false := ho.frozen k
          have hs := ho.set k (255)
          rw [filled_succ (gen n (addG xs ys)) _ k _ (by rw [gen_len]; exact hlt) (by simp; omega) (by rw [gen_get _ _ _ hlt]; simp only [addG, List.getD]; omega)] at hs
          have HSt := Lib.hid hs
          clear hs ho
          go_wp2_with fail
          go_region
          go_wp2_with fail
          go_roundw
          case rel => exact ⟨k + 1, by omega, by go_num, (by first | exact HSt.out.drewN 1 | exact HSt.out.drewN _ | (have h := HSt.out; simp at h; exact h.drewN 1)), (by first | exact grown_drewN (grown_set hg _) 1 | exact grown_drewN (grown_set hg _) _)⟩
          case measure => simp [intOf]; omega
      · have hkn2 : n' ≤ n := by have := HNN.out; omega
        obtain rfl : n = k := by omega
        have KR := Lib.hid ((KR2.out.alloc _).grown hg (by have := HG.out; have := KR2.out.lt; simp; omega))
        obtain ⟨r0, r1, r2, r3⟩ := KR.out.c3
        obtain ⟨q0, q1, q2⟩ := KR.out.f3
        rw [filled_at (gen n (addG xs ys)) _ n (by rw [gen_len]) (by simp)] at ho
        have HO3 := Lib.hid ho
        clear ho
        go_wp2_with fail
        exact bodyPost_ret (v := .tuple #[.agg #[.int .i64 W, .int .i64 H, .slice (some ⟨g, 0, none⟩) n n], .bool true]) (by simp [results, Try.results21, go_sem, r1, r2, r3]) rfl
          ⟨_, _, _, rfl, OwnA.mk (((HO3.out.other (by have := HG.out; simp; omega) _).other (by have := HG.out; simp; omega) _).other (by have := HG.out; simp; omega) _) (by have := HG.out; omega), by omega,
            ((HBr.out.setCell (by first | (simp; done) | (simp; omega)) _).setCell (by first | (simp; done) | (simp; omega)) _).setCell (by first | (simp; done) | (simp; omega)) _⟩

end Go.Proofs.Ytgepjfdnlnemjaa
