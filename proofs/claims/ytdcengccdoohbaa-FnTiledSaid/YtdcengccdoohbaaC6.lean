/-
  Contracts of TilePicture (program and model).
-/
import Derived.Test.YtdcengccdoohbaaC5
namespace Go.Proofs.Ytdcengccdoohbaa
open Go.RowKit
set_option linter.unusedVariables false
set_option linter.unusedSimpArgs false

def tileG (W H : Int) (xs : List Int) (tw : Int) (i : Nat) : Int := xs.getD ((i : Int) / tw % H * W + (i : Int) % tw % W).toNat 0

theorem tileF_no {W H : Int} {xs : List Int} {tw th : Int} (h : ¬ (picOk W H xs 255 = true ∧ sizeOk tw th = true)) : tileF W H xs tw th = (noPic, false) := by unfold tileF; rw [if_neg h]

theorem tileF_yes {W H : Int} {xs : List Int} {tw th : Int} {m : Nat} (h : picOk W H xs 255 = true) (h2 : sizeOk tw th = true) (hm : (m : Int) = tw * th) : tileF W H xs tw th = (⟨tw, th, gen m (tileG W H xs tw)⟩, true) := by
  unfold tileF; rw [if_pos ⟨h, h2⟩, ← hm]; rfl

set_option maxHeartbeats 800000 in
theorem impl_TilePicture (W H : Int) (ad : Option Addr) (n cap : Nat) (xs : List Int) (tw th : Int) (w : World) (hn : xs.length = n) (ha : Rd w ad xs) (hl : n ≤ 9223372036854775807) :
    Calls Try.prog 16 #[.agg #[.int .i64 W, .int .i64 H, .slice ad n cap], .int .i64 tw, .int .i64 th] w (PicOut2 w (tileF W H xs tw th)) := by
  have HN := Lib.hid hn
  have HA := Lib.hid ha
  clear hn ha
  by_cases hp : picOk W H xs 255 = true
  case neg =>
    have hp2 : picOk W H xs 255 = false := by simpa using hp
    rw [tileF_no (fun h => hp h.1)]
    clear hp
    go_enter Try.func16, Try.ntmps16
    go_wp2_with fail
    refine (impl_IsPicture _ _ _ _ _ xs _ HN.out (by exact (HA.out.alloc _).alloc _) hl).mono ?_
    rintro e w1 ⟨rfl, hb⟩
    have HB1 := Lib.hid ((Joins.below_alloc2 _ _ _).trans (hb.mono (by simp; omega)))
    have KP1 := Lib.hid (((Blk.new w 25 #[.int .i64 W, .int .i64 H, .slice ad n cap]).alloc _).below' hb)
    have KR1 : Hid (Blk w1 (w.heap.size + 1) 25 #[.int .i64 0, .int .i64 0, .slice none 0 0]) := by
      have h := (Blk.new (w.alloc (.cells #[.int .i64 W, .int .i64 H, .slice ad n cap] 25)) 25 #[.int .i64 0, .int .i64 0, .slice none 0 0]).below' hb
      exact Lib.hid (by simpa using h)
    obtain ⟨l1, c0, c1, c2⟩ := KP1.out.c3
    obtain ⟨m1, d0, d1, d2⟩ := KR1.out.c3
    obtain ⟨f0, f1, f2⟩ := KR1.out.f3
    clear hb
    rw [hp2]
    go_wp2_with fail
    exact bodyPost_ret (v := .tuple #[.agg #[.int .i64 0, .int .i64 0, .slice none 0 0], .bool false]) (by simp [results, Try.results16, go_sem, d0, d1, d2]) rfl ⟨none, 0, 0, rfl, OwnA.none _ _, by omega,
      ((HB1.out.setCell (by first | (simp; done) | (simp; omega)) _).setCell (by first | (simp; done) | (simp; omega)) _).setCell (by first | (simp; done) | (simp; omega)) _⟩
  case pos =>
    by_cases ht : sizeOk tw th = true
    case neg =>
      rw [tileF_no (fun h => ht h.2)]
      go_enter Try.func16, Try.ntmps16
      go_wp2_with fail
      refine (impl_IsPicture _ _ _ _ _ xs _ HN.out (by exact (HA.out.alloc _).alloc _) hl).mono ?_
      rintro e w1 ⟨rfl, hb⟩
      have HB1 := Lib.hid ((Joins.below_alloc2 _ _ _).trans (hb.mono (by simp; omega)))
      have KP1 := Lib.hid (((Blk.new w 25 #[.int .i64 W, .int .i64 H, .slice ad n cap]).alloc _).below' hb)
      have KR1 : Hid (Blk w1 (w.heap.size + 1) 25 #[.int .i64 0, .int .i64 0, .slice none 0 0]) := by
        have h := (Blk.new (w.alloc (.cells #[.int .i64 W, .int .i64 H, .slice ad n cap] 25)) 25 #[.int .i64 0, .int .i64 0, .slice none 0 0]).below' hb
        exact Lib.hid (by simpa using h)
      obtain ⟨l1, c0, c1, c2⟩ := KP1.out.c3
      obtain ⟨m1, d0, d1, d2⟩ := KR1.out.c3
      obtain ⟨f0, f1, f2⟩ := KR1.out.f3
      clear hb
      rw [hp]
      go_wp2_with fail
      refine (impl_isSize_no _ _ _ ht).mono ?_
      rintro e w2 ⟨rfl, rfl⟩
      go_wp2_with fail
      exact bodyPost_ret (v := .tuple #[.agg #[.int .i64 0, .int .i64 0, .slice none 0 0], .bool false]) (by simp [results, Try.results16, go_sem, d0, d1, d2]) rfl ⟨none, 0, 0, rfl, OwnA.none _ _, by omega,
        ((HB1.out.setCell (by first | (simp; done) | (simp; omega)) _).setCell (by first | (simp; done) | (simp; omega)) _).setCell (by first | (simp; done) | (simp; omega)) _⟩
    case pos =>
      obtain ⟨hs, hq, hi⟩ := picOk_bd HN.out hp
      obtain ⟨b1, b2, b3, b4, b5, b6⟩ := sizeOk_bd hs
      have HQ := Lib.hid hq
      have HI := Lib.hid hi
      have HS := Lib.hid hs
      have hn1 : 1 ≤ n := by omega
      have hn2 : n ≤ 1024 := by omega
      clear hq hi hs
      obtain ⟨m, hm⟩ : ∃ m : Nat, (m : Int) = tw * th := ⟨_, (toNat_mul ht).1⟩
      obtain ⟨t1, t2, t3, t4, t5, t6⟩ := sizeOk_bd ht
      have hm1 : 1 ≤ m := by omega
      have hm2 : m ≤ 1024 := by omega
      rw [tileF_yes hp ht hm]
      have HM := Lib.hid hm
      clear hm
      go_enter Try.func16, Try.ntmps16
      go_wp2_with fail
      refine (impl_IsPicture _ _ _ _ _ xs _ HN.out (by exact (HA.out.alloc _).alloc _) hl).mono ?_
      rintro e w1 ⟨rfl, hb⟩
      have HB1 := Lib.hid ((Joins.below_alloc2 _ _ _).trans (hb.mono (by simp; omega)))
      have KP1 := Lib.hid (((Blk.new w 25 #[.int .i64 W, .int .i64 H, .slice ad n cap]).alloc _).below' hb)
      have KR1 : Hid (Blk w1 (w.heap.size + 1) 25 #[.int .i64 0, .int .i64 0, .slice none 0 0]) := by
        have h := (Blk.new (w.alloc (.cells #[.int .i64 W, .int .i64 H, .slice ad n cap] 25)) 25 #[.int .i64 0, .int .i64 0, .slice none 0 0]).below' hb
        exact Lib.hid (by simpa using h)
      obtain ⟨l1, c0, c1, c2⟩ := KP1.out.c3
      obtain ⟨m1, d0, d1, d2⟩ := KR1.out.c3
      obtain ⟨f0, f1, f2⟩ := KR1.out.f3
      clear hb
      rw [hp]
      go_wp2_with fail
      refine (impl_isSize_yes _ _ _ ht).mono ?_
      rintro e w1b ⟨rfl, rfl⟩
      go_wp2_with fail
      refine (impl_blank tw th m _ ht HM.out).mono ?_
      rintro e w2 ⟨g, rfl, hg, ho, hb⟩
      have HB2 := Lib.hid (HB1.out.trans (hb.mono HB1.out.size))
      have KP2 := Lib.hid (KP1.out.below' hb)
      have KR2 := Lib.hid (KR1.out.below' hb)
      have HO := Lib.hid ho
      have HG : Hid (w1.heap.size ≤ g) := Lib.hid hg
      clear hb hg ho c0 c1 c2 d0 d1 d2 f0 f1 f2
      obtain ⟨l2, c0, c1, c2⟩ := KP2.out.c3
      go_wp2_with fail
      go_loopw [28] (fun i wr => ∃ k : Nat, k ≤ m ∧ i = .int .i64 k ∧ Own wr g m m (filled (gen m (tileG W H xs tw)) (List.replicate m 0) k) ∧ (w2.alloc (.cells #[.int .i64 tw, .int .i64 th, .slice (some ⟨g, 0, none⟩) m m] 25)).grownBy wr (some g)) (fun i _ => m - (intOf i).toNat)
      case atStart => exact ⟨0, Nat.zero_le _, rfl, by rw [filled_zero]; exact HO.out.alloc _, grown_refl _ _⟩
      case round =>
        obtain ⟨k, hk, rfl, ho, hg⟩ := hrel
        have HBr := Lib.hid ((HB2.out.alloc HB2.out.size _).grown hg (by have := HB2.out.size; simp; omega) (by intro k hk; cases hk; have := HG.out; omega))
        have KO := Lib.hid ((Blk.new w2 25 #[.int .i64 tw, .int .i64 th, .slice (some ⟨g, 0, none⟩) m m]).grown hg (by have := HO.out.lt; simp; omega))
        obtain ⟨l0, o0, o1, o2⟩ := KO.out.c3
        have KP := Lib.hid ((KP2.out.alloc _).grown hg (by have := HG.out; have := KP1.out.lt; simp; omega))
        obtain ⟨l9, p0, p1, p2⟩ := KP.out.c3
        by_cases hlt : k < m
        · have e1 : 0 ≤ (k : Int) % tw := Int.emod_nonneg _ (by omega)
          have e3 : 0 ≤ (k : Int) / tw := Int.ediv_nonneg (by omega) (by omega)
          have e4 : (k : Int) / tw ≤ k := Int.ediv_le_self _ (by omega)
          have e2 : (k : Int) % tw < tw := Int.emod_lt_of_pos _ (by omega)
          have e5 : 0 ≤ (k : Int) % tw % W := Int.emod_nonneg _ (by omega)
          have e6 : (k : Int) % tw % W < W := Int.emod_lt_of_pos _ (by omega)
          have e7 : 0 ≤ (k : Int) / tw % H := Int.emod_nonneg _ (by omega)
          have e8 : (k : Int) / tw % H < H := Int.emod_lt_of_pos _ (by omega)
          obtain ⟨T0, T1⟩ := row_bd e5 e6 e7 e8
          have T3 : (k : Int) / tw % H * W + (k : Int) % tw % W < n := by have := HQ.out; omega
          clear T1
          obtain ⟨ba, oa, hae, hal, hac⟩ := (HA.out.below HBr.out).at (by have := HN.out; omega)
          have h1 := hac (((k : Int) / tw % H * W + (k : Int) % tw % W).toNat) (by have := HN.out; omega)
          subst hae
          clear hac
          have g2 : wr.cell? ⟨g, k, none⟩ = some (.int .i64 ((filled (gen m (tileG W H xs tw)) (List.replicate m 0) k).getD k 0)) := ho.cell hlt
          have g3 : wr.frozen? ⟨g, k, none⟩ = false := ho.frozen k
          have hs := ho.set k (xs.getD ((k : Int) / tw % H * W + (k : Int) % tw % W).toNat 0)
          rw [filled_succ (gen m (tileG W H xs tw)) _ k _ (by rw [gen_len]; exact hlt) (by simp; omega) (by rw [gen_get _ _ _ hlt]; rfl)] at hs
          have HSt := Lib.hid hs
          clear hs ho
          (go_wp2_with fail; go_quiet (fail); go_wp2_with fail; go_region)
          go_wp2_with fail
          go_roundw
          case rel => exact ⟨k + 1, by omega, by go_num, (by first | exact HSt.out.drewN 1 | exact HSt.out.drewN _ | (have h := HSt.out; simp at h; exact h.drewN 1)), (by first | exact grown_drewN (grown_set hg _) 1 | exact grown_drewN (grown_set hg _) _)⟩
          case measure => simp [intOf]; omega
        · obtain rfl : m = k := by omega
          have KR := Lib.hid ((KR2.out.alloc _).grown hg (by have := HG.out; have := KR2.out.lt; simp; omega))
          obtain ⟨r0, r1, r2, r3⟩ := KR.out.c3
          obtain ⟨q0, q1, q2⟩ := KR.out.f3
          rw [filled_at (gen m (tileG W H xs tw)) _ m (by rw [gen_len]) (by simp)] at ho
          have HO3 := Lib.hid ho
          clear ho
          go_wp2_with fail
          exact bodyPost_ret (v := .tuple #[.agg #[.int .i64 tw, .int .i64 th, .slice (some ⟨g, 0, none⟩) m m], .bool true]) (by simp [results, Try.results16, go_sem, r1, r2, r3]) rfl
            ⟨_, _, _, rfl, OwnA.mk (((HO3.out.other (by have := HG.out; simp; omega) _).other (by have := HG.out; simp; omega) _).other (by have := HG.out; simp; omega) _) (by have := HG.out; omega), by omega,
              ((HBr.out.setCell (by first | (simp; done) | (simp; omega)) _).setCell (by first | (simp; done) | (simp; omega)) _).setCell (by first | (simp; done) | (simp; omega)) _⟩

end Go.Proofs.Ytdcengccdoohbaa
