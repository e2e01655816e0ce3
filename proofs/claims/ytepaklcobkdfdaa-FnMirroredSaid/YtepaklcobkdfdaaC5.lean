/-
  Contracts of TurnPicture (program and model) and of MirrorPicture (model).
-/
import Derived.Test.YtepaklcobkdfdaaC4
namespace Go.Proofs.Ytepaklcobkdfdaa
open Go.RowKit
set_option linter.unusedVariables false
set_option linter.unusedSimpArgs false

theorem turnF_no {W H : Int} {xs : List Int} (h : ¬ picOk W H xs 255 = true) : turnF W H xs = noPic := by unfold turnF; rw [if_neg h]

theorem turnF_yes {W H : Int} {xs : List Int} {n : Nat} (h : picOk W H xs 255 = true) (hn : (n : Int) = W * H) : turnF W H xs = ⟨H, W, gen n (fun j => xs.getD (turnI W H (j : Nat)).toNat 0)⟩ := by
  unfold turnF; rw [if_pos h, ← hn]; rfl

theorem mirF_no {W H : Int} {xs : List Int} (h : ¬ picOk W H xs 255 = true) : mirrorF W H xs = noPic := by unfold mirrorF; rw [if_neg h]

theorem mirF_yes {W H : Int} {xs : List Int} {n : Nat} (h : picOk W H xs 255 = true) (hn : (n : Int) = W * H) : mirrorF W H xs = ⟨W, H, gen n (fun j => xs.getD (mirT W (j : Nat)).toNat 0)⟩ := by
  unfold mirrorF; rw [if_pos h, ← hn]; rfl

set_option maxHeartbeats 800000 in
theorem spec_MirrorPicture (W H : Int) (ad : Option Addr) (n cap : Nat) (xs : List Int) (w : World) (hn : xs.length = n) (ha : Rd w ad xs) (hl : n ≤ 9223372036854775807) :
    Calls Try.prog 29 #[.agg #[.int .i64 W, .int .i64 H, .slice ad n cap]] w (PicOut w (mirrorF W H xs)) := by
  have HN := Lib.hid hn
  have HA := Lib.hid ha
  clear hn ha
  by_cases hp : picOk W H xs 255 = true
  case neg =>
    have hp2 : picOk W H xs 255 = false := by simpa using hp
    rw [mirF_no hp]
    clear hp
    go_enter Try.func29, Try.ntmps29
    go_wp2_with fail
    refine (spec_IsPicture _ _ _ _ _ xs _ HN.out (by exact (HA.out.alloc _).alloc _) hl).mono ?_
    rintro e w1 ⟨rfl, hb⟩
    have HB1 := Lib.hid ((Joins.below_alloc2 _ _ _).trans (hb.mono (by simp; omega)))
    have KP1 := Lib.hid (((Blk.new w 34 #[.int .i64 W, .int .i64 H, .slice ad n cap]).alloc _).below' hb)
    have KR1 : Hid (Blk w1 (w.heap.size + 1) 34 #[.int .i64 0, .int .i64 0, .slice none 0 0]) := by
      have h := (Blk.new (w.alloc (.cells #[.int .i64 W, .int .i64 H, .slice ad n cap] 34)) 34 #[.int .i64 0, .int .i64 0, .slice none 0 0]).below' hb
      exact Lib.hid (by simpa using h)
    obtain ⟨l1, c0, c1, c2⟩ := KP1.out.c3
    obtain ⟨m1, d0, d1, d2⟩ := KR1.out.c3
    obtain ⟨f0, f1, f2⟩ := KR1.out.f3
    clear hb
    rw [hp2]
    go_wp2_with fail
    exact bodyPost_ret (v := .agg #[.int .i64 0, .int .i64 0, .slice none 0 0]) (by simp [results, Try.results29, go_sem, d0, d1, d2]) rfl ⟨none, 0, 0, rfl, OwnA.none _ _, by omega,
      ((HB1.out.setCell (by first | (simp; done) | (simp; omega)) _).setCell (by first | (simp; done) | (simp; omega)) _).setCell (by first | (simp; done) | (simp; omega)) _⟩
  case pos =>
    obtain ⟨hs, hq, hi⟩ := picOk_bd HN.out hp
    obtain ⟨b1, b2, b3, b4, b5, b6⟩ := sizeOk_bd hs
    have HQ := Lib.hid hq
    have HI := Lib.hid hi
    have HS := Lib.hid hs
    have hn1 : 1 ≤ n := by omega
    have hn2 : n ≤ 1024 := by omega
    clear hq hi hs
    rw [mirF_yes hp HQ.out]
    have HT := Lib.hid (mir_perm b1 HQ.out)
    go_enter Try.func29, Try.ntmps29
    go_wp2_with fail
    refine (spec_IsPicture _ _ _ _ _ xs _ HN.out (by exact (HA.out.alloc _).alloc _) hl).mono ?_
    rintro e w1 ⟨rfl, hb⟩
    have HB1 := Lib.hid ((Joins.below_alloc2 _ _ _).trans (hb.mono (by simp; omega)))
    have KP1 := Lib.hid (((Blk.new w 34 #[.int .i64 W, .int .i64 H, .slice ad n cap]).alloc _).below' hb)
    have KR1 : Hid (Blk w1 (w.heap.size + 1) 34 #[.int .i64 0, .int .i64 0, .slice none 0 0]) := by
      have h := (Blk.new (w.alloc (.cells #[.int .i64 W, .int .i64 H, .slice ad n cap] 34)) 34 #[.int .i64 0, .int .i64 0, .slice none 0 0]).below' hb
      exact Lib.hid (by simpa using h)
    obtain ⟨l1, c0, c1, c2⟩ := KP1.out.c3
    obtain ⟨m1, d0, d1, d2⟩ := KR1.out.c3
    obtain ⟨f0, f1, f2⟩ := KR1.out.f3
    clear hb
    rw [hp]
    go_wp2_with fail
    refine (spec_l1Empty W H n _ HS.out HQ.out).mono ?_
    rintro e w2 ⟨g, rfl, hg, ho, hb⟩
    have HB2 := Lib.hid (HB1.out.trans (hb.mono HB1.out.size))
    have KP2 := Lib.hid (KP1.out.below' hb)
    have KR2 := Lib.hid (KR1.out.below' hb)
    have HO := Lib.hid ho
    have HG : Hid (w1.heap.size ≤ g) := Lib.hid hg
    clear hb hg ho c0 c1 c2 d0 d1 d2 f0 f1 f2
    obtain ⟨l2, c0, c1, c2⟩ := KP2.out.c3
    go_wp2_with fail
    go_loopw [18] (fun i wr => ∃ (k : Nat) (ys : List Int), k ≤ n ∧ i = .int .i64 k ∧ Own wr g n n ys ∧ Hid (∀ i, i < k → ys.getD ((fun (i : Nat) => (mirT W (i : Nat)).toNat) i) 0 = xs.getD i 0) ∧ (w2.alloc (.cells #[.int .i64 W, .int .i64 H, .slice (some ⟨g, 0, none⟩) n n] 34)).grownBy wr (some g)) (fun i _ => n - (intOf i).toNat)
    case atStart => exact ⟨0, _, Nat.zero_le _, rfl, HO.out.alloc _, (fun i hi => absurd hi (by omega)), grown_refl _ _⟩
    case round =>
      obtain ⟨k, ys, hk, rfl, ho, HR, hg⟩ := hrel
      have HBr := Lib.hid ((HB2.out.alloc HB2.out.size _).grown hg (by have := HB2.out.size; simp; omega) (by intro k hk; cases hk; have := HG.out; omega))
      have KO := Lib.hid ((Blk.new w2 34 #[.int .i64 W, .int .i64 H, .slice (some ⟨g, 0, none⟩) n n]).grown hg (by have := HO.out.lt; simp; omega))
      obtain ⟨l0, o0, o1, o2⟩ := KO.out.c3
      have KP := Lib.hid ((KP2.out.alloc _).grown hg (by have := HG.out; have := KP1.out.lt; simp; omega))
      obtain ⟨l9, p0, p1, p2⟩ := KP.out.c3
      by_cases hlt : k < n
      · obtain ⟨ba, oa, hae, hal, hac⟩ := (HA.out.below HBr.out).at (by have := HN.out; omega)
        have h1 := hac (k) (by have := HN.out; omega)
        subst hae
        clear hac
        have e1 : 0 ≤ (k : Int) % W := Int.emod_nonneg _ (by omega)
        have e2 : (k : Int) % W < W := Int.emod_lt_of_pos _ (by omega)
        have e3 : 0 ≤ (k : Int) / W := Int.ediv_nonneg (by omega) (by omega)
        have e4 : (k : Int) / W ≤ k := Int.ediv_le_self _ (by omega)
        obtain ⟨T0, T1, _, T2, T4⟩ := mir_self (W := W) (H := H) (i := (k : Int)) b1 (by omega) (by have := HQ.out; omega)
        unfold mirT at T0 T1
        have T3 : (k : Int) / W * W + W - 1 - (k : Int) % W < n := by have := HQ.out; omega
        clear T1
        have g2 : wr.cell? ⟨g, ((k : Int) / W * W + W - 1 - (k : Int) % W).toNat, none⟩ = some (.int .i64 (ys.getD ((k : Int) / W * W + W - 1 - (k : Int) % W).toNat 0)) := ho.cell (by omega)
        have g3 : wr.frozen? ⟨g, ((k : Int) / W * W + W - 1 - (k : Int) % W).toNat, none⟩ = false := ho.frozen _
        have hs := ho.set ((k : Int) / W * W + W - 1 - (k : Int) % W).toNat (xs[k]?.getD 0)
        have HSt := Lib.hid hs
        have HL := Lib.hid ho.len
        clear hs ho
        go_wp2_with fail
        go_region
        go_wp2_with fail
        go_roundw
        case rel => exact ⟨k + 1, _, by omega, by go_num, (by first | exact HSt.out | exact HSt.out.drewN 1 | exact HSt.out.drewN _), scat_step (t := (fun (i : Nat) => (mirT W (i : Nat)).toNat)) (inj_of (inv := (fun (j : Nat) => (mirT W (j : Nat)).toNat)) (HT.out) hlt) HR.out (by rw [HL.out]; exact ((HT.out) k hlt).1) (by simp [List.getD]), (by first | exact grown_set hg _ | exact grown_drewN (grown_set hg _) _)⟩
        case measure => simp [intOf]; omega
      · obtain rfl : n = k := by omega
        have KR := Lib.hid ((KR2.out.alloc _).grown hg (by have := HG.out; have := KR2.out.lt; simp; omega))
        obtain ⟨r0, r1, r2, r3⟩ := KR.out.c3
        obtain ⟨q0, q1, q2⟩ := KR.out.f3
        rw [scat_done ((fun (j : Nat) => (mirT W (j : Nat)).toNat)) ho.len (HT.out) HR.out] at ho
        have HO3 := Lib.hid ho
        clear ho
        go_wp2_with fail
        exact bodyPost_ret (v := .agg #[.int .i64 W, .int .i64 H, .slice (some ⟨g, 0, none⟩) n n]) (by simp [results, Try.results29, go_sem, r1, r2, r3]) rfl
          ⟨_, _, _, rfl, OwnA.mk (((HO3.out.other (by have := HG.out; simp; omega) _).other (by have := HG.out; simp; omega) _).other (by have := HG.out; simp; omega) _) (by have := HG.out; omega), by omega,
            ((HBr.out.setCell (by first | (simp; done) | (simp; omega)) _).setCell (by first | (simp; done) | (simp; omega)) _).setCell (by first | (simp; done) | (simp; omega)) _⟩

end Go.Proofs.Ytepaklcobkdfdaa
