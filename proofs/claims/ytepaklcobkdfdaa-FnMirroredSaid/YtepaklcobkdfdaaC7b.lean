/-
  Contract of MirrorPicture (program).
-/
import Derived.Test.YtepaklcobkdfdaaC7
namespace Go.Proofs.Ytepaklcobkdfdaa
open Go.RowKit
set_option linter.unusedVariables false
set_option linter.unusedSimpArgs false

/-- xs, its first s numbers mirrored within rows of W. -/
def mirK (xs : List Int) (W : Int) (s : Nat) : List Int := gen xs.length (fun p => if p < s then xs.getD (mirT W (p : Nat)).toNat 0 else xs.getD p 0)
theorem mirK_len (xs : List Int) (W : Int) (s : Nat) : (mirK xs W s).length = xs.length := gen_len _ _
theorem mirK_zero (xs : List Int) (W : Int) : mirK xs W 0 = xs := by
  symm
  refine gen_ext _ _ _ rfl (fun p hp => ?_)
  rw [if_neg (by omega)]
theorem mirK_all (xs : List Int) (W : Int) (s : Nat) (h : s = xs.length) : mirK xs W s = gen xs.length (fun j => xs.getD (mirT W (j : Nat)).toNat 0) := by
  refine gen_ext _ _ _ (mirK_len _ _ _) (fun p hp => ?_)
  unfold mirK
  rw [gen_get _ _ _ hp, if_pos (by omega)]
theorem mirT_row {W : Int} {s p : Nat} {w r : Nat} (hw : (w : Int) = W) (h1 : 1 ≤ w) (hs : s = r * w) (h2 : s ≤ p) (h3 : p < s + w) : (mirT W (p : Nat)).toNat = 2 * s + w - 1 - p := by
  have e : (p : Int) = (r : Int) * W + ((p - s : Nat) : Int) := by
    rw [← hw, ← Int.natCast_mul, ← hs]; omega
  obtain ⟨j1, j2⟩ := join_dm (q := (r : Int)) (r := ((p - s : Nat) : Int)) (m := W) (by omega) (by omega)
  unfold mirT
  rw [e, j1, j2, ← hw, ← Int.natCast_mul, ← hs]
  omega
theorem mirK_step (xs : List Int) (W : Int) (s w r k : Nat) (hw : (w : Int) = W) (h1 : 1 ≤ w) (hs : s = r * w) (h2 : s + w ≤ xs.length) (h3 : w ≤ 2 * k + 1) (h4 : k ≤ w) :
    revK (mirK xs W s) s w k = mirK xs W (s + w) := by
  have hl := mirK_len xs W s
  refine gen_ext _ _ _ (by rw [revK_len, hl]) (fun p hp => ?_)
  rw [revK_get _ _ _ _ _ (by omega)]
  unfold mirK
  by_cases c : s ≤ p ∧ p < s + w
  · rw [if_pos (by omega : p < s + w), mirT_row hw h1 hs c.1 c.2]
    by_cases d : p < s + k ∨ s + w < p + 1 + k
    · rw [if_pos ⟨c.1, c.2, d⟩, gen_get _ _ _ (by omega), if_neg (by omega)]
    · rw [if_neg (fun h => d h.2.2), gen_get _ _ _ hp, if_neg (by omega)]
      congr 1; omega
  · rw [if_neg (fun h => c ⟨h.1, h.2.1⟩), gen_get _ _ _ hp]
    by_cases d : p < s
    · rw [if_pos d, if_pos (by omega)]
    · rw [if_neg d, if_neg (by omega)]

set_option maxHeartbeats 1600000 in
theorem impl_MirrorPicture (W H : Int) (ad : Option Addr) (n cap : Nat) (xs : List Int) (w : World) (hn : xs.length = n) (ha : Rd w ad xs) (hl : n ≤ 9223372036854775807) :
    Calls Try.prog 30 #[.agg #[.int .i64 W, .int .i64 H, .slice ad n cap]] w (PicOut w (mirrorF W H xs)) := by
  have HN := Lib.hid hn
  have HA := Lib.hid ha
  clear hn ha
  by_cases hp : picOk W H xs 255 = true
  case neg =>
    have hp2 : picOk W H xs 255 = false := by simpa using hp
    rw [mirF_no hp]
    clear hp
    go_enter Try.func30, Try.ntmps30
    go_wp2_with fail
    refine (impl_IsPicture _ _ _ _ _ xs _ HN.out (by exact (HA.out.alloc _).alloc _) hl).mono ?_
    rintro e w1 ⟨rfl, hb⟩
    have HB1 := Lib.hid ((Joins.below_alloc2 _ _ _).trans (hb.mono (by simp; omega)))
    have KP1 := Lib.hid (((Blk.new w 34 #[.int .i64 W, .int .i64 H, .slice ad n cap]).alloc _).below' hb)
    have KR1 : Hid (Blk w1 (w.heap.size + 1) 34 #[.int .i64 0, .int .i64 0, .slice none 0 0]) := by
      have h := (Blk.new (w.alloc (.cells #[.int .i64 W, .int .i64 H, .slice ad n cap] 34)) 34 #[.int .i64 0, .int .i64 0, .slice none 0 0]).below' hb
      exact Lib.hid (by simpa using h)
    obtain ⟨l1, c0, c1, c2⟩ := KP1.out.c3
    obtain ⟨m1, d0, d1, d2⟩ := KR1.out.c3
    obtain ⟨f0, f1, f2⟩ := KR1.out.f3
    clear hb
    rw [hp2]
    go_wp2_with fail
    exact bodyPost_ret (v := .agg #[.int .i64 0, .int .i64 0, .slice none 0 0]) (by simp [results, Try.results30, go_sem, d0, d1, d2]) rfl ⟨none, 0, 0, rfl, OwnA.none _ _, by omega,
      ((HB1.out.setCell (by first | (simp; done) | (simp; omega)) _).setCell (by first | (simp; done) | (simp; omega)) _).setCell (by first | (simp; done) | (simp; omega)) _⟩
  case pos =>
    obtain ⟨hs, hq, hi⟩ := picOk_bd HN.out hp
    obtain ⟨b1, b2, b3, b4, b5, b6⟩ := sizeOk_bd hs
    have HQ := Lib.hid hq
    have HI := Lib.hid hi
    have HS := Lib.hid hs
    have hn1 : 1 ≤ n := by omega
    have hn2 : n ≤ 1024 := by omega
    clear hq hi hs
    rw [mirF_yes hp HQ.out]
    obtain ⟨wn, hwn⟩ : ∃ wn : Nat, (wn : Int) = W := ⟨W.toNat, by omega⟩
    have HWN := Lib.hid hwn
    have hw1 : 1 ≤ wn := by omega
    clear hwn
    go_enter Try.func30, Try.ntmps30
    go_wp2_with fail
    refine (impl_IsPicture _ _ _ _ _ xs _ HN.out (by exact (HA.out.alloc _).alloc _) hl).mono ?_
    rintro e w1 ⟨rfl, hb⟩
    have HB1 := Lib.hid ((Joins.below_alloc2 _ _ _).trans (hb.mono (by simp; omega)))
    have KP1 := Lib.hid (((Blk.new w 34 #[.int .i64 W, .int .i64 H, .slice ad n cap]).alloc _).below' hb)
    have KR1 : Hid (Blk w1 (w.heap.size + 1) 34 #[.int .i64 0, .int .i64 0, .slice none 0 0]) := by
      have h := (Blk.new (w.alloc (.cells #[.int .i64 W, .int .i64 H, .slice ad n cap] 34)) 34 #[.int .i64 0, .int .i64 0, .slice none 0 0]).below' hb
      exact Lib.hid (by simpa using h)
    obtain ⟨l1, c0, c1, c2⟩ := KP1.out.c3
    obtain ⟨m1, d0, d1, d2⟩ := KR1.out.c3
    obtain ⟨f0, f1, f2⟩ := KR1.out.f3
    clear hb
    rw [hp]
    go_wp2_with fail
    refine (impl_copyPicture W H ad n cap xs _ HN.out (by exact HA.out.below HB1.out) HS.out HQ.out).mono ?_
    rintro e w2 ⟨g, rfl, hg, ho, hb⟩
    have HB2 := Lib.hid (HB1.out.trans (hb.mono HB1.out.size))
    have KP2 := Lib.hid (KP1.out.below' hb)
    have KR2 := Lib.hid (KR1.out.below' hb)
    have HO := Lib.hid ho
    have HG : Hid (w1.heap.size ≤ g) := Lib.hid hg
    clear hb hg ho c0 c1 c2 d0 d1 d2 f0 f1 f2
    obtain ⟨l2, c0, c1, c2⟩ := KP2.out.c3
    go_wp2_with fail
    go_loopw [4] (fun i wr => ∃ (s r : Nat), s ≤ n ∧ i = .int .i64 s ∧ Hid (s = r * wn) ∧ Own wr g n n (mirK xs W s) ∧ (w2.alloc (.cells #[.int .i64 W, .int .i64 H, .slice (some ⟨g, 0, none⟩) n n] 34)).grownBy wr (some g)) (fun i _ => n - (intOf i).toNat)
    case atStart => exact ⟨0, 0, Nat.zero_le _, rfl, (by unfold Hid; omega), by rw [mirK_zero]; exact HO.out.alloc _, grown_refl _ _⟩
    case round =>
      obtain ⟨k, r, hk, rfl, HR, ho, hg⟩ := hrel
      have HBr := Lib.hid ((HB2.out.alloc HB2.out.size _).grown hg (by have := HB2.out.size; simp; omega) (by intro k hk; cases hk; have := HG.out; omega))
      have KO := Lib.hid ((Blk.new w2 34 #[.int .i64 W, .int .i64 H, .slice (some ⟨g, 0, none⟩) n n]).grown hg (by have := HO.out.lt; simp; omega))
      obtain ⟨l0, o0, o1, o2⟩ := KO.out.c3
      have KP := Lib.hid ((KP2.out.alloc _).grown hg (by have := HG.out; have := KP1.out.lt; simp; omega))
      obtain ⟨l9, p0, p1, p2⟩ := KP.out.c3
      by_cases hlt : k < n
      · have hfit : (k : Int) + W ≤ n := by
          have h1 := HR.out
          have h2 := HQ.out
          have h3 := HWN.out
          have h4 : r < H.toNat := by
            apply Nat.lt_of_mul_lt_mul_right (a := wn)
            rw [← h1]
            have : ((H.toNat * wn : Nat) : Int) = n := by rw [Int.natCast_mul, h3, Int.toNat_of_nonneg (by omega), h2, Int.mul_comm]
            omega
          have h5 : (r + 1) * wn ≤ H.toNat * wn := Nat.mul_le_mul_right _ h4
          have : ((H.toNat * wn : Nat) : Int) = n := by rw [Int.natCast_mul, h3, Int.toNat_of_nonneg (by omega), h2, Int.mul_comm]
          rw [Nat.add_mul, Nat.one_mul, ← h1] at h5
          omega
        go_wp2_with fail
        rw [show ((k : Int) + W).toNat - k = wn from by have := HWN.out; omega]
        refine (lib_Reverse g n n k wn (n - k) (mirK xs W k) _ ho (by have := HWN.out; omega) hw1 (by omega)).mono ?_
        rintro e w3 ⟨rfl, ⟨q, q1, q2, ho3⟩, hg3⟩
        rw [mirK_step xs W k wn r q HWN.out hw1 HR.out (by have := HN.out; have := HWN.out; omega) q1 q2] at ho3
        have HO3 := Lib.hid ho3
        have HG3 := Lib.hid (grown_trans hg hg3)
        have KP3 := Lib.hid (KP.out.grown hg3 (by have := HG.out; have := KP1.out.lt; simp; omega))
        obtain ⟨z9, z0, z1, z2⟩ := KP3.out.c3
        clear ho3 hg3 ho hg o0 o1 o2 p0 p1 p2
        go_wp2_with fail
        go_roundw
        case rel => exact ⟨k + wn, r + 1, by have := HWN.out; omega, by rw [← HWN.out]; go_num, (by have := HR.out; unfold Hid; rw [Nat.add_mul, Nat.one_mul, this]), HO3.out, HG3.out⟩
        case measure => have := HWN.out; simp [intOf]; omega
      · obtain rfl : n = k := by omega
        have KR := Lib.hid ((KR2.out.alloc _).grown hg (by have := HG.out; have := KR2.out.lt; simp; omega))
        obtain ⟨r0, r1, r2, r3⟩ := KR.out.c3
        obtain ⟨q0, q1, q2⟩ := KR.out.f3
        rw [mirK_all _ _ _ HN.out.symm, HN.out] at ho
        have HO3 := Lib.hid ho
        clear ho
        go_wp2_with fail
        exact bodyPost_ret (v := .agg #[.int .i64 W, .int .i64 H, .slice (some ⟨g, 0, none⟩) n n]) (by simp [results, Try.results30, go_sem, r1, r2, r3]) rfl
          ⟨_, _, _, rfl, OwnA.mk (((HO3.out.other (by have := HG.out; simp; omega) _).other (by have := HG.out; simp; omega) _).other (by have := HG.out; simp; omega) _) (by have := HG.out; omega), by omega,
            ((HBr.out.setCell (by first | (simp; done) | (simp; omega)) _).setCell (by first | (simp; done) | (simp; omega)) _).setCell (by first | (simp; done) | (simp; omega)) _⟩

end Go.Proofs.Ytepaklcobkdfdaa
