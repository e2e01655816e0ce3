/-
  Contracts of CropPicture (program and model).
-/
import Derived.Test.YtepaklcobkdfdaaC7
import Derived.StillTailTactics
namespace Go.Proofs.Ytepaklcobkdfdaa
open Go.RowKit
set_option linter.unusedVariables false
set_option linter.unusedSimpArgs false

def cropG (W : Int) (xs : List Int) (x y cw : Int) (i : Nat) : Int := xs.getD ((y + (i : Int) / cw) * W + x + (i : Int) % cw).toNat 0
def cropOk (W H : Int) (xs : List Int) (x y cw ch : Int) : Prop := picOk W H xs 255 = true ∧ 1 ≤ cw ∧ 0 ≤ x ∧ x ≤ W - cw ∧ 1 ≤ ch ∧ 0 ≤ y ∧ y ≤ H - ch
theorem cropF_no {W H : Int} {xs : List Int} {x y cw ch : Int} (h : ¬ cropOk W H xs x y cw ch) : cropF W H xs x y cw ch = (noPic, false) := by unfold cropF; exact if_neg h
theorem cropF_yes {W H : Int} {xs : List Int} {x y cw ch : Int} {m : Nat} (h : cropOk W H xs x y cw ch) (hm : (m : Int) = cw * ch) : cropF W H xs x y cw ch = (⟨cw, ch, gen m (cropG W xs x y cw)⟩, true) := by
  unfold cropF; refine (if_pos h).trans ?_; rw [← hm]; rfl
theorem crop_size {W H : Int} {cw ch : Int} (hs : sizeOk W H = true) (h1 : 1 ≤ cw) (h2 : cw ≤ W) (h3 : 1 ≤ ch) (h4 : ch ≤ H) : sizeOk cw ch = true := by
  obtain ⟨b1, b2, b3, b4, b5, b6⟩ := sizeOk_bd hs
  unfold sizeOk
  rw [decide_eq_true_iff]
  refine ⟨h1, by omega, h3, by omega, ?_⟩
  have := Int.mul_le_mul h2 h4 (by omega) (by omega)
  omega
theorem crop_bd {W H x y cw ch i : Int} {n : Nat} (hn : (n : Int) = W * H) (h1 : 1 ≤ cw) (hx : 0 ≤ x) (hx2 : x ≤ W - cw) (hy : 0 ≤ y) (hy2 : y ≤ H - ch) (i0 : 0 ≤ i) (i1 : i < cw * ch) :
    0 ≤ i % cw ∧ i % cw < cw ∧ 0 ≤ i / cw ∧ i / cw < ch ∧ 0 ≤ (y + i / cw) * W ∧ (y + i / cw) * W + x + i % cw < n := by
  obtain ⟨a, b, a0, a1, b0, b1, e, ea, eb⟩ := split_dm (W := cw) (H := ch) h1 i0 i1
  rw [ea, eb]
  obtain ⟨r1, r2⟩ := row_bd (x := x + a) (y := y + b) (W := W) (H := H) (by omega) (by omega) (by omega) (by omega)
  omega

set_option maxRecDepth 100000 in
set_option maxHeartbeats 1600000 in
theorem spec_CropPicture (W H : Int) (ad : Option Addr) (n cap : Nat) (xs : List Int) (x y cw ch : Int) (w : World) (hn : xs.length = n) (ha : Rd w ad xs) (hl : n ≤ 9223372036854775807) :
    Calls Try.prog 24 #[.agg #[.int .i64 W, .int .i64 H, .slice ad n cap], .int .i64 x, .int .i64 y, .int .i64 cw, .int .i64 ch] w (PicOut2 w (cropF W H xs x y cw ch)) := by
  have HN := Lib.hid hn
  have HA := Lib.hid ha
  clear hn ha
  by_cases hp : picOk W H xs 255 = true
  case neg =>
    have hp2 : picOk W H xs 255 = false := by simpa using hp
    rw [cropF_no (fun h => hp h.1)]
    clear hp
    go_enter Try.func24, Try.ntmps24
    go_wp2_with fail
    refine (spec_IsPicture _ _ _ _ _ xs _ HN.out (by exact (HA.out.alloc _).alloc _) hl).mono ?_
    rintro e w1 ⟨rfl, hb⟩
    have HB1 := Lib.hid ((Joins.below_alloc2 _ _ _).trans (hb.mono (by simp; omega)))
    have KP1 := Lib.hid (((Blk.new w 34 #[.int .i64 W, .int .i64 H, .slice ad n cap]).alloc _).below' hb)
    have KR1 : Hid (Blk w1 (w.heap.size + 1) 34 #[.int .i64 0, .int .i64 0, .slice none 0 0]) := by
      have h := (Blk.new (w.alloc (.cells #[.int .i64 W, .int .i64 H, .slice ad n cap] 34)) 34 #[.int .i64 0, .int .i64 0, .slice none 0 0]).below' hb
      exact Lib.hid (by simpa using h)
    obtain ⟨l1, c0, c1, c2⟩ := KP1.out.c3
    obtain ⟨m1, d0, d1, d2⟩ := KR1.out.c3
    obtain ⟨f0, f1, f2⟩ := KR1.out.f3
    clear hb
    rw [hp2]
    go_wp2_with fail
    exact bodyPost_ret (v := .tuple #[.agg #[.int .i64 0, .int .i64 0, .slice none 0 0], .bool false]) (by simp [results, Try.results24, go_sem, d0, d1, d2]) rfl ⟨none, 0, 0, rfl, OwnA.none _ _, by omega,
      ((HB1.out.setCell (by first | (simp; done) | (simp; omega)) _).setCell (by first | (simp; done) | (simp; omega)) _).setCell (by first | (simp; done) | (simp; omega)) _⟩
  case pos =>
    by_cases ht : sizeOk cw ch = true
    case neg =>
      have hno : ¬ cropOk W H xs x y cw ch := fun h => ht (crop_size (picOk_bd HN.out hp).1 h.2.1 (by have := h.2.2; omega) h.2.2.2.2.1 (by have := h.2.2.2.2; omega))
      rw [cropF_no hno]
      clear hno
      go_enter Try.func24, Try.ntmps24
      go_wp2_with fail
      refine (spec_IsPicture _ _ _ _ _ xs _ HN.out (by exact (HA.out.alloc _).alloc _) hl).mono ?_
      rintro e w1 ⟨rfl, hb⟩
      have HB1 := Lib.hid ((Joins.below_alloc2 _ _ _).trans (hb.mono (by simp; omega)))
      have KP1 := Lib.hid (((Blk.new w 34 #[.int .i64 W, .int .i64 H, .slice ad n cap]).alloc _).below' hb)
      have KR1 : Hid (Blk w1 (w.heap.size + 1) 34 #[.int .i64 0, .int .i64 0, .slice none 0 0]) := by
        have h := (Blk.new (w.alloc (.cells #[.int .i64 W, .int .i64 H, .slice ad n cap] 34)) 34 #[.int .i64 0, .int .i64 0, .slice none 0 0]).below' hb
        exact Lib.hid (by simpa using h)
      obtain ⟨l1, c0, c1, c2⟩ := KP1.out.c3
      obtain ⟨m1, d0, d1, d2⟩ := KR1.out.c3
      obtain ⟨f0, f1, f2⟩ := KR1.out.f3
      clear hb
      rw [hp]
      go_wp2_with fail
      refine (spec_l1Size_no _ _ _ ht).mono ?_
      rintro e w2 ⟨rfl, rfl⟩
      go_wp2_with fail
      exact bodyPost_ret (v := .tuple #[.agg #[.int .i64 0, .int .i64 0, .slice none 0 0], .bool false]) (by simp [results, Try.results24, go_sem, d0, d1, d2]) rfl ⟨none, 0, 0, rfl, OwnA.none _ _, by omega,
        ((HB1.out.setCell (by first | (simp; done) | (simp; omega)) _).setCell (by first | (simp; done) | (simp; omega)) _).setCell (by first | (simp; done) | (simp; omega)) _⟩
    case pos =>
      obtain ⟨hs, hq, hi⟩ := picOk_bd HN.out hp
      obtain ⟨b1, b2, b3, b4, b5, b6⟩ := sizeOk_bd hs
      have HQ := Lib.hid hq
      have HI := Lib.hid hi
      have HS := Lib.hid hs
      have hn1 : 1 ≤ n := by omega
      have hn2 : n ≤ 1024 := by omega
      clear hq hi hs
      obtain ⟨t1, t2, t3, t4, t5, t6⟩ := sizeOk_bd ht
      by_cases hx : 0 ≤ x ∧ x ≤ W - cw
      case neg =>
        rw [cropF_no (fun h => hx ⟨h.2.2.1, h.2.2.2.1⟩)]
        go_enter Try.func24, Try.ntmps24
        go_wp2_with fail
        refine (spec_IsPicture _ _ _ _ _ xs _ HN.out (by exact (HA.out.alloc _).alloc _) hl).mono ?_
        rintro e w1 ⟨rfl, hb⟩
        have HB1 := Lib.hid ((Joins.below_alloc2 _ _ _).trans (hb.mono (by simp; omega)))
        have KP1 := Lib.hid (((Blk.new w 34 #[.int .i64 W, .int .i64 H, .slice ad n cap]).alloc _).below' hb)
        have KR1 : Hid (Blk w1 (w.heap.size + 1) 34 #[.int .i64 0, .int .i64 0, .slice none 0 0]) := by
          have h := (Blk.new (w.alloc (.cells #[.int .i64 W, .int .i64 H, .slice ad n cap] 34)) 34 #[.int .i64 0, .int .i64 0, .slice none 0 0]).below' hb
          exact Lib.hid (by simpa using h)
        obtain ⟨l1, c0, c1, c2⟩ := KP1.out.c3
        obtain ⟨m1, d0, d1, d2⟩ := KR1.out.c3
        obtain ⟨f0, f1, f2⟩ := KR1.out.f3
        clear hb
        rw [hp]
        go_wp2_with fail
        refine (spec_l1Size_yes _ _ _ ht).mono ?_
        rintro e w2 ⟨rfl, rfl⟩
        go_wp2_with fail
        refine (spec_l1In_no x 0 (W - cw) _ hx).mono ?_
        rintro e w2 ⟨rfl, rfl⟩
        go_wp2_with fail
        exact bodyPost_ret (v := .tuple #[.agg #[.int .i64 0, .int .i64 0, .slice none 0 0], .bool false]) (by simp [results, Try.results24, go_sem, d0, d1, d2]) rfl ⟨none, 0, 0, rfl, OwnA.none _ _, by omega,
          ((HB1.out.setCell (by first | (simp; done) | (simp; omega)) _).setCell (by first | (simp; done) | (simp; omega)) _).setCell (by first | (simp; done) | (simp; omega)) _⟩
      case pos =>
        obtain ⟨x1, x2⟩ := hx
        by_cases hy : 0 ≤ y ∧ y ≤ H - ch
        case neg =>
          rw [cropF_no (fun h => hy ⟨h.2.2.2.2.2.1, h.2.2.2.2.2.2⟩)]
          go_enter Try.func24, Try.ntmps24
          go_wp2_with fail
          refine (spec_IsPicture _ _ _ _ _ xs _ HN.out (by exact (HA.out.alloc _).alloc _) hl).mono ?_
          rintro e w1 ⟨rfl, hb⟩
          have HB1 := Lib.hid ((Joins.below_alloc2 _ _ _).trans (hb.mono (by simp; omega)))
          have KP1 := Lib.hid (((Blk.new w 34 #[.int .i64 W, .int .i64 H, .slice ad n cap]).alloc _).below' hb)
          have KR1 : Hid (Blk w1 (w.heap.size + 1) 34 #[.int .i64 0, .int .i64 0, .slice none 0 0]) := by
            have h := (Blk.new (w.alloc (.cells #[.int .i64 W, .int .i64 H, .slice ad n cap] 34)) 34 #[.int .i64 0, .int .i64 0, .slice none 0 0]).below' hb
            exact Lib.hid (by simpa using h)
          obtain ⟨l1, c0, c1, c2⟩ := KP1.out.c3
          obtain ⟨m1, d0, d1, d2⟩ := KR1.out.c3
          obtain ⟨f0, f1, f2⟩ := KR1.out.f3
          clear hb
          rw [hp]
          go_wp2_with fail
          refine (spec_l1Size_yes _ _ _ ht).mono ?_
          rintro e w2 ⟨rfl, rfl⟩
          go_wp2_with fail
          refine (spec_l1In_yes x 0 (W - cw) _ x1 x2).mono ?_
          rintro e w2 ⟨rfl, rfl⟩
          go_wp2_with fail
          refine (spec_l1In_no y 0 (H - ch) _ hy).mono ?_
          rintro e w2 ⟨rfl, rfl⟩
          go_wp2_with fail
          exact bodyPost_ret (v := .tuple #[.agg #[.int .i64 0, .int .i64 0, .slice none 0 0], .bool false]) (by simp [results, Try.results24, go_sem, d0, d1, d2]) rfl ⟨none, 0, 0, rfl, OwnA.none _ _, by omega,
            ((HB1.out.setCell (by first | (simp; done) | (simp; omega)) _).setCell (by first | (simp; done) | (simp; omega)) _).setCell (by first | (simp; done) | (simp; omega)) _⟩
        case pos =>
          obtain ⟨y1, y2⟩ := hy
          obtain ⟨m, hm⟩ : ∃ m : Nat, (m : Int) = cw * ch := ⟨_, (toNat_mul ht).1⟩
          have hm1 : 1 ≤ m := by omega
          have hm2 : m ≤ 1024 := by omega
          rw [cropF_yes ⟨hp, t1, x1, x2, t3, y1, y2⟩ hm]
          have HM := Lib.hid hm
          clear hm
          go_enter Try.func24, Try.ntmps24
          go_wp2_with fail
          refine (spec_IsPicture _ _ _ _ _ xs _ HN.out (by exact (HA.out.alloc _).alloc _) hl).mono ?_
          rintro e w1 ⟨rfl, hb⟩
          have HB1 := Lib.hid ((Joins.below_alloc2 _ _ _).trans (hb.mono (by simp; omega)))
          have KP1 := Lib.hid (((Blk.new w 34 #[.int .i64 W, .int .i64 H, .slice ad n cap]).alloc _).below' hb)
          have KR1 : Hid (Blk w1 (w.heap.size + 1) 34 #[.int .i64 0, .int .i64 0, .slice none 0 0]) := by
            have h := (Blk.new (w.alloc (.cells #[.int .i64 W, .int .i64 H, .slice ad n cap] 34)) 34 #[.int .i64 0, .int .i64 0, .slice none 0 0]).below' hb
            exact Lib.hid (by simpa using h)
          obtain ⟨l1, c0, c1, c2⟩ := KP1.out.c3
          obtain ⟨m1, d0, d1, d2⟩ := KR1.out.c3
          obtain ⟨f0, f1, f2⟩ := KR1.out.f3
          clear hb
          rw [hp]
          go_wp2_with fail
          refine (spec_l1Size_yes _ _ _ ht).mono ?_
          rintro e w2 ⟨rfl, rfl⟩
          go_wp2_with fail
          refine (spec_l1In_yes x 0 (W - cw) _ x1 x2).mono ?_
          rintro e w2 ⟨rfl, rfl⟩
          go_wp2_with fail
          refine (spec_l1In_yes y 0 (H - ch) _ y1 y2).mono ?_
          rintro e w1b ⟨rfl, rfl⟩
          go_wp2_with fail
          refine (spec_l1Empty cw ch m _ ht HM.out).mono ?_
          rintro e w2 ⟨g, rfl, hg, ho, hb⟩
          have HB2 := Lib.hid (HB1.out.trans (hb.mono HB1.out.size))
          have KP2 := Lib.hid (KP1.out.below' hb)
          have KR2 := Lib.hid (KR1.out.below' hb)
          have HO := Lib.hid ho
          have HG : Hid (w1.heap.size ≤ g) := Lib.hid hg
          clear hb hg ho c0 c1 c2 d0 d1 d2 f0 f1 f2
          obtain ⟨l2, c0, c1, c2⟩ := KP2.out.c3
          go_wp2_with fail
          go_loopw [48] (fun i wr => ∃ k : Nat, k ≤ m ∧ i = .int .i64 k ∧ Own wr g m m (filled (gen m (cropG W xs x y cw)) (List.replicate m 0) k) ∧ (w2.alloc (.cells #[.int .i64 cw, .int .i64 ch, .slice (some ⟨g, 0, none⟩) m m] 34)).grownBy wr (some g)) (fun i _ => m - (intOf i).toNat)
          case atStart => exact ⟨0, Nat.zero_le _, rfl, by rw [filled_zero]; exact HO.out.alloc _, grown_refl _ _⟩
          case round =>
            obtain ⟨k, hk, rfl, ho, hg⟩ := hrel
            have HBr := Lib.hid ((HB2.out.alloc HB2.out.size _).grown hg (by have := HB2.out.size; simp; omega) (by intro k hk; cases hk; have := HG.out; omega))
            have KO := Lib.hid ((Blk.new w2 34 #[.int .i64 cw, .int .i64 ch, .slice (some ⟨g, 0, none⟩) m m]).grown hg (by have := HO.out.lt; simp; omega))
            obtain ⟨l0, o0, o1, o2⟩ := KO.out.c3
            have KP := Lib.hid ((KP2.out.alloc _).grown hg (by have := HG.out; have := KP1.out.lt; simp; omega))
            obtain ⟨l9, p0, p1, p2⟩ := KP.out.c3
            by_cases hlt : k < m
            · obtain ⟨e1, e2, e3, e4, e5, e6⟩ := crop_bd (i := (k : Int)) HQ.out t1 x1 x2 y1 y2 (by omega) (by have := HM.out; omega)
              have e7 : (k : Int) / cw ≤ k := Int.ediv_le_self _ (by omega)
              obtain ⟨ba, oa, hae, hal, hac⟩ := (HA.out.below HBr.out).at (by have := HN.out; omega)
              have h1 := hac (((y + (k : Int) / cw) * W + x + (k : Int) % cw).toNat) (by have := HN.out; omega)
              subst hae
              clear hac
              have g2 : wr.cell? ⟨g, k, none⟩ = some (.int .i64 ((filled (gen m (cropG W xs x y cw)) (List.replicate m 0) k).getD k 0)) := ho.cell hlt
              have g3 : wr.frozen? ⟨g, k, none⟩ = false := ho.frozen k
              have hs := ho.set k (xs.getD ((y + (k : Int) / cw) * W + x + (k : Int) % cw).toNat 0)
              rw [filled_succ (gen m (cropG W xs x y cw)) _ k _ (by rw [gen_len]; exact hlt) (by simp; omega) (by rw [gen_get _ _ _ hlt]; rfl)] at hs
              have HSt := Lib.hid hs
              clear hs ho
              go_wp2_with fail
              go_region
              go_wp2_with fail
              go_roundw
              case rel => exact ⟨k + 1, by omega, by go_num, (by first | exact HSt.out.drewN 1 | exact HSt.out.drewN _ | (have h := HSt.out; simp at h; exact h.drewN 1)), (by first | exact grown_drewN (grown_set hg _) 1 | exact grown_drewN (grown_set hg _) _)⟩
              case measure => simp [intOf]; omega
            · obtain rfl : m = k := by omega
              have KR := Lib.hid ((KR2.out.alloc _).grown hg (by have := HG.out; have := KR2.out.lt; simp; omega))
              obtain ⟨r0, r1, r2, r3⟩ := KR.out.c3
              obtain ⟨q0, q1, q2⟩ := KR.out.f3
              rw [filled_at (gen m (cropG W xs x y cw)) _ m (by rw [gen_len]) (by simp)] at ho
              have HO3 := Lib.hid ho
              clear ho
              go_wp2_with fail
              exact bodyPost_ret (v := .tuple #[.agg #[.int .i64 cw, .int .i64 ch, .slice (some ⟨g, 0, none⟩) m m], .bool true]) (by simp [results, Try.results24, go_sem, r1, r2, r3]) rfl
                ⟨_, _, _, rfl, OwnA.mk (((HO3.out.other (by have := HG.out; simp; omega) _).other (by have := HG.out; simp; omega) _).other (by have := HG.out; simp; omega) _) (by have := HG.out; omega), by omega,
                  ((HBr.out.setCell (by first | (simp; done) | (simp; omega)) _).setCell (by first | (simp; done) | (simp; omega)) _).setCell (by first | (simp; done) | (simp; omega)) _⟩

theorem splice_get (L cs : List Int) (off p : Nat) (h : off + cs.length ≤ L.length) : (splice L off cs).getD p 0 = if off ≤ p ∧ p < off + cs.length then cs.getD (p - off) 0 else L.getD p 0 := by
  have hl : (L.take off).length = off := by simp; omega
  simp only [splice, List.getD]
  by_cases a : p < off
  · rw [if_neg (by omega), List.getElem?_append_left (by omega), List.getElem?_take, if_pos a]
  · rw [List.getElem?_append_right (by omega), hl]
    by_cases b : p < off + cs.length
    · rw [if_pos ⟨by omega, b⟩, List.getElem?_append_left (by omega)]
    · rw [if_neg (by omega), List.getElem?_append_right (by omega), List.getElem?_drop]
      congr 2
      omega

/-- The first s numbers of the part are there. -/
def cropK (W : Int) (xs : List Int) (x y cw : Int) (m s : Nat) : List Int := gen m (fun p => if p < s then cropG W xs x y cw p else 0)
theorem takedrop_get (xs : List Int) (a b j : Nat) (h : j < b) : ((xs.drop a).take b).getD j 0 = xs.getD (a + j) 0 := by
  simp [List.getD, List.getElem?_take, h]

theorem cropK_zero (W : Int) (xs : List Int) (x y cw : Int) (m : Nat) : cropK W xs x y cw m 0 = List.replicate m 0 := gen_zero _ _ (fun k => by simp)
theorem cropK_all (W : Int) (xs : List Int) (x y cw : Int) (m : Nat) : cropK W xs x y cw m m = gen m (cropG W xs x y cw) := by
  refine gen_ext _ _ _ (gen_len _ _) (fun p hp => ?_)
  unfold cropK
  rw [gen_get _ _ _ hp, if_pos hp]
theorem cropK_step (W : Int) (xs zs : List Int) (x y cw : Int) (m s r st w : Nat) (hw : (w : Int) = cw) (hw1 : 1 ≤ w) (hs : s = r * w) (hst : (st : Int) = (y + r) * W + x) (hz : zs.length = w) (hzg : ∀ j, j < w → zs.getD j 0 = xs.getD (st + j) 0) (hm : s + w ≤ m) :
    splice (cropK W xs x y cw m s) s zs = cropK W xs x y cw m (s + w) := by
  have hl : (cropK W xs x y cw m s).length = m := gen_len _ _
  refine gen_ext _ _ _ (by rw [length_splice _ _ _ (by omega), hl]) (fun p hp => ?_)
  rw [splice_get _ _ _ _ (by omega)]
  by_cases c : s ≤ p ∧ p < s + zs.length
  · rw [if_pos c, hzg _ (by omega), if_pos (by omega)]
    have e : (p : Int) = (r : Int) * cw + ((p - s : Nat) : Int) := by rw [← hw, ← Int.natCast_mul, ← hs]; omega
    obtain ⟨j1, j2⟩ := join_dm (q := (r : Int)) (r := ((p - s : Nat) : Int)) (m := cw) (by omega) (by omega)
    unfold cropG
    rw [e, j1, j2, ← hst]
    congr 1
  · rw [if_neg c]
    unfold cropK
    rw [gen_get _ _ _ hp]
    by_cases d : p < s
    · rw [if_pos d, if_pos (by omega)]
    · rw [if_neg d, if_neg (by omega)]

set_option maxRecDepth 100000 in
set_option maxHeartbeats 1600000 in
theorem impl_CropPicture (W H : Int) (ad : Option Addr) (n cap : Nat) (xs : List Int) (x y cw ch : Int) (w : World) (hn : xs.length = n) (ha : Rd w ad xs) (hl : n ≤ 9223372036854775807) (hcap : n ≤ cap) (hcap2 : cap ≤ 9223372036854775807) (hcw : cw ≤ 9223372036854775807) (hch : ch ≤ 9223372036854775807) :
    Calls Try.prog 23 #[.agg #[.int .i64 W, .int .i64 H, .slice ad n cap], .int .i64 x, .int .i64 y, .int .i64 cw, .int .i64 ch] w (PicOut2 w (cropF W H xs x y cw ch)) := by
  have HN := Lib.hid hn
  have HA := Lib.hid ha
  clear hn ha
  by_cases hp : picOk W H xs 255 = true
  case neg =>
    have hp2 : picOk W H xs 255 = false := by simpa using hp
    rw [cropF_no (fun h => hp h.1)]
    clear hp
    go_enter Try.func23, Try.ntmps23
    go_wp2_with fail
    refine (impl_IsPicture _ _ _ _ _ xs _ HN.out (by exact (HA.out.alloc _).alloc _) hl).mono ?_
    rintro e w1 ⟨rfl, hb⟩
    have HB1 := Lib.hid ((Joins.below_alloc2 _ _ _).trans (hb.mono (by simp; omega)))
    have KP1 := Lib.hid (((Blk.new w 34 #[.int .i64 W, .int .i64 H, .slice ad n cap]).alloc _).below' hb)
    have KR1 : Hid (Blk w1 (w.heap.size + 1) 34 #[.int .i64 0, .int .i64 0, .slice none 0 0]) := by
      have h := (Blk.new (w.alloc (.cells #[.int .i64 W, .int .i64 H, .slice ad n cap] 34)) 34 #[.int .i64 0, .int .i64 0, .slice none 0 0]).below' hb
      exact Lib.hid (by simpa using h)
    obtain ⟨l1, c0, c1, c2⟩ := KP1.out.c3
    obtain ⟨m1, d0, d1, d2⟩ := KR1.out.c3
    obtain ⟨f0, f1, f2⟩ := KR1.out.f3
    clear hb
    rw [hp2]
    go_wp2_with fail
    exact bodyPost_ret (v := .tuple #[.agg #[.int .i64 0, .int .i64 0, .slice none 0 0], .bool false]) (by simp [results, Try.results23, go_sem, d0, d1, d2]) rfl ⟨none, 0, 0, rfl, OwnA.none _ _, by omega,
      ((HB1.out.setCell (by first | (simp; done) | (simp; omega)) _).setCell (by first | (simp; done) | (simp; omega)) _).setCell (by first | (simp; done) | (simp; omega)) _⟩
  case pos =>
    obtain ⟨hs, hq, hi⟩ := picOk_bd HN.out hp
    obtain ⟨b1, b2, b3, b4, b5, b6⟩ := sizeOk_bd hs
    have HQ := Lib.hid hq
    have HI := Lib.hid hi
    have HS := Lib.hid hs
    have hn1 : 1 ≤ n := by omega
    have hn2 : n ≤ 1024 := by omega
    clear hq hi hs
    by_cases hx : 1 ≤ cw ∧ 0 ≤ x ∧ x ≤ W - cw
    case neg =>
      rw [cropF_no (fun h => hx ⟨h.2.1, h.2.2.1, h.2.2.2.1⟩)]
      go_enter Try.func23, Try.ntmps23
      go_wp2_with fail
      refine (impl_IsPicture _ _ _ _ _ xs _ HN.out (by exact (HA.out.alloc _).alloc _) hl).mono ?_
      rintro e w1 ⟨rfl, hb⟩
      have HB1 := Lib.hid ((Joins.below_alloc2 _ _ _).trans (hb.mono (by simp; omega)))
      have KP1 := Lib.hid (((Blk.new w 34 #[.int .i64 W, .int .i64 H, .slice ad n cap]).alloc _).below' hb)
      have KR1 : Hid (Blk w1 (w.heap.size + 1) 34 #[.int .i64 0, .int .i64 0, .slice none 0 0]) := by
        have h := (Blk.new (w.alloc (.cells #[.int .i64 W, .int .i64 H, .slice ad n cap] 34)) 34 #[.int .i64 0, .int .i64 0, .slice none 0 0]).below' hb
        exact Lib.hid (by simpa using h)
      obtain ⟨l1, c0, c1, c2⟩ := KP1.out.c3
      obtain ⟨m1, d0, d1, d2⟩ := KR1.out.c3
      obtain ⟨f0, f1, f2⟩ := KR1.out.f3
      clear hb
      rw [hp]
      go_wp2_with fail
      refine (impl_partFits_no x cw W _ b1 b2 hcw hx).mono ?_
      rintro e w2 ⟨rfl, rfl⟩
      go_wp2_with fail
      exact bodyPost_ret (v := .tuple #[.agg #[.int .i64 0, .int .i64 0, .slice none 0 0], .bool false]) (by simp [results, Try.results23, go_sem, d0, d1, d2]) rfl ⟨none, 0, 0, rfl, OwnA.none _ _, by omega,
        ((HB1.out.setCell (by first | (simp; done) | (simp; omega)) _).setCell (by first | (simp; done) | (simp; omega)) _).setCell (by first | (simp; done) | (simp; omega)) _⟩
    case pos =>
      obtain ⟨t1, x1, x2⟩ := hx
      by_cases hy : 1 ≤ ch ∧ 0 ≤ y ∧ y ≤ H - ch
      case neg =>
        rw [cropF_no (fun h => hy h.2.2.2.2)]
        go_enter Try.func23, Try.ntmps23
        go_wp2_with fail
        refine (impl_IsPicture _ _ _ _ _ xs _ HN.out (by exact (HA.out.alloc _).alloc _) hl).mono ?_
        rintro e w1 ⟨rfl, hb⟩
        have HB1 := Lib.hid ((Joins.below_alloc2 _ _ _).trans (hb.mono (by simp; omega)))
        have KP1 := Lib.hid (((Blk.new w 34 #[.int .i64 W, .int .i64 H, .slice ad n cap]).alloc _).below' hb)
        have KR1 : Hid (Blk w1 (w.heap.size + 1) 34 #[.int .i64 0, .int .i64 0, .slice none 0 0]) := by
          have h := (Blk.new (w.alloc (.cells #[.int .i64 W, .int .i64 H, .slice ad n cap] 34)) 34 #[.int .i64 0, .int .i64 0, .slice none 0 0]).below' hb
          exact Lib.hid (by simpa using h)
        obtain ⟨l1, c0, c1, c2⟩ := KP1.out.c3
        obtain ⟨m1, d0, d1, d2⟩ := KR1.out.c3
        obtain ⟨f0, f1, f2⟩ := KR1.out.f3
        clear hb
        rw [hp]
        go_wp2_with fail
        refine (impl_partFits_yes x cw W _ b1 b2 t1 x1 x2).mono ?_
        rintro e w2 ⟨rfl, rfl⟩
        go_wp2_with fail
        refine (impl_partFits_no y ch H _ b3 b4 hch hy).mono ?_
        rintro e w2 ⟨rfl, rfl⟩
        go_wp2_with fail
        exact bodyPost_ret (v := .tuple #[.agg #[.int .i64 0, .int .i64 0, .slice none 0 0], .bool false]) (by simp [results, Try.results23, go_sem, d0, d1, d2]) rfl ⟨none, 0, 0, rfl, OwnA.none _ _, by omega,
          ((HB1.out.setCell (by first | (simp; done) | (simp; omega)) _).setCell (by first | (simp; done) | (simp; omega)) _).setCell (by first | (simp; done) | (simp; omega)) _⟩
      case pos =>
        obtain ⟨t3, y1, y2⟩ := hy
        have ht := crop_size HS.out t1 (by omega : cw ≤ W) t3 (by omega : ch ≤ H)
        obtain ⟨m, hm⟩ : ∃ m : Nat, (m : Int) = cw * ch := ⟨_, (toNat_mul ht).1⟩
        obtain ⟨_, t2, _, t4, t5, t6⟩ := sizeOk_bd ht
        have hm1 : 1 ≤ m := by omega
        have hm2 : m ≤ 1024 := by omega
        rw [cropF_yes ⟨hp, t1, x1, x2, t3, y1, y2⟩ hm]
        have HM := Lib.hid hm
        have HT := Lib.hid ht
        clear hm ht
        obtain ⟨wn, hwn⟩ : ∃ wn : Nat, (wn : Int) = cw := ⟨cw.toNat, by omega⟩
        have HWN := Lib.hid hwn
        have hw1 : 1 ≤ wn := by omega
        clear hwn
        go_enter Try.func23, Try.ntmps23
        go_wp2_with fail
        refine (impl_IsPicture _ _ _ _ _ xs _ HN.out (by exact (HA.out.alloc _).alloc _) hl).mono ?_
        rintro e w1 ⟨rfl, hb⟩
        have HB1 := Lib.hid ((Joins.below_alloc2 _ _ _).trans (hb.mono (by simp; omega)))
        have KP1 := Lib.hid (((Blk.new w 34 #[.int .i64 W, .int .i64 H, .slice ad n cap]).alloc _).below' hb)
        have KR1 : Hid (Blk w1 (w.heap.size + 1) 34 #[.int .i64 0, .int .i64 0, .slice none 0 0]) := by
          have h := (Blk.new (w.alloc (.cells #[.int .i64 W, .int .i64 H, .slice ad n cap] 34)) 34 #[.int .i64 0, .int .i64 0, .slice none 0 0]).below' hb
          exact Lib.hid (by simpa using h)
        obtain ⟨l1, c0, c1, c2⟩ := KP1.out.c3
        obtain ⟨m1, d0, d1, d2⟩ := KR1.out.c3
        obtain ⟨f0, f1, f2⟩ := KR1.out.f3
        clear hb
        rw [hp]
        go_wp2_with fail
        refine (impl_partFits_yes x cw W _ b1 b2 t1 x1 x2).mono ?_
        rintro e w2 ⟨rfl, rfl⟩
        go_wp2_with fail
        refine (impl_partFits_yes y ch H _ b3 b4 t3 y1 y2).mono ?_
        rintro e w1b ⟨rfl, rfl⟩
        go_wp2_with fail
        refine (impl_blank cw ch m _ HT.out HM.out).mono ?_
        rintro e w2 ⟨g, rfl, hg, ho, hb⟩
        have HB2 := Lib.hid (HB1.out.trans (hb.mono HB1.out.size))
        have KP2 := Lib.hid (KP1.out.below' hb)
        have KR2 := Lib.hid (KR1.out.below' hb)
        have HO := Lib.hid ho
        have HG : Hid (w1.heap.size ≤ g) := Lib.hid hg
        clear hb hg ho c0 c1 c2 d0 d1 d2 f0 f1 f2
        obtain ⟨l2, c0, c1, c2⟩ := KP2.out.c3
        go_wp2_with fail
        go_loopw [39] (fun i wr => ∃ (r s : Nat), (r : Int) ≤ ch ∧ i = .int .i64 r ∧ Hid (s = r * wn) ∧ Own wr g m m (cropK W xs x y cw m s) ∧ (w2.alloc (.cells #[.int .i64 cw, .int .i64 ch, .slice (some ⟨g, 0, none⟩) m m] 34)).grownBy wr (some g)) (fun i _ => (ch - intOf i).toNat)
        case atStart => exact ⟨0, 0, by omega, rfl, (by unfold Hid; omega), by rw [cropK_zero]; exact HO.out.alloc _, grown_refl _ _⟩
        case round =>
          obtain ⟨k, s, hk, rfl, HR, ho, hg⟩ := hrel
          have HBr := Lib.hid ((HB2.out.alloc HB2.out.size _).grown hg (by have := HB2.out.size; simp; omega) (by intro k hk; cases hk; have := HG.out; omega))
          have KO := Lib.hid ((Blk.new w2 34 #[.int .i64 cw, .int .i64 ch, .slice (some ⟨g, 0, none⟩) m m]).grown hg (by have := HO.out.lt; simp; omega))
          obtain ⟨l0, o0, o1, o2⟩ := KO.out.c3
          have KP := Lib.hid ((KP2.out.alloc _).grown hg (by have := HG.out; have := KP1.out.lt; simp; omega))
          obtain ⟨l9, p0, p1, p2⟩ := KP.out.c3
          by_cases hlt : (k : Int) < ch
          · have hsr : (s : Int) = (k : Int) * cw := by rw [HR.out, Int.natCast_mul, HWN.out]
            have hsm : (k : Int) * cw + cw ≤ m := by
              have : ((k : Int) + 1) * cw ≤ ch * cw := Int.mul_le_mul_of_nonneg_right (by omega) (by omega)
              rw [Int.add_mul, Int.one_mul, Int.mul_comm ch cw] at this
              have := HM.out; omega
            have hs0 : 0 ≤ (k : Int) * cw := Int.mul_nonneg (by omega) (by omega)
            obtain ⟨st, hst⟩ : ∃ st : Nat, (st : Int) = (y + k) * W + x := ⟨((y + k) * W + x).toNat, by have := Int.mul_nonneg (show 0 ≤ y + (k : Int) by omega) (show 0 ≤ W by omega); omega⟩
            obtain ⟨u1, u2⟩ := row_bd (x := x + cw - 1) (y := y + (k : Int)) (W := W) (H := H) (by omega) (by omega) (by omega) (by omega)
            have u3 : (y + (k : Int)) * W + x + cw ≤ n := by have := HQ.out; omega
            clear u2
            have HSR := Lib.hid hsr
            have HST := Lib.hid hst
            clear hsr hst
            obtain ⟨ba, oa, hae, hal, hac⟩ := (HA.out.below HBr.out).at (by have := HN.out; omega)
            have HAC := Lib.hid hac
            subst hae
            clear hac
            have z1 : ¬ m = ((k : Int) * cw).toNat := by omega
            have z2 : ¬ cap = ((y + (k : Int)) * W + x).toNat := by omega
            have z3 : (k : Int) * cw ≤ (m : Int) := by omega
            have z4 : 0 ≤ (y + (k : Int)) * W + x := by omega
            have z5 : 0 ≤ cw := by omega
            have z6 : (y + (k : Int)) * W + x + cw ≤ (cap : Int) := by omega
            have z7 : (y + (k : Int)) * W + x ≤ (y + (k : Int)) * W + x + cw := by omega
            have q1 : IntKind.i64.wrap ((k : Int) * cw) = (k : Int) * cw := IntWalk.i64_in _ (by omega)
            have q2 : IntKind.i64.wrap ((y + (k : Int)) * W + x + cw) = (y + (k : Int)) * W + x + cw := IntWalk.i64_in _ (by omega)
            go_wp2_with fail
            go_still_tail 13, (by kernel_rfl)
            change wpList _ _ _ _ _ wr.drew
            refine wp_copy _ rfl (.tmp 55) (.tmp 62) rfl g m m ((k : Int) * cw).toNat _ _ ⟨ba, oa + ((y + (k : Int)) * W + x).toNat, none⟩ _ _ (cropK W xs x y cw m s) ((xs.drop st).take wn) rfl rfl ?_ ?_ ?_ ?_ ?_
            · exact ho
            · rw [List.length_take, List.length_drop, HN.out]
              rw [show ((y + (k : Int)) * W + x + cw).toNat - ((y + (k : Int)) * W + x).toNat = wn from by have := HWN.out; omega]
              rw [Nat.min_eq_left (by have := HST.out; have := HWN.out; omega)]
              exact (Nat.min_eq_left (by have := HWN.out; omega)).symm
            · intro j hj
              rw [List.length_take, List.length_drop, HN.out] at hj
              have hc := HAC.out (st + j) (by have := HN.out; omega)
              rw [Addr.add_lit]
              show wr.cell? _ = _
              rw [show oa + ((y + (k : Int)) * W + x).toNat + j = oa + (st + j) from by have := HST.out; omega, hc, takedrop_get _ _ _ _ (by omega)]
            · rw [List.length_take, List.length_drop, HN.out]
              have := HWN.out; have := HST.out; omega
            · intro w3 ho3 hg3
              rw [show ((k : Int) * cw).toNat = s from by have := HSR.out; omega] at ho3
              rw [cropK_step W xs _ x y cw m s k st wn HWN.out hw1 HR.out HST.out (by rw [List.length_take, List.length_drop, HN.out]; have := HWN.out; have := HST.out; omega) (fun j hj => takedrop_get _ _ _ _ hj) (by have := HSR.out; have := HWN.out; omega)] at ho3
              have HO3 := Lib.hid ho3
              have HG3 := Lib.hid (grown_trans (grown_drewN hg 1) hg3)
              clear ho3 hg3 ho hg o0 o1 o2 p0 p1 p2 q1 q2 z1 z2 z3 z4 z5 z6 z7
              go_wp2_with fail
              go_roundw
              case rel => exact ⟨k + 1, s + wn, by omega, by go_num, (by have := HR.out; unfold Hid; rw [Nat.add_mul, Nat.one_mul, this]), HO3.out, HG3.out⟩
              case measure => simp [intOf]; omega
          · have hkc : (k : Int) = ch := by omega
            have hsm : s = m := by
              have h1 : (s : Int) = (k : Int) * cw := by rw [HR.out, Int.natCast_mul, HWN.out]
              rw [hkc, Int.mul_comm] at h1
              have := HM.out; omega
            subst hsm
            clear hkc
            have KR := Lib.hid ((KR2.out.alloc _).grown hg (by have := HG.out; have := KR2.out.lt; simp; omega))
            obtain ⟨r0, r1, r2, r3⟩ := KR.out.c3
            obtain ⟨q0, q1, q2⟩ := KR.out.f3
            rw [cropK_all] at ho
            have HO3 := Lib.hid ho
            clear ho
            go_wp2_with fail
            exact bodyPost_ret (v := .tuple #[.agg #[.int .i64 cw, .int .i64 ch, .slice (some ⟨g, 0, none⟩) s s], .bool true]) (by simp [results, Try.results23, go_sem, r1, r2, r3]) rfl
              ⟨_, _, _, rfl, OwnA.mk (((HO3.out.other (by have := HG.out; simp; omega) _).other (by have := HG.out; simp; omega) _).other (by have := HG.out; simp; omega) _) (by have := HG.out; omega), by omega,
                ((HBr.out.setCell (by first | (simp; done) | (simp; omega)) _).setCell (by first | (simp; done) | (simp; omega)) _).setCell (by first | (simp; done) | (simp; omega)) _⟩

end Go.Proofs.Ytepaklcobkdfdaa
