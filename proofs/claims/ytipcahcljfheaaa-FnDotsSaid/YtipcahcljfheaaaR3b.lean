/-
  Contracts of the model's draws: a plate of a picture's size; a plate.
-/
import Derived.Test.YtipcahcljfheaaaR2b
namespace Go.Proofs.Ytipcahcljfheaaa
open Go.RowKit
set_option linter.unusedVariables false
set_option linter.unusedSimpArgs false

set_option maxHeartbeats 1600000 in
theorem spec_MakeLike (ac : Option Addr) (nc capc : Nat) (bs : List Int) (W H : Int) (ad : Option Addr) (m cap n : Nat) (w : World) (hl : bs.length = nc) (hr : RdU w.heap.size w ac bs) (hn : nc ≤ 4611686018427387904) (hs : sizeOk W H = true) (hq : (n : Int) = W * H) :
    Calls Try.prog 8 #[.slice ac nc capc, .agg #[.int .i64 W, .int .i64 H, .slice ad m cap]] w fun e w' =>
      ∃ (g : Nat) (xs : List Int), e = .returned (.agg #[.int .i64 W, .int .i64 H, .slice (some ⟨g, 0, none⟩) n n]) ∧ w.heap.size ≤ g ∧ Own w' g n n xs ∧ within xs 1 = true ∧ Below w.heap.size w w' := by
  obtain ⟨b1, b2, b3, b4, b5, b6⟩ := sizeOk_bd hs
  have HS := Lib.hid hs
  have HQ := Lib.hid hq
  have hn1 : 1 ≤ n := by omega
  have hn2 : n ≤ 1024 := by omega
  clear hs hq
  go_enter Try.func8, Try.ntmps8
  go_wp2_with fail
  refine (spec_l01New ac nc capc bs _ hl ((hr.below (Joins.below_alloc2 _ _ _)).mono (by simp; omega)) hn).mono ?_
  rintro e w1 ⟨c, rfl, hcs, hc1, hb1⟩
  have HB1 := Lib.hid (bTrans (Joins.below_alloc2 w (.cells #[.int .i64 W, .int .i64 H, .slice ad m cap] 25) (.cells #[.int .i64 0, .int .i64 0, .slice none 0 0] 25)) hb1)
  have KP1 := Lib.hid (((Blk.new w 25 #[.int .i64 W, .int .i64 H, .slice ad m cap]).alloc (.cells #[.int .i64 0, .int .i64 0, .slice none 0 0] 25)).below' hb1)
  have KR1 : Hid (Blk w1 (w.heap.size + 1) 25 #[.int .i64 0, .int .i64 0, .slice none 0 0]) := by
    have h := (Blk.new (w.alloc (.cells #[.int .i64 W, .int .i64 H, .slice ad m cap] 25)) 25 #[.int .i64 0, .int .i64 0, .slice none 0 0]).below' hb1
    exact Lib.hid (by simpa using h)
  have hcs2 : w.heap.size + 2 ≤ c := by simpa using hcs
  have HC1 := Lib.hid hc1
  clear hb1 hcs hc1
  obtain ⟨l1, c0, c1, c2⟩ := KP1.out.c3
  go_wp2_with fail
  refine (spec_l1Empty W H n _ HS.out HQ.out).mono ?_
  rintro e w3 ⟨g, rfl, hg, ho, hb⟩
  have HC3 := Lib.hid (HC1.out.below' hb)
  have HB3 := Lib.hid (bTrans HB1.out hb)
  have KR3 := Lib.hid (KR1.out.below' hb)
  have HO3 := Lib.hid ho
  have hgc : c < g := by have := HC1.out.lt; omega
  clear hb hg ho
  go_wp2_with fail
  go_loopw [18] (fun i wr => ∃ (k : Nat) (xs : List Int), k ≤ n ∧ i = .int .i64 k ∧ Own wr g n n xs ∧ Hid (within xs 1 = true) ∧ Blk wr w3.heap.size 25 #[.int .i64 (W), .int .i64 (H), .slice (some ⟨g, 0, none⟩) n n] ∧ Blk wr (w.heap.size + 1) 25 #[.int .i64 0, .int .i64 0, .slice none 0 0] ∧ Cur wr c ac nc capc bs ∧ Below w.heap.size w wr) (fun i _ => n - (intOf i).toNat)
  case atStart => exact ⟨0, _, Nat.zero_le _, rfl, HO3.out.alloc _, within_zero n 1 (by omega), Blk.new _ _ _, KR3.out.alloc _, HC3.out.alloc _, bAlloc HB3.out _⟩
  case round =>
    obtain ⟨k, xs, hk, rfl, ho, HX, hb1, hb2, hcr, hbr⟩ := hrel
    have HO := Lib.hid ho
    have KB := Lib.hid hb1
    have KR := Lib.hid hb2
    have HC := Lib.hid hcr
    have HBr := Lib.hid hbr
    obtain ⟨l0, o0, o1, o2⟩ := KB.out.c3
    have gl := ho.lt
    have N3 : w.heap.size + 1 < w3.heap.size := KR3.out.lt
    have N2 : g ≠ w3.heap.size := by have := HO3.out.lt; omega
    have N5 : c < w3.heap.size := HC3.out.lt
    clear ho hb1 hb2 hcr hbr
    by_cases hlt : k < n
    · go_wp2_with fail
      go_region_held3 (fun v => v.cell? ⟨w3.heap.size, 2, none⟩ = some (.slice (some ⟨g, 0, none⟩) n n))
        (first | exact o2 | exact z2 | exact cell_far z2 N2)
        (first
          | (go_at_call 23; ((with_reducible refine (spec_l01Below c ac nc capc bs 2 _ (by exact HC.out.drew) (by omega) (by omega)).mono ?_); rintro e v1' ⟨x, rfl, x0, x1, hcv, hgv⟩; have HOv := Lib.hid ((HO.out.drewN 1).grown hgv (by intro e; have := Option.some.inj e; omega)); have KBv := Lib.hid (KB.out.drew.grown hgv (by intro e; have := Option.some.inj e; omega)); have KRv := Lib.hid (KR.out.drew.grown hgv (by intro e; have := Option.some.inj e; omega)); obtain ⟨lv, z0, z1, z2⟩ := KBv.out.c3; have t2 := HOv.out.cell hlt; have t3 := HOv.out.frozen k)))
      have HCv := Lib.hid hcv
      have HBv := Lib.hid (grown_to_below HBr.out.drew hgv (by omega))
      have hx2 : x ≤ 1 := by omega
      clear hcv hgv
      go_wp2_with fail
      go_roundw
      case rel => exact ⟨k + 1, xs.set k x, by omega, by go_num, HOv.out.set k x, within_set HX.out k x x0 hx2, KBv.out.other (by simp; omega) _, KRv.out.other (by simp; omega) _, HCv.out.other (by simp; omega) _, HBv.out.setCell (by simp; omega) _⟩
      case measure => simp [intOf]; omega
    · obtain rfl : n = k := by omega
      obtain ⟨r0, r1, r2, r3⟩ := KR.out.c3
      obtain ⟨q0, q1, q2⟩ := KR.out.f3
      go_wp2_with fail
      exact bodyPost_ret (v := .agg #[.int .i64 W, .int .i64 H, .slice (some ⟨g, 0, none⟩) n n]) (by simp [results, Try.results8, go_sem, r1, r2, r3]) rfl
        ⟨g, xs, rfl, by omega, ((HO.out.other (by simp; omega) _).other (by simp; omega) _).other (by simp; omega) _, HX.out, ((HBr.out.setCell (by simp) _).setCell (by simp) _).setCell (by simp) _⟩

set_option maxHeartbeats 3200000 in
theorem spec_MakePlate (ac : Option Addr) (nc capc : Nat) (bs : List Int) (most : Int) (w : World) (hl : bs.length = nc) (hr : RdU w.heap.size w ac bs) (hn : nc ≤ 4611686018427387904) (h1 : 2 ≤ most) (h2 : most ≤ 11) :
    Calls Try.prog 6 #[.slice ac nc capc, .int .i64 most] w (MakeOut w most 1) := by
  go_enter Try.func6, Try.ntmps6
  go_wp2_with fail
  refine (spec_l01New ac nc capc bs _ hl ((hr.below (Joins.below_alloc1 _ _)).mono (by simp)) hn).mono ?_
  rintro e w0 ⟨c, rfl, hcs, hc0, hb0⟩
  have HB0 := Lib.hid (bTrans (Joins.below_alloc1 w (.cells #[.int .i64 0, .int .i64 0, .slice none 0 0] 25)) hb0)
  have KR0 := Lib.hid ((Blk.new w 25 #[.int .i64 0, .int .i64 0, .slice none 0 0]).below' hb0)
  have hcs2 : w.heap.size + 1 ≤ c := by simpa using hcs
  have HC0 := Lib.hid hc0
  clear hb0 hcs hc0
  go_wp2_with fail
  refine (spec_l01Below c ac nc capc bs most _ HC0.out (by omega) (by omega)).mono ?_
  rintro e w1 ⟨v1, rfl, a0, a1, hc1, hg1⟩
  have HC1 := Lib.hid hc1
  have HB1 := Lib.hid (grown_to_below HB0.out hg1 (by omega))
  have KR1 := Lib.hid (KR0.out.grown hg1 (by intro e; have := Option.some.inj e; omega))
  clear hc1 hg1
  go_wp2_with fail
  refine (spec_l01Below c ac nc capc bs most _ HC1.out (by omega) (by omega)).mono ?_
  rintro e w2 ⟨v2, rfl, b0, b1, hc2, hg2⟩
  have HC2 := Lib.hid hc2
  have HB2 := Lib.hid (grown_to_below HB1.out hg2 (by omega))
  have KR2 := Lib.hid (KR1.out.grown hg2 (by intro e; have := Option.some.inj e; omega))
  clear hc2 hg2
  have HS := Lib.hid (sizeOk_small (W := 1 + v1) (H := 1 + v2) (m := most) (by omega) (by omega) (by omega) (by omega) (by omega))
  obtain ⟨n, hq⟩ : ∃ n : Nat, (n : Int) = (1 + v1) * (1 + v2) := ⟨_, (toNat_mul HS.out).1⟩
  have HQ := Lib.hid hq
  obtain ⟨s1, s2, s3, s4, s5, s6⟩ := sizeOk_bd HS.out
  have hn1 : 1 ≤ n := by omega
  have hn2 : n ≤ 1024 := by omega
  clear hq
  go_wp2_with fail
  refine (spec_l1Empty (1 + v1) (1 + v2) n _ HS.out HQ.out).mono ?_
  rintro e w3 ⟨g, rfl, hg, ho, hb⟩
  have HC3 := Lib.hid (HC2.out.below' hb)
  have HB3 := Lib.hid (bTrans HB2.out hb)
  have KR3 := Lib.hid (KR2.out.below' hb)
  have HO3 := Lib.hid ho
  have hgc : c < g := by have := HC2.out.lt; omega
  clear hb hg ho
  go_wp2_with fail
  refine (spec_l01Below c ac nc capc bs 4 _ (HC3.out.alloc _) (by omega) (by omega)).mono ?_
  rintro e w4 ⟨v4, rfl, d0, d1, hc4, hg4⟩
  have HC4 := Lib.hid hc4
  have HB4 := Lib.hid (grown_to_below (bAlloc HB3.out (.cells #[.int .i64 (1 + v1), .int .i64 (1 + v2), .slice (some ⟨g, 0, none⟩) n n] 25)) hg4 (by omega))
  have KR4 := Lib.hid ((KR3.out.alloc (.cells #[.int .i64 (1 + v1), .int .i64 (1 + v2), .slice (some ⟨g, 0, none⟩) n n] 25)).grown hg4 (by intro e; have := Option.some.inj e; omega))
  have KB4 := Lib.hid ((Blk.new w3 25 #[.int .i64 (1 + v1), .int .i64 (1 + v2), .slice (some ⟨g, 0, none⟩) n n]).grown hg4 (by intro e; have := Option.some.inj e; have := HC3.out.lt; omega))
  have HO4 := Lib.hid ((HO3.out.alloc (.cells #[.int .i64 (1 + v1), .int .i64 (1 + v2), .slice (some ⟨g, 0, none⟩) n n] 25)).grown hg4 (by intro e; have := Option.some.inj e; omega))
  obtain ⟨l0, o0, o1, o2⟩ := KB4.out.c3
  clear hc4 hg4
  go_wp2_with fail
  go_loopw [28] (fun i wr => ∃ (k : Nat) (xs : List Int), k ≤ n ∧ i = .int .i64 k ∧ Own wr g n n xs ∧ Hid (within xs 1 = true) ∧ Blk wr w3.heap.size 25 #[.int .i64 ((1 + v1)), .int .i64 ((1 + v2)), .slice (some ⟨g, 0, none⟩) n n] ∧ Blk wr (w.heap.size) 25 #[.int .i64 0, .int .i64 0, .slice none 0 0] ∧ Cur wr c ac nc capc bs ∧ Below w.heap.size w wr) (fun i _ => n - (intOf i).toNat)
  case atStart => exact ⟨0, _, Nat.zero_le _, rfl, HO4.out, within_zero n 1 (by omega), KB4.out, KR4.out, HC4.out, HB4.out⟩
  case round =>
    clear o0 o1 o2 l0
    obtain ⟨k, xs, hk, rfl, ho, HX, hb1, hb2, hcr, hbr⟩ := hrel
    have HO := Lib.hid ho
    have KB := Lib.hid hb1
    have KR := Lib.hid hb2
    have HC := Lib.hid hcr
    have HBr := Lib.hid hbr
    obtain ⟨l0, o0, o1, o2⟩ := KB.out.c3
    have gl := ho.lt
    have N3 : w.heap.size < w3.heap.size := KR3.out.lt
    have N2 : g ≠ w3.heap.size := by have := HO3.out.lt; omega
    have N5 : c < w3.heap.size := HC3.out.lt
    clear ho hb1 hb2 hcr hbr
    by_cases hlt : k < n
    · by_cases k0 : v4 = 0
      · subst k0
        go_wp2_with fail
        refine (spec_l01Once c ac nc capc bs 4 _ HC.out (by omega) (by omega)).mono ?_
        rintro e wq ⟨bb, rfl, hcq, hgq⟩
        have HO := Lib.hid (HO.out.grown hgq (by intro e; have := Option.some.inj e; omega))
        have KB := Lib.hid (KB.out.grown hgq (by intro e; have := Option.some.inj e; omega))
        have KR := Lib.hid (KR.out.grown hgq (by intro e; have := Option.some.inj e; omega))
        have HC := Lib.hid hcq
        have HBr := Lib.hid (grown_to_below HBr.out hgq (by omega))
        clear hcq hgq o0 o1 o2 l0
        obtain ⟨l0, o0, o1, o2⟩ := KB.out.c3
        cases bb
        · go_wp2_with fail
          go_roundw
          case rel => exact ⟨k + 1, xs, by omega, by go_num, HO.out, HX, KB.out, KR.out, HC.out, HBr.out⟩
          case measure => simp [intOf]; omega
        · go_wp2_with fail
          go_region_held3 (fun v => v.cell? ⟨w3.heap.size, 2, none⟩ = some (.slice (some ⟨g, 0, none⟩) n n))
            (first | exact o2 | exact z2 | exact cell_far z2 N2)
            (first
              | (go_at_call 23; ((with_reducible refine (spec_l01Below c ac nc capc bs 2 _ (by exact HC.out.drew) (by omega) (by omega)).mono ?_); rintro e v1' ⟨x, rfl, x0, x1, hcv, hgv⟩; have HOv := Lib.hid ((HO.out.drewN 1).grown hgv (by intro e; have := Option.some.inj e; omega)); have KBv := Lib.hid (KB.out.drew.grown hgv (by intro e; have := Option.some.inj e; omega)); have KRv := Lib.hid (KR.out.drew.grown hgv (by intro e; have := Option.some.inj e; omega)); obtain ⟨lv, z0, z1, z2⟩ := KBv.out.c3; have t2 := HOv.out.cell hlt; have t3 := HOv.out.frozen k)))
          have HCv := Lib.hid hcv
          have HBv := Lib.hid (grown_to_below HBr.out.drew hgv (by omega))
          have hx2 : x ≤ 1 := by omega
          clear hcv hgv
          go_wp2_with fail
          go_roundw
          case rel => exact ⟨k + 1, xs.set k x, by omega, by go_num, HOv.out.set k x, within_set HX.out k x x0 hx2, KBv.out.other (by simp; omega) _, KRv.out.other (by simp; omega) _, HCv.out.other (by simp; omega) _, HBv.out.setCell (by simp; omega) _⟩
          case measure => simp [intOf]; omega
      · have q0 : (v4 == 0) = false := by simpa using k0
        by_cases k1 : v4 = 1
        · subst k1
          clear q0 k0
          go_wp2_with fail
          refine (spec_l01Once c ac nc capc bs 4 _ HC.out (by omega) (by omega)).mono ?_
          rintro e wq ⟨bb, rfl, hcq, hgq⟩
          have HO := Lib.hid (HO.out.grown hgq (by intro e; have := Option.some.inj e; omega))
          have KB := Lib.hid (KB.out.grown hgq (by intro e; have := Option.some.inj e; omega))
          have KR := Lib.hid (KR.out.grown hgq (by intro e; have := Option.some.inj e; omega))
          have HC := Lib.hid hcq
          have HBr := Lib.hid (grown_to_below HBr.out hgq (by omega))
          clear hcq hgq o0 o1 o2 l0
          obtain ⟨l0, o0, o1, o2⟩ := KB.out.c3
          cases bb
          · go_wp2_with fail
            go_region_held3 (fun v => v.cell? ⟨w3.heap.size, 2, none⟩ = some (.slice (some ⟨g, 0, none⟩) n n))
              (first | exact o2 | exact z2 | exact cell_far z2 N2)
              (first
                | (go_at_call 23; ((with_reducible refine (spec_l01Below c ac nc capc bs 2 _ (by exact HC.out.drew) (by omega) (by omega)).mono ?_); rintro e v1' ⟨x, rfl, x0, x1, hcv, hgv⟩; have HOv := Lib.hid ((HO.out.drewN 1).grown hgv (by intro e; have := Option.some.inj e; omega)); have KBv := Lib.hid (KB.out.drew.grown hgv (by intro e; have := Option.some.inj e; omega)); have KRv := Lib.hid (KR.out.drew.grown hgv (by intro e; have := Option.some.inj e; omega)); obtain ⟨lv, z0, z1, z2⟩ := KBv.out.c3; have t2 := HOv.out.cell hlt; have t3 := HOv.out.frozen k)))
            have HCv := Lib.hid hcv
            have HBv := Lib.hid (grown_to_below HBr.out.drew hgv (by omega))
            have hx2 : x ≤ 1 := by omega
            clear hcv hgv
            go_wp2_with fail
            go_roundw
            case rel => exact ⟨k + 1, xs.set k x, by omega, by go_num, HOv.out.set k x, within_set HX.out k x x0 hx2, KBv.out.other (by simp; omega) _, KRv.out.other (by simp; omega) _, HCv.out.other (by simp; omega) _, HBv.out.setCell (by simp; omega) _⟩
            case measure => simp [intOf]; omega
          · go_wp2_with fail
            go_roundw
            case rel => exact ⟨k + 1, xs, by omega, by go_num, HO.out, HX, KB.out, KR.out, HC.out, HBr.out⟩
            case measure => simp [intOf]; omega
        · have q1 : (v4 == 1) = false := by simpa using k1
          have q2 : 1 < v4 := by omega
          clear k0 k1
          go_wp2_with fail
          go_region_held3 (fun v => v.cell? ⟨w3.heap.size, 2, none⟩ = some (.slice (some ⟨g, 0, none⟩) n n))
            (first | exact o2 | exact z2 | exact cell_far z2 N2)
            (first
              | (go_at_call 23; ((with_reducible refine (spec_l01Below c ac nc capc bs 2 _ (by exact HC.out.drew) (by omega) (by omega)).mono ?_); rintro e v1' ⟨x, rfl, x0, x1, hcv, hgv⟩; have HOv := Lib.hid ((HO.out.drewN 1).grown hgv (by intro e; have := Option.some.inj e; omega)); have KBv := Lib.hid (KB.out.drew.grown hgv (by intro e; have := Option.some.inj e; omega)); have KRv := Lib.hid (KR.out.drew.grown hgv (by intro e; have := Option.some.inj e; omega)); obtain ⟨lv, z0, z1, z2⟩ := KBv.out.c3; have t2 := HOv.out.cell hlt; have t3 := HOv.out.frozen k)))
          have HCv := Lib.hid hcv
          have HBv := Lib.hid (grown_to_below HBr.out.drew hgv (by omega))
          have hx2 : x ≤ 1 := by omega
          clear hcv hgv
          go_wp2_with fail
          go_roundw
          case rel => exact ⟨k + 1, xs.set k x, by omega, by go_num, HOv.out.set k x, within_set HX.out k x x0 hx2, KBv.out.other (by simp; omega) _, KRv.out.other (by simp; omega) _, HCv.out.other (by simp; omega) _, HBv.out.setCell (by simp; omega) _⟩
          case measure => simp [intOf]; omega
    · obtain rfl : n = k := by omega
      obtain ⟨r0, r1, r2, r3⟩ := KR.out.c3
      obtain ⟨q0, q1, q2⟩ := KR.out.f3
      go_wp2_with fail
      exact bodyPost_ret (v := .agg #[.int .i64 (1 + v1), .int .i64 (1 + v2), .slice (some ⟨g, 0, none⟩) n n]) (by simp [results, Try.results6, go_sem, r1, r2, r3]) rfl
        ⟨_, _, g, n, xs, rfl, by omega, by omega, by omega, by omega, HQ.out, by omega, ((HO.out.other (by simp; omega) _).other (by simp; omega) _).other (by simp; omega) _, HX.out, ((HBr.out.setCell (by simp) _).setCell (by simp) _).setCell (by simp) _⟩

end Go.Proofs.Ytipcahcljfheaaa
