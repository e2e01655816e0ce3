/-
  Contracts of the model's draws: pictures, plates, plates of a size.
-/
import Derived.Test.YtepaklcobkdfdaaR1
import Derived.Test.YtepaklcobkdfdaaC3
namespace Go.Proofs.Ytepaklcobkdfdaa
open Go.RowKit
set_option linter.unusedVariables false
set_option linter.unusedSimpArgs false

theorem within_set {xs : List Int} {m : Int} (h : within xs m = true) (k : Nat) (v : Int) (h0 : 0 ≤ v) (h1 : v ≤ m) : within (xs.set k v) m = true := by
  unfold within at h ⊢
  rw [List.all_eq_true] at h ⊢
  intro x hx
  rcases List.mem_or_eq_of_mem_set hx with h2 | h2
  · exact h x h2
  · subst h2; simp [h0, h1]

theorem within_zero (n : Nat) (m : Int) (h : 0 ≤ m) : within (List.replicate n 0) m = true := by
  unfold within
  rw [List.all_eq_true]
  intro x hx
  rw [List.mem_replicate] at hx
  rw [hx.2]; simp [h]

theorem grown_setNew {a b : World} {row : Option Nat} {p : Addr} (h : a.grownBy b row) (hp : a.heap.size ≤ p.block) (u : Value) : a.grownBy (b.setCell p u) row :=
  ⟨h.os, h.tape, h.output, by have := h.size; simp [World.setCell]; omega, fun i hi hr => (Below.heap_setCell b p u i (by omega)).trans (h.block i hi hr)⟩

theorem grown_bel {a b c : World} {row : Option Nat} (h : a.grownBy b row) (hb : Below b.heap.size b c) : a.grownBy c row := grown_trans h (grown_of_below hb)

theorem grown_to_below {w w1 w2 : World} {c : Nat} (h : Below w.heap.size w w1) (hg : w1.grownBy w2 (some c)) (hc : w.heap.size ≤ c) : Below w.heap.size w w2 :=
  h.grown hg h.size (fun k hk => by cases hk; exact hc)

theorem sizeOk_small {W H m : Int} (h1 : 1 ≤ W) (h2 : W ≤ m) (h3 : 1 ≤ H) (h4 : H ≤ m) (hm : m ≤ 16) : sizeOk W H = true := by
  have e : W * H ≤ 16 * 16 := Int.mul_le_mul (by omega) (by omega) (by omega) (by omega)
  unfold sizeOk
  rw [decide_eq_true_iff]
  omega

/-- A new picture is handed back by a function that moves the cursor c. -/
def DrawOut (w : World) (c : Nat) (ac : Option Addr) (nc capc : Nat) (bs : List Int) (most ink : Int) (e : Ending) (w' : World) : Prop :=
  ∃ (W H : Int) (g n : Nat) (xs : List Int), e = .returned (.agg #[.int .i64 W, .int .i64 H, .slice (some ⟨g, 0, none⟩) n n]) ∧ 1 ≤ W ∧ W ≤ most ∧ 1 ≤ H ∧ H ≤ most ∧ (n : Int) = W * H ∧ w.heap.size ≤ g ∧ Own w' g n n xs ∧ within xs ink = true ∧ Cur w' c ac nc capc bs ∧ w.grownBy w' (some c)

theorem rd_lit6 (w : World) (a b c d e f : Int) (T : Nat) : Rd (w.alloc (.cells #[.int .i64 a, .int .i64 b, .int .i64 c, .int .i64 d, .int .i64 e, .int .i64 f] T)) (some ⟨w.heap.size, 0, none⟩) [a, b, c, d, e, f] := by
  intro k hk
  refine ⟨w.heap.size, 0, rfl, by simp, ?_⟩
  rw [Nat.zero_add, (Blk.new w T _).cell k]
  match k, hk with
  | 0, _ => rfl
  | 1, _ => rfl
  | 2, _ => rfl
  | 3, _ => rfl
  | 4, _ => rfl
  | 5, _ => rfl

theorem ramp_bd' {W d : Int} {k : Nat} (hW : 1 ≤ W) (hd : 1 ≤ d) (hd2 : W - 1 ≤ d) : 0 ≤ (k : Int) % W * 255 / d ∧ (k : Int) % W * 255 / d ≤ 255 := by
  have e1 : 0 ≤ (k : Int) % W := Int.emod_nonneg _ (by omega)
  have e2 : (k : Int) % W < W := Int.emod_lt_of_pos _ (by omega)
  constructor
  · exact Int.ediv_nonneg (by omega) (by omega)
  · have : (k : Int) % W * 255 / d < 256 := Int.ediv_lt_of_lt_mul (by omega) (by omega)
    omega

set_option maxHeartbeats 3200000 in
theorem spec_l1Draw (c : Nat) (ac : Option Addr) (nc capc : Nat) (bs : List Int) (most : Int) (w : World) (hc : Cur w c ac nc capc bs) (h1 : 1 ≤ most) (h2 : most ≤ 16) :
    Calls Try.prog 40 #[.pointer (some ⟨c, 0, none⟩), .int .i64 most] w (DrawOut w c ac nc capc bs most 255) := by
  have hcl := hc.lt
  go_enter Try.func40, Try.ntmps40
  go_wp2_with fail
  refine (spec_l01Below c ac nc capc bs most _ (hc.alloc _) h1 (by omega)).mono ?_
  rintro e w1 ⟨v1, rfl, a0, a1, hc1, hg1⟩
  have HC1 := Lib.hid hc1
  have G1 := Lib.hid (grown_trans (World.grownBy_alloc w (.cells #[.int .i64 0, .int .i64 0, .slice none 0 0] 34) (some c)) hg1)
  have KR1 := Lib.hid ((Blk.new w 34 #[.int .i64 0, .int .i64 0, .slice none 0 0]).grown hg1 (by intro e; have := Option.some.inj e; omega))
  clear hc1 hg1
  go_wp2_with fail
  refine (spec_l01Below c ac nc capc bs most _ HC1.out h1 (by omega)).mono ?_
  rintro e w2 ⟨v2, rfl, b0, b1, hc2, hg2⟩
  have HC2 := Lib.hid hc2
  have G2 := Lib.hid (grown_trans G1.out hg2)
  have KR2 := Lib.hid (KR1.out.grown hg2 (by intro e; have := Option.some.inj e; omega))
  clear hc2 hg2
  have HS := Lib.hid (sizeOk_small (W := 1 + v1) (H := 1 + v2) (m := most) (by omega) (by omega) (by omega) (by omega) h2)
  obtain ⟨n, hq⟩ : ∃ n : Nat, (n : Int) = (1 + v1) * (1 + v2) := ⟨_, (toNat_mul HS.out).1⟩
  have HQ := Lib.hid hq
  obtain ⟨s1, s2, s3, s4, s5, s6⟩ := sizeOk_bd HS.out
  have hn1 : 1 ≤ n := by omega
  have hn2 : n ≤ 1024 := by omega
  clear hq
  go_wp2_with fail
  refine (spec_l1Empty (1 + v1) (1 + v2) n _ HS.out HQ.out).mono ?_
  rintro e w3 ⟨g, rfl, hg, ho, hb⟩
  have HC3 := Lib.hid (HC2.out.below' hb)
  have G3 := Lib.hid (grown_bel G2.out hb)
  have KR3 := Lib.hid (KR2.out.below' hb)
  have HO3 := Lib.hid ho
  have HG : Hid (w.heap.size + 1 ≤ g) := Lib.hid (by have := KR2.out.lt; omega)
  clear hb hg ho
  go_wp2_with fail
  refine (spec_l01Below c ac nc capc bs 4 _ (HC3.out.alloc _) (by omega) (by omega)).mono ?_
  rintro e w4 ⟨v4, rfl, d0, d1, hc4, hg4⟩
  have HC4 := Lib.hid hc4
  have G4 := Lib.hid (grown_trans (grown_trans G3.out (World.grownBy_alloc _ _ _)) hg4)
  have KR4 := Lib.hid ((KR3.out.alloc (.cells #[.int .i64 (1 + v1), .int .i64 (1 + v2), .slice (some ⟨g, 0, none⟩) n n] 34)).grown hg4 (by intro e; have := Option.some.inj e; omega))
  have KB4 := Lib.hid ((Blk.new w3 34 #[.int .i64 (1 + v1), .int .i64 (1 + v2), .slice (some ⟨g, 0, none⟩) n n]).grown hg4 (by intro e; have := Option.some.inj e; have := G3.out.size; omega))
  have HO4 := Lib.hid ((HO3.out.alloc (.cells #[.int .i64 (1 + v1), .int .i64 (1 + v2), .slice (some ⟨g, 0, none⟩) n n] 34)).grown hg4 (by intro e; have := Option.some.inj e; have := HG.out; omega))
  obtain ⟨l0, o0, o1, o2⟩ := KB4.out.c3
  clear hc4 hg4
  go_wp2_with fail
  go_loopw [22] (fun i wr => ∃ (k : Nat) (xs : List Int), k ≤ n ∧ i = .int .i64 k ∧ Own wr g n n xs ∧ Hid (within xs 255 = true) ∧ Blk wr w3.heap.size 34 #[.int .i64 (1 + v1), .int .i64 (1 + v2), .slice (some ⟨g, 0, none⟩) n n] ∧ Blk wr w.heap.size 34 #[.int .i64 0, .int .i64 0, .slice none 0 0] ∧ Cur wr c ac nc capc bs ∧ w.grownBy wr (some c)) (fun i _ => n - (intOf i).toNat)
  case atStart => exact ⟨0, _, Nat.zero_le _, rfl, HO4.out, within_zero n 255 (by omega), KB4.out, KR4.out, HC4.out, G4.out⟩
  case round =>
    obtain ⟨k, xs, hk, rfl, ho, HX, hb1, hb2, hcr, hgr⟩ := hrel
    have HO := Lib.hid ho
    have KB := Lib.hid hb1
    have KR := Lib.hid hb2
    have HC := Lib.hid hcr
    have HGr := Lib.hid hgr
    clear o0 o1 o2 l0
    obtain ⟨l0, o0, o1, o2⟩ := KB.out.c3
    have gl := ho.lt
    have N3 : w.heap.size < w3.heap.size := KR3.out.lt
    have N2 : g ≠ w3.heap.size := by have := HO3.out.lt; omega
    have N1 : g ≠ w.heap.size := by have := HG.out; omega
    have N4 : c < g := by have := HG.out; omega
    clear ho hb1 hb2 hcr hgr
    by_cases hlt : k < n
    · by_cases k0 : v4 = 0
      · subst k0
        go_wp2_with fail
        go_region_held3 (fun v => v.cell? ⟨w3.heap.size, 2, none⟩ = some (.slice (some ⟨g, 0, none⟩) n n))
          (first | exact o2 | exact z2 | exact cell_far z2 N2)
          (first
            | (go_at_call 52; ((with_reducible refine (spec_l01Below c ac nc capc bs 256 _ (by exact HC.out.drew) (by omega) (by omega)).mono ?_); rintro e v1' ⟨x, rfl, x0, x1, hcv, hgv⟩; have HOv := Lib.hid ((HO.out.drewN 1).grown hgv (by intro e; have := Option.some.inj e; omega)); have KBv := Lib.hid (KB.out.drew.grown hgv (by intro e; have := Option.some.inj e; omega)); have KRv := Lib.hid (KR.out.drew.grown hgv (by intro e; have := Option.some.inj e; omega)); obtain ⟨lv, z0, z1, z2⟩ := KBv.out.c3; have t2 := HOv.out.cell hlt; have t3 := HOv.out.frozen k)))
        have HCv := Lib.hid hcv
        have HGv := Lib.hid (grown_trans (grown_drewN HGr.out 1) hgv)
        have hx2 : x ≤ 255 := by omega
        clear hcv hgv
        go_wp2_with fail
        go_roundw
        case rel => exact ⟨k + 1, xs.set k x, by omega, by go_num, HOv.out.set k x, within_set HX.out k x x0 hx2, KBv.out.other (by simp; omega) _, KRv.out.other (by simp; omega) _, HCv.out.other (by simp; omega) _, grown_setNew HGv.out (by have := HG.out; simp; omega) _⟩
        case measure => simp [intOf]; omega
      · have q0 : (v4 == 0) = false := by simpa using k0
        by_cases k1 : v4 = 1
        · subst k1
          clear q0 k0
          go_wp2_with fail
          go_region_held3 (fun v => v.cell? ⟨w3.heap.size, 2, none⟩ = some (.slice (some ⟨g, 0, none⟩) n n))
            (first | exact o2 | exact z2 | exact cell_al o2 | exact cell_far z2 N2)
            (first
              | (go_at_call 71; ((with_reducible refine (spec_l01Int c ac nc capc bs _ 6 6 [0, 255, 128, 127, 1, 254] _ (by exact (HC.out.alloc _).drew) rfl (by exact (rd_lit6 _ _ _ _ _ _ _ _).drew) (by intro b off e; have := HC.out.lt; cases e; omega) (by omega) (by omega)).mono ?_); rintro e v1' ⟨x, rfl, hxm, hcv, hgv⟩; have HOv := Lib.hid (((HO.out.alloc _).drewN 1).grown hgv (by intro e; have := Option.some.inj e; omega)); have KBv := Lib.hid ((KB.out.alloc _).drew.grown hgv (by intro e; have := Option.some.inj e; omega)); have KRv := Lib.hid ((KR.out.alloc _).drew.grown hgv (by intro e; have := Option.some.inj e; omega)); obtain ⟨lv, z0, z1, z2⟩ := KBv.out.c3; have t2 := HOv.out.cell hlt; have t3 := HOv.out.frozen k)))
          have HCv := Lib.hid hcv
          have HGv := Lib.hid (grown_trans (grown_drewN (grown_trans HGr.out (World.grownBy_alloc _ _ _)) 1) hgv)
          have hx2 : 0 ≤ x ∧ x ≤ 255 := by simp at hxm; omega
          obtain ⟨x0, hx2⟩ := hx2
          clear hcv hgv hxm
          go_wp2_with fail
          go_roundw
          case rel => exact ⟨k + 1, xs.set k x, by omega, by go_num, HOv.out.set k x, within_set HX.out k x x0 hx2, KBv.out.other (by simp; omega) _, KRv.out.other (by simp; omega) _, HCv.out.other (by simp; omega) _, grown_setNew HGv.out (by have := HG.out; simp; omega) _⟩
          case measure => simp [intOf]; omega
        · have q1 : (v4 == 1) = false := by simpa using k1
          by_cases k2 : v4 = 2
          · subst k2
            clear q0 k0 q1 k1
            go_wp2_with fail
            go_region_held3 (fun v => v.cell? ⟨w3.heap.size, 2, none⟩ = some (.slice (some ⟨g, 0, none⟩) n n))
              (first | exact o2 | exact z2 | exact cell_far z2 N2)
              (first
                | (go_at_call 52; ((with_reducible refine (spec_l01Below c ac nc capc bs 2 _ (by exact HC.out.drew) (by omega) (by omega)).mono ?_); rintro e v1' ⟨x, rfl, x0, x1, hcv, hgv⟩; have HOv := Lib.hid ((HO.out.drewN 1).grown hgv (by intro e; have := Option.some.inj e; omega)); have KBv := Lib.hid (KB.out.drew.grown hgv (by intro e; have := Option.some.inj e; omega)); have KRv := Lib.hid (KR.out.drew.grown hgv (by intro e; have := Option.some.inj e; omega)); obtain ⟨lv, z0, z1, z2⟩ := KBv.out.c3; have t2 := HOv.out.cell hlt; have t3 := HOv.out.frozen k)))
            have HCv := Lib.hid hcv
            have HGv := Lib.hid (grown_trans (grown_drewN HGr.out 1) hgv)
            have hx2 : x ≤ 255 := by omega
            clear hcv hgv
            go_wp2_with fail
            go_roundw
            case rel => exact ⟨k + 1, xs.set k x, by omega, by go_num, HOv.out.set k x, within_set HX.out k x x0 hx2, KBv.out.other (by simp; omega) _, KRv.out.other (by simp; omega) _, HCv.out.other (by simp; omega) _, grown_setNew HGv.out (by have := HG.out; simp; omega) _⟩
            case measure => simp [intOf]; omega
          · have q2 : (v4 == 2) = false := by simpa using k2
            clear k0 k1 k2
            have e1 : 0 ≤ (k : Int) % (1 + v1) := Int.emod_nonneg _ (by omega)
            have e2 : (k : Int) % (1 + v1) < 1 + v1 := Int.emod_lt_of_pos _ (by omega)
            have g2 := HO.out.cell hlt
            have g3 := HO.out.frozen k
            go_wp2_with fail
            go_region
            go_wp2_with fail
            go_roundw
            case rel =>
              obtain ⟨u0, u1⟩ := ramp_bd' (W := 1 + v1) (k := k) (d := if 1 < 1 + v1 - 1 then 1 + v1 - 1 else 1) s1 (by split <;> omega) (by split <;> omega)
              exact ⟨k + 1, _, by omega, by go_num, (HO.out.set k _).drewN 1, within_set HX.out k _ u0 u1, (KB.out.other (by simp; omega) _).drew, (KR.out.other (by simp; omega) _).drew, (HC.out.other (by simp; omega) _).drew, grown_drewN (grown_setNew HGr.out (by have := HG.out; simp; omega) _) 1⟩
            case measure => simp [intOf]; omega
    · obtain rfl : n = k := by omega
      obtain ⟨r0, r1, r2, r3⟩ := KR.out.c3
      obtain ⟨q0, q1, q2⟩ := KR.out.f3
      go_wp2_with fail
      exact bodyPost_ret (v := .agg #[.int .i64 (1 + v1), .int .i64 (1 + v2), .slice (some ⟨g, 0, none⟩) n n]) (by simp [results, Try.results40, go_sem, r1, r2, r3]) rfl
        ⟨_, _, g, n, xs, rfl, by omega, by omega, by omega, by omega, HQ.out, by have := HG.out; omega, ((HO.out.other (by simp; omega) _).other (by simp; omega) _).other (by simp; omega) _, HX.out,
          ((HC.out.other (by simp; omega) _).other (by simp; omega) _).other (by simp; omega) _, grown_setNew (grown_setNew (grown_setNew HGr.out (by simp) _) (by simp) _) (by simp) _⟩

/-- A new picture is handed back. -/
def MakeOut (w : World) (most ink : Int) (e : Ending) (w' : World) : Prop :=
  ∃ (W H : Int) (g n : Nat) (xs : List Int), e = .returned (.agg #[.int .i64 W, .int .i64 H, .slice (some ⟨g, 0, none⟩) n n]) ∧ 1 ≤ W ∧ W ≤ most ∧ 1 ≤ H ∧ H ≤ most ∧ (n : Int) = W * H ∧ w.heap.size ≤ g ∧ Own w' g n n xs ∧ within xs ink = true ∧ Below w.heap.size w w'

set_option maxHeartbeats 800000 in
theorem spec_MakePicture (ac : Option Addr) (nc capc : Nat) (bs : List Int) (most : Int) (w : World) (hl : bs.length = nc) (hr : RdU w.heap.size w ac bs) (hn : nc ≤ 4611686018427387904) (h1 : 1 ≤ most) (h2 : most ≤ 16) :
    Calls Try.prog 16 #[.slice ac nc capc, .int .i64 most] w (MakeOut w most 255) := by
  by_cases hm : 1 < most
  · go_enter Try.func16, Try.ntmps16
    go_wp2_with fail
    refine (spec_l01New ac nc capc bs _ hl ((hr.below (Joins.below_alloc1 _ _)).mono (by simp)) hn).mono ?_
    rintro e w1 ⟨c, rfl, hcs, hc1, hb1⟩
    have KR1 := Lib.hid ((Blk.new w 34 #[.int .i64 0, .int .i64 0, .slice none 0 0]).below' hb1)
    have HB1 := Lib.hid (bTrans (Joins.below_alloc1 w (.cells #[.int .i64 0, .int .i64 0, .slice none 0 0] 34)) hb1)
    have hcs2 : w.heap.size + 1 ≤ c := by simpa using hcs
    clear hb1 hcs
    go_wp2_with fail
    refine (spec_l1Draw c ac nc capc bs _ _ hc1 (by omega) (by omega)).mono ?_
    rintro e w2 ⟨W, H, g, n, xs, rfl, p1, p2, p3, p4, hq, hg, ho, hx, hc2, hg2⟩
    have HB2 := Lib.hid (grown_to_below HB1.out hg2 (by omega))
    have KR := Lib.hid (KR1.out.grown hg2 (by intro e; have := Option.some.inj e; omega))
    have HG : Hid (w.heap.size < g) := Lib.hid (by have := KR1.out.lt; omega)
    have HO := Lib.hid ho
    have HX := Lib.hid hx
    have HQ := Lib.hid hq
    have hn2 : n ≤ 1024 := by have := (sizeOk_bd (sizeOk_small p1 p2 p3 p4 h2)).2.2.2.2.1; omega
    clear ho hx hq hg hg2 hc1 hc2
    obtain ⟨r0, r1, r2, r3⟩ := KR.out.c3
    obtain ⟨q0, q1, q2⟩ := KR.out.f3
    go_wp2_with fail
    exact bodyPost_ret (v := .agg #[.int .i64 W, .int .i64 H, .slice (some ⟨g, 0, none⟩) n n]) (by simp [results, Try.results16, go_sem, r1, r2, r3]) rfl
      ⟨W, H, g, n, xs, rfl, p1, p2, p3, p4, HQ.out, by have := HG.out; omega, ((HO.out.other (by have := HG.out; simp; omega) _).other (by have := HG.out; simp; omega) _).other (by have := HG.out; simp; omega) _, HX.out,
        ((HB2.out.setCell (by simp) _).setCell (by simp) _).setCell (by simp) _⟩
  · obtain rfl : most = 1 := by omega
    go_enter Try.func16, Try.ntmps16
    go_wp2_with fail
    refine (spec_l01New ac nc capc bs _ hl ((hr.below (Joins.below_alloc1 _ _)).mono (by simp)) hn).mono ?_
    rintro e w1 ⟨c, rfl, hcs, hc1, hb1⟩
    have KR1 := Lib.hid ((Blk.new w 34 #[.int .i64 0, .int .i64 0, .slice none 0 0]).below' hb1)
    have HB1 := Lib.hid (bTrans (Joins.below_alloc1 w (.cells #[.int .i64 0, .int .i64 0, .slice none 0 0] 34)) hb1)
    have hcs2 : w.heap.size + 1 ≤ c := by simpa using hcs
    clear hb1 hcs
    go_wp2_with fail
    refine (spec_l1Draw c ac nc capc bs _ _ hc1 (by omega) (by omega)).mono ?_
    rintro e w2 ⟨W, H, g, n, xs, rfl, p1, p2, p3, p4, hq, hg, ho, hx, hc2, hg2⟩
    have HB2 := Lib.hid (grown_to_below HB1.out hg2 (by omega))
    have KR := Lib.hid (KR1.out.grown hg2 (by intro e; have := Option.some.inj e; omega))
    have HG : Hid (w.heap.size < g) := Lib.hid (by have := KR1.out.lt; omega)
    have HO := Lib.hid ho
    have HX := Lib.hid hx
    have HQ := Lib.hid hq
    have hn2 : n ≤ 1024 := by have := (sizeOk_bd (sizeOk_small p1 p2 p3 p4 h2)).2.2.2.2.1; omega
    clear ho hx hq hg hg2 hc1 hc2
    obtain ⟨r0, r1, r2, r3⟩ := KR.out.c3
    obtain ⟨q0, q1, q2⟩ := KR.out.f3
    go_wp2_with fail
    exact bodyPost_ret (v := .agg #[.int .i64 W, .int .i64 H, .slice (some ⟨g, 0, none⟩) n n]) (by simp [results, Try.results16, go_sem, r1, r2, r3]) rfl
      ⟨W, H, g, n, xs, rfl, p1, p2, p3, p4, HQ.out, by have := HG.out; omega, ((HO.out.other (by have := HG.out; simp; omega) _).other (by have := HG.out; simp; omega) _).other (by have := HG.out; simp; omega) _, HX.out,
        ((HB2.out.setCell (by simp) _).setCell (by simp) _).setCell (by simp) _⟩

end Go.Proofs.Ytepaklcobkdfdaa
