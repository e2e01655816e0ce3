/-
  Contracts of the model's draws: a matrix.
-/
import Derived.Test.YtgepjfdnlnemjaaR5
import Derived.Test.YtgepjfdnlnemjaaR2
namespace Go.Proofs.Ytgepjfdnlnemjaa
open Go.RowKit
set_option linter.unusedVariables false
set_option linter.unusedSimpArgs false

theorem icount_set (xs : List Int) (i : Nat) (a v : Int) (h : i < xs.length) : icount v (xs.set i a) + (if xs.getD i 0 = v then 1 else 0) = icount v xs + (if a = v then 1 else 0) := by
  induction xs generalizing i with
  | nil => simp at h
  | cons x xs ih =>
    match i with
    | 0 =>
      simp only [List.set_cons_zero, icount_cons, List.getD_cons_zero]
      omega
    | i + 1 =>
      simp only [List.set_cons_succ, icount_cons, List.getD_cons_succ]
      have := ih i (by simpa using h)
      omega

theorem icount_swap (xs : List Int) (i k : Nat) (v : Int) (hi : i < xs.length) (hk : k < xs.length) : icount v ((xs.set i (xs.getD k 0)).set k (xs.getD i 0)) = icount v xs := by
  have h1 := icount_set xs i (xs.getD k 0) v hi
  have h2 := icount_set (xs.set i (xs.getD k 0)) k (xs.getD i 0) v (by simpa using hk)
  rw [getD_set _ _ _ _ hi] at h2
  by_cases e : i = k
  · subst e; simp only [if_true] at h2; omega
  · rw [if_neg e] at h2; omega

theorem swap_nodup {xs : List Int} {i k : Nat} (hi : i < xs.length) (hk : k < xs.length) (h : xs.Nodup) : ((xs.set i (xs.getD k 0)).set k (xs.getD i 0)).Nodup :=
  nodup_of_icount (fun v => by rw [icount_swap xs i k v hi hk]; exact icount_nodup h v)

theorem inR_set {xs : List Int} {n : Nat} (h : inR xs n = true) (k : Nat) (v : Int) (h0 : 0 ≤ v) (h1 : v < (n : Int)) : inR (xs.set k v) n = true := by
  unfold inR at h ⊢
  rw [List.all_eq_true] at h ⊢
  intro x hx
  rcases List.mem_or_eq_of_mem_set hx with h2 | h2
  · exact h x h2
  · subst h2; simp [h0, h1]

theorem row_inR (n : Nat) : inR (gen n (fun i => (i : Int))) n = true := inR_gen (fun i hi => ⟨by omega, by omega⟩)

theorem row_nodup (n : Nat) : (gen n (fun i => (i : Int))).Nodup := by
  unfold gen List.Nodup
  rw [List.pairwise_map]
  exact List.nodup_range.imp (fun h => by omega)

/-- A new matrix is handed back by a function that moves the cursor c. -/
def DrawMat (w : World) (c : Nat) (ac : Option Addr) (nc capc : Nat) (bs : List Int) (e : Ending) (w' : World) : Prop :=
  ∃ (W H : Int) (a : Option Addr) (n cp : Nat) (xs : List Int), e = .returned (.agg #[.int .i64 W, .int .i64 H, .slice a n cp]) ∧ matOk W H xs = true ∧ W ≤ 16 ∧ H ≤ 16 ∧ OwnA w' w.heap.size a n cp xs ∧ Cur w' c ac nc capc bs ∧ w.grownBy w' (some c)

theorem small_size {v1 v2 : Int} (a0 : 0 ≤ v1) (a1 : v1 < 5) (b0 : 0 ≤ v2) (b1 : v2 < 5) : matSize (1 + v1) (1 + v2) = true := by
  have e : (1 + v1) * (1 + v2) ≤ 5 * 5 := Int.mul_le_mul (by omega) (by omega) (by omega) (by omega)
  exact matSize_mk (by omega) (by omega) (by omega)

/-- Some matrix and true are handed back, in new memory. -/
def SomeMat (w : World) (e : Ending) (w' : World) : Prop :=
  ∃ (W H : Int) (a : Option Addr) (n cp : Nat) (xs : List Int), e = .returned (.tuple #[.agg #[.int .i64 W, .int .i64 H, .slice a n cp], .bool true]) ∧ matOk W H xs = true ∧ W ≤ 16 ∧ H ≤ 16 ∧ OwnA w' w.heap.size a n cp xs ∧ Below w.heap.size w w'

theorem pow2_16 {j : Nat} (h : j ≤ 4) : (2 : Int) ^ j ≤ 16 := by
  match j, h with
  | 0, _ => decide
  | 1, _ => decide
  | 2, _ => decide
  | 3, _ => decide
  | 4, _ => decide

theorem bayer_some (k : Int) (w : World) (h0 : 0 ≤ k) (h1 : k ≤ 4) : Calls Try.prog 79 #[.int .i64 k] w (SomeMat w) := by
  obtain ⟨j, rfl⟩ : ∃ j : Nat, k = (j : Int) := ⟨k.toNat, by omega⟩
  refine (spec_BayerMatrix _ _).mono ?_
  rintro e w' ⟨a, n, c, he, ho, hn, hb⟩
  rw [bayerF_yes (by omega)] at he ho
  obtain ⟨m1, m2, m3, m4⟩ := bayer_ok j (by omega)
  exact ⟨_, _, a, n, c, _, he, m1, by rw [m3]; exact pow2_16 (by omega), by rw [m4]; exact pow2_16 (by omega), ho, hb⟩

theorem spiral_some (k : Int) (w : World) (h0 : 1 ≤ k) (h1 : k ≤ 16) : Calls Try.prog 80 #[.int .i64 k] w (SomeMat w) := by
  obtain ⟨j, rfl⟩ : ∃ j : Nat, k = (j : Int) := ⟨k.toNat, by omega⟩
  refine (spec_SpiralMatrix _ _).mono ?_
  rintro e w' ⟨a, n, c, he, ho, hn, hb⟩
  rw [spiralF_yes (by omega) (by omega)] at he ho
  exact ⟨_, _, a, n, c, _, he, (sp_facts j (by omega) (by omega)).2, by simp; omega, by simp; omega, ho, hb⟩

/-- A matrix of rows in a row of the call's own. -/
theorem row_some (v1 v2 : Int) (w : World) (a0 : 0 ≤ v1) (a1 : v1 < 5) (b0 : 0 ≤ v2) (b1 : v2 < 5) : Calls Try.prog 81 #[.int .i64 (1 + v1), .int .i64 (1 + v2)] w fun e w' =>
    ∃ (g n cp : Nat) (xs : List Int), e = .returned (.tuple #[.agg #[.int .i64 (1 + v1), .int .i64 (1 + v2), .slice (some ⟨g, 0, none⟩) n cp], .bool true]) ∧ (n : Int) = (1 + v1) * (1 + v2) ∧ inR xs n = true ∧ xs.Nodup ∧ w.heap.size ≤ g ∧ Own w' g n cp xs ∧ Below w.heap.size w w' := by
  have hs := small_size a0 a1 b0 b1
  obtain ⟨n, hq⟩ : ∃ n : Nat, (n : Int) = (1 + v1) * (1 + v2) := ⟨_, (toNat_mulM hs).1⟩
  refine (spec_RowMatrix _ _ _).mono ?_
  rintro e w' ⟨a, m, c, he, ho, hn, hb⟩
  rw [rowF_yes hs hq] at he ho
  have hm : n = m := by have := ho.len; simp only [gen_len] at this; exact this
  subst hm
  obtain ⟨_, _, _, _, _, h6⟩ := matSize_bd hs
  rcases ho with ⟨_, h, _⟩ | ⟨g, h1, h2, h3⟩
  · omega
  · subst h1
    exact ⟨g, n, c, _, he, hq, row_inR n, row_nodup n, h2, h3, hb⟩

set_option maxHeartbeats 1600000 in
theorem spec_l2Draw (c : Nat) (ac : Option Addr) (nc capc : Nat) (bs : List Int) (w : World) (hc : Cur w c ac nc capc bs) :
    Calls Try.prog 43 #[.pointer (some ⟨c, 0, none⟩)] w (DrawMat w c ac nc capc bs) := by
  have hcl := hc.lt
  go_enter Try.func43, Try.ntmps43
  go_wp2_with fail
  refine (spec_l01Below c ac nc capc bs 4 _ (hc.alloc _) (by omega) (by omega)).mono ?_
  rintro e w1 ⟨v1, rfl, a0, a1, hc1, hg1⟩
  have HC1 := Lib.hid hc1
  have G1 := Lib.hid (grown_trans (World.grownBy_alloc w (.cells #[.int .i64 0, .int .i64 0, .slice none 0 0] 25) (some c)) hg1)
  have KR1 := Lib.hid ((Blk.new w 25 #[.int .i64 0, .int .i64 0, .slice none 0 0]).grown hg1 (by intro e; have := Option.some.inj e; omega))
  clear hc1 hg1
  by_cases k0 : v1 = 0
  · subst k0
    go_wp2_with fail
    refine (spec_l01Below c ac nc capc bs 4 _ HC1.out (by omega) (by omega)).mono ?_
    rintro e w2 ⟨v2, rfl, b0, b1, hc2, hg2⟩
    have HC2 := Lib.hid hc2
    have G2 := Lib.hid (grown_trans G1.out hg2)
    have KR2 := Lib.hid (KR1.out.grown hg2 (by intro e; have := Option.some.inj e; omega))
    clear hc2 hg2
    go_wp2_with fail
    refine (bayer_some _ _ (by omega) (by omega)).mono ?_
    rintro e w3 ⟨W3, H3, a3, n3, c3, xs3, rfl, mk3, mw3, mh3, ho3, hb3⟩
    have HC3 := Lib.hid (HC2.out.below' hb3)
    have G3 := Lib.hid (grown_bel G2.out hb3)
    have KR := Lib.hid (KR2.out.below' hb3)
    have HOr := Lib.hid ho3
    have HZ := Lib.hid G2.out.size
    have LR := Lib.hid KR2.out.lt
    have MK3 := Lib.hid mk3
    clear hb3 ho3 mk3
    obtain ⟨r0, r1, r2, r3⟩ := KR.out.c3
    obtain ⟨q0, q1, q2⟩ := KR.out.f3
    go_wp2_with fail
    exact bodyPost_ret (v := .agg #[.int .i64 W3, .int .i64 H3, .slice a3 n3 c3]) (by simp [results, Try.results43, go_sem, r1, r2, r3, World.cell?_alloc_lt, r0]) rfl
      ⟨_, _, _, _, _, _, rfl, MK3.out, mw3, mh3, ((((HOr.out.other (by have := LR.out; simp; omega) _).other (by have := LR.out; simp; omega) _).other (by have := LR.out; simp; omega) _).mono HZ.out).alloc _,
        (((HC3.out.other (by simp; omega) _).other (by simp; omega) _).other (by simp; omega) _).alloc _, grown_trans (grown_setNew (grown_setNew (grown_setNew G3.out (by simp) _) (by simp) _) (by simp) _) (World.grownBy_alloc _ _ _)⟩
  · have q0 : (v1 == 0) = false := by simpa using k0
    by_cases k1 : v1 = 1
    · subst k1
      clear q0 k0
      go_wp2_with fail
      refine (spec_l01Below c ac nc capc bs 5 _ HC1.out (by omega) (by omega)).mono ?_
      rintro e w2 ⟨v2, rfl, b0, b1, hc2, hg2⟩
      have HC2 := Lib.hid hc2
      have G2 := Lib.hid (grown_trans G1.out hg2)
      have KR2 := Lib.hid (KR1.out.grown hg2 (by intro e; have := Option.some.inj e; omega))
      clear hc2 hg2
      go_wp2_with fail
      refine (spiral_some _ _ (by omega) (by omega)).mono ?_
      rintro e w3 ⟨W3, H3, a3, n3, c3, xs3, rfl, mk3, mw3, mh3, ho3, hb3⟩
      have HC3 := Lib.hid (HC2.out.below' hb3)
      have G3 := Lib.hid (grown_bel G2.out hb3)
      have KR := Lib.hid (KR2.out.below' hb3)
      have HOr := Lib.hid ho3
      have HZ := Lib.hid G2.out.size
      have LR := Lib.hid KR2.out.lt
      have MK3 := Lib.hid mk3
      clear hb3 ho3 mk3
      obtain ⟨r0, r1, r2, r3⟩ := KR.out.c3
      obtain ⟨q0, q1, q2⟩ := KR.out.f3
      go_wp2_with fail
      exact bodyPost_ret (v := .agg #[.int .i64 W3, .int .i64 H3, .slice a3 n3 c3]) (by simp [results, Try.results43, go_sem, r1, r2, r3, World.cell?_alloc_lt, r0]) rfl
        ⟨_, _, _, _, _, _, rfl, MK3.out, mw3, mh3, ((((HOr.out.other (by have := LR.out; simp; omega) _).other (by have := LR.out; simp; omega) _).other (by have := LR.out; simp; omega) _).mono HZ.out).alloc _,
          (((HC3.out.other (by simp; omega) _).other (by simp; omega) _).other (by simp; omega) _).alloc _, grown_trans (grown_setNew (grown_setNew (grown_setNew G3.out (by simp) _) (by simp) _) (by simp) _) (World.grownBy_alloc _ _ _)⟩
    · have q1 : (v1 == 1) = false := by simpa using k1
      clear k0 k1
      go_wp2_with fail
      refine (spec_l01Below c ac nc capc bs 5 _ HC1.out (by omega) (by omega)).mono ?_
      rintro e w2 ⟨v2, rfl, b0, b1, hc2, hg2⟩
      have HC2 := Lib.hid hc2
      have G2 := Lib.hid (grown_trans G1.out hg2)
      have KR2 := Lib.hid (KR1.out.grown hg2 (by intro e; have := Option.some.inj e; omega))
      clear hc2 hg2
      go_wp2_with fail
      refine (spec_l01Below c ac nc capc bs 5 _ HC2.out (by omega) (by omega)).mono ?_
      rintro e w3 ⟨v3, rfl, d0, d1, hc3, hg3⟩
      have HC3 := Lib.hid hc3
      have G3 := Lib.hid (grown_trans G2.out hg3)
      have KR3 := Lib.hid (KR2.out.grown hg3 (by intro e; have := Option.some.inj e; omega))
      clear hc3 hg3
      go_wp2_with fail
      refine (row_some v2 v3 _ b0 b1 d0 d1).mono ?_
      rintro e w4 ⟨g, n, cp, xs0, rfl, hq, hi0, hd0, hg, ho, hb⟩
      have HC4 := Lib.hid (HC3.out.below' hb)
      have G4 := Lib.hid (grown_bel G3.out hb)
      have KR4 := Lib.hid (KR3.out.below' hb)
      have HO4 := Lib.hid ho
      have HI0 := Lib.hid hi0
      have HD0 := Lib.hid hd0
      have HQ := Lib.hid hq
      have HG : Hid (w.heap.size < g) := Lib.hid (by have := KR3.out.lt; omega)
      have hn2 : 1 ≤ n ∧ n ≤ 25 := by
        have e : (1 + v2) * (1 + v3) ≤ 5 * 5 := Int.mul_le_mul (by omega) (by omega) (by omega) (by omega)
        have e2 : 1 * 1 ≤ (1 + v2) * (1 + v3) := Int.mul_le_mul (by omega) (by omega) (by omega) (by omega)
        omega
      obtain ⟨hn1, hn2⟩ := hn2
      clear hb ho hi0 hd0 hq hg
      go_wp2_with fail
      go_loopw [9] (fun i wr => ∃ (j : Nat) (xs : List Int), j < n ∧ i = .int .i64 j ∧ Own wr g n cp xs ∧ Hid (inR xs n = true) ∧ Hid (xs.Nodup) ∧ Blk wr w4.heap.size 25 #[.int .i64 (1 + v2), .int .i64 (1 + v3), .slice (some ⟨g, 0, none⟩) n cp] ∧ Blk wr w.heap.size 25 #[.int .i64 0, .int .i64 0, .slice none 0 0] ∧ Cur wr c ac nc capc bs ∧ w.grownBy wr (some c)) (fun i _ => (intOf i).toNat)
      case atStart => exact ⟨n - 1, xs0, by omega, by go_num, HO4.out.alloc _, HI0, HD0, Blk.new _ _ _, KR4.out.alloc _, HC4.out.alloc _, grown_trans G4.out (World.grownBy_alloc _ _ _)⟩
      case round =>
        obtain ⟨j, xs, hj, rfl, ho, HI, HD, hb1, hb2, hcr, hgr⟩ := hrel
        have HO := Lib.hid ho
        have KB := Lib.hid hb1
        have KR := Lib.hid hb2
        have HC := Lib.hid hcr
        have HGr := Lib.hid hgr
        obtain ⟨l0, o0, o1, o2⟩ := KB.out.c3
        have N3 : w.heap.size < w4.heap.size := KR4.out.lt
        have N2 : g ≠ w4.heap.size := by have := HO4.out.lt; omega
        have N4 : c < g := by have := HG.out; omega
        clear ho hb1 hb2 hcr hgr
        by_cases hlt : 0 < j
        · go_wp2_with fail
          refine (spec_l01Below c ac nc capc bs ((j : Int) + 1) _ HC.out (by omega) (by omega)).mono ?_
          rintro e wq ⟨vk, rfl, u0, u1, hcq, hgq⟩
          obtain ⟨k, rfl⟩ : ∃ k : Nat, vk = (k : Int) := ⟨vk.toNat, by omega⟩
          have hk : k < n := by omega
          have HOq := Lib.hid (HO.out.grown hgq (by intro e; have := Option.some.inj e; omega))
          have KBq := Lib.hid (KB.out.grown hgq (by intro e; have := Option.some.inj e; omega))
          have KRq := Lib.hid (KR.out.grown hgq (by intro e; have := Option.some.inj e; omega))
          have HCq := Lib.hid hcq
          have HGq := Lib.hid (grown_trans HGr.out hgq)
          clear hcq hgq o0 o1 o2 l0
          obtain ⟨l0, o0, o1, o2⟩ := KBq.out.c3
          have t1 := HOq.out.cell hj
          have t2 := HOq.out.cell hk
          have t3 := HOq.out.frozen j
          have t4 := HOq.out.frozen k
          have t5 := (HOq.out.set j (xs[k]?.getD 0)).cell hk
          go_wp2_with fail
          go_region
          go_wp2_with fail
          go_roundw
          case rel =>
            have hl := HOq.out.len
            obtain ⟨i0, i1⟩ := inR_at HI.out k (by omega)
            obtain ⟨i2, i3⟩ := inR_at HI.out j (by omega)
            exact ⟨j - 1, (xs.set j (xs[k]?.getD 0)).set k (xs[j]?.getD 0), by omega, by go_num, ((HOq.out.set j _).set k _).drewN 1, inR_set (inR_set HI.out _ _ i0 i1) _ _ i2 i3, swap_nodup (by omega) (by omega) HD.out, ((KBq.out.other (by simp; omega) _).other (by simp; omega) _).drew, ((KRq.out.other (by have := HG.out; simp; omega) _).other (by have := HG.out; simp; omega) _).drew, ((HCq.out.other (by simp; omega) _).other (by simp; omega) _).drew, grown_drewN (grown_setNew (grown_setNew HGq.out (by have := HG.out; simp; omega) _) (by have := HG.out; simp; omega) _) 1⟩
          case measure => simp [intOf]; omega
        · have hj0 : j = 0 := by omega
          subst hj0
          clear o0 o1 o2 l0
          obtain ⟨l0, o0, o1, o2⟩ := KB.out.c3
          obtain ⟨r0, r1, r2, r3⟩ := KR.out.c3
          obtain ⟨q0, q1, q2⟩ := KR.out.f3
          have MK := Lib.hid (matOk_mk HO.out.len (small_size b0 b1 d0 d1) HQ.out HI.out HD.out)
          go_wp2_with fail
          exact bodyPost_ret (v := .agg #[.int .i64 (1 + v2), .int .i64 (1 + v3), .slice (some ⟨g, 0, none⟩) n cp]) (by simp [results, Try.results43, go_sem, r1, r2, r3]) rfl
            ⟨_, _, _, _, _, _, rfl, MK.out, by omega, by omega, OwnA.mk (((HO.out.other (by have := HG.out; simp; omega) _).other (by have := HG.out; simp; omega) _).other (by have := HG.out; simp; omega) _) (by have := HG.out; omega),
              ((HC.out.other (by simp; omega) _).other (by simp; omega) _).other (by simp; omega) _, grown_setNew (grown_setNew (grown_setNew HGr.out (by simp) _) (by simp) _) (by simp) _⟩

/-- Some matrix is handed back. -/
def MatMade (w : World) (e : Ending) (w' : World) : Prop :=
  ∃ (W H : Int) (a : Option Addr) (n cp : Nat) (xs : List Int), e = .returned (.agg #[.int .i64 W, .int .i64 H, .slice a n cp]) ∧ matOk W H xs = true ∧ W ≤ 16 ∧ H ≤ 16 ∧ OwnA w' w.heap.size a n cp xs ∧ Below w.heap.size w w'

set_option maxHeartbeats 800000 in
theorem spec_MakeMatrix (ac : Option Addr) (nc capc : Nat) (bs : List Int) (w : World) (hl : bs.length = nc) (hr : RdU w.heap.size w ac bs) (hn : nc ≤ 4611686018427387904) :
    Calls Try.prog 11 #[.slice ac nc capc] w (MatMade w) := by
  go_enter Try.func11, Try.ntmps11
  go_wp2_with fail
  refine (spec_l01New ac nc capc bs _ hl ((hr.below (Joins.below_alloc1 _ _)).mono (by simp)) hn).mono ?_
  rintro e w1 ⟨c, rfl, hcs, hc1, hb1⟩
  have KR1 := Lib.hid ((Blk.new w 25 #[.int .i64 0, .int .i64 0, .slice none 0 0]).below' hb1)
  have HB1 := Lib.hid (bTrans (Joins.below_alloc1 w (.cells #[.int .i64 0, .int .i64 0, .slice none 0 0] 25)) hb1)
  have hcs2 : w.heap.size + 1 ≤ c := by simpa using hcs
  clear hb1 hcs
  go_wp2_with fail
  refine (spec_l2Draw c ac nc capc bs _ hc1).mono ?_
  rintro e w2 ⟨W, H, a, n, cp, xs, rfl, mk, mw, mh, ho, hc2, hg2⟩
  have HB2 := Lib.hid (grown_to_below HB1.out hg2 (by omega))
  have KR := Lib.hid (KR1.out.grown hg2 (by intro e; have := Option.some.inj e; omega))
  have LR := Lib.hid KR1.out.lt
  have HO := Lib.hid ho
  have MK := Lib.hid mk
  have HZ := Lib.hid HB1.out.size
  clear ho mk hg2 hc1 hc2
  obtain ⟨r0, r1, r2, r3⟩ := KR.out.c3
  obtain ⟨q0, q1, q2⟩ := KR.out.f3
  go_wp2_with fail
  exact bodyPost_ret (v := .agg #[.int .i64 W, .int .i64 H, .slice a n cp]) (by simp [results, Try.results11, go_sem, r1, r2, r3]) rfl
    ⟨W, H, a, n, cp, xs, rfl, MK.out, mw, mh, (((HO.out.other (by have := LR.out; simp; omega) _).other (by have := LR.out; simp; omega) _).other (by have := LR.out; simp; omega) _).mono HZ.out,
      ((HB2.out.setCell (by simp) _).setCell (by simp) _).setCell (by simp) _⟩

end Go.Proofs.Ytgepjfdnlnemjaa
