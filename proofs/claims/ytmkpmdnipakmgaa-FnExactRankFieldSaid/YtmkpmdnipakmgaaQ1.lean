/-
  Contracts of chapter 7: what a field is; weights, crowds and the best place in the model.
-/
import Derived.Test.YtmkpmdnipakmgaaM40
import Derived.Test.YtmkpmdnipakmgaaC4
import Derived.Test.YtmkpmdnipakmgaaD25
namespace Go.Proofs.Ytmkpmdnipakmgaa
open Go.RowKit
set_option linter.unusedVariables false
set_option linter.unusedSimpArgs false

set_option maxHeartbeats 400000 in
theorem spec_IsField (W H : Int) (ad : Option Addr) (n cap : Nat) (xs : List Int) (w : World) (hn : xs.length = n) (ha : Rd w ad xs) (hl : n ≤ 9223372036854775807) :
    Calls Try.prog 14 #[.agg #[.int .i64 W, .int .i64 H, .slice ad n cap]] w fun e w' => e = .returned (.bool (fieldOk W H xs)) ∧ Below w.heap.size w w' := by
  have HN := Lib.hid hn
  have HA := Lib.hid ha
  clear hn ha
  go_enter Try.func14, Try.ntmps14
  go_wp2_with fail
  refine (spec_IsPlate _ _ _ _ _ xs _ HN.out (by exact HA.out.alloc _) hl).mono ?_
  rintro e w1 ⟨rfl, hb⟩
  have HB1 := Lib.hid ((Joins.below_alloc1 _ _).trans (hb.mono (by simp)))
  have KP1 := Lib.hid ((Blk.new w 27 #[.int .i64 W, .int .i64 H, .slice ad n cap]).below' hb)
  obtain ⟨l1, c0, c1, c2⟩ := KP1.out.c3
  clear hb
  have E : Hid (fieldOk W H xs = (picOk W H xs 1 && decide (n ≤ 256))) := Lib.hid (by unfold fieldOk; rw [HN.out])
  obtain ⟨P, hP⟩ : ∃ P, picOk W H xs 1 = P := ⟨_, rfl⟩
  rw [hP] at E ⊢
  clear hP
  cases P
  · go_wp2_with fail
    go_ret
    exact ⟨ret_bool (by rw [E.out]; rfl), HB1.out⟩
  · go_wp2_with fail
    go_ret
    exact ⟨ret_bool (by rw [E.out, Bool.true_and]; exact decide_eq_decide.2 (by omega)), HB1.out⟩

set_option maxHeartbeats 400000 in
theorem impl_IsField (W H : Int) (ad : Option Addr) (n cap : Nat) (xs : List Int) (w : World) (hn : xs.length = n) (ha : Rd w ad xs) (hl : n ≤ 9223372036854775807) :
    Calls Try.prog 16 #[.agg #[.int .i64 W, .int .i64 H, .slice ad n cap]] w fun e w' => e = .returned (.bool (fieldOk W H xs)) ∧ Below w.heap.size w w' := by
  have HN := Lib.hid hn
  have HA := Lib.hid ha
  clear hn ha
  go_enter Try.func16, Try.ntmps16
  go_wp2_with fail
  refine (impl_IsPlate _ _ _ _ _ xs _ HN.out (by exact HA.out.alloc _) hl).mono ?_
  rintro e w1 ⟨rfl, hb⟩
  have HB1 := Lib.hid ((Joins.below_alloc1 _ _).trans (hb.mono (by simp)))
  have KP1 := Lib.hid ((Blk.new w 27 #[.int .i64 W, .int .i64 H, .slice ad n cap]).below' hb)
  obtain ⟨l1, c0, c1, c2⟩ := KP1.out.c3
  clear hb
  have E : Hid (fieldOk W H xs = (picOk W H xs 1 && decide (n ≤ 256))) := Lib.hid (by unfold fieldOk; rw [HN.out])
  obtain ⟨P, hP⟩ : ∃ P, picOk W H xs 1 = P := ⟨_, rfl⟩
  rw [hP] at E ⊢
  clear hP
  cases P
  · go_wp2_with fail
    go_ret
    exact ⟨ret_bool (by rw [E.out]; rfl), HB1.out⟩
  · go_wp2_with fail
    go_ret
    exact ⟨ret_bool (by rw [E.out, Bool.true_and]; exact decide_eq_decide.2 (by omega)), HB1.out⟩

theorem far_bd {W H : Int} (hW : 1 ≤ W) (hW2 : W ≤ 256) (hH : 1 ≤ H) (hH2 : H ≤ 256) (i k : Nat) : 0 ≤ farG W H i k ∧ farG W H i k ≤ 131072 := by
  refine ⟨far_nn hW hH i k, ?_⟩
  unfold farG
  obtain ⟨x1, x2⟩ := wayG_bd (d := (i : Int) % W - (k : Int) % W) hW
  obtain ⟨y1, y2⟩ := wayG_bd (d := (i : Int) / W - (k : Int) / W) hH
  have m1 := Int.mul_le_mul (show wayG ((i : Int) % W - (k : Int) % W) W ≤ 256 by omega) (show wayG ((i : Int) % W - (k : Int) % W) W ≤ 256 by omega) x1 (by omega)
  have m2 := Int.mul_le_mul (show wayG ((i : Int) / W - (k : Int) / W) H ≤ 256 by omega) (show wayG ((i : Int) / W - (k : Int) / W) H ≤ 256 by omega) y1 (by omega)
  omega

theorem best_take {xs : List Int} {v : Int} {c : Nat → Int} {k : Nat} (h1 : xs.getD k 0 = v) (h2 : bestTo xs v c k < 0 ∨ c k < c (bestTo xs v c k).toNat) : bestTo xs v c (k + 1) = k := by
  rw [bestTo, if_pos ⟨h1, h2⟩]

theorem best_skip {xs : List Int} {v : Int} {c : Nat → Int} {k : Nat} (h1 : ¬ xs.getD k 0 = v) : bestTo xs v c (k + 1) = bestTo xs v c k := by
  rw [bestTo, if_neg (fun h => h1 h.1)]

theorem best_keep {xs : List Int} {v : Int} {c : Nat → Int} {k : Nat} (h0 : 0 ≤ bestTo xs v c k) (h2 : ¬ c k < c (bestTo xs v c k).toNat) : bestTo xs v c (k + 1) = bestTo xs v c k := by
  rw [bestTo, if_neg (fun h => by rcases h.2 with h | h; omega; exact h2 h)]

set_option maxHeartbeats 400000 in
theorem spec_l6Weight (W H : Int) (ad : Option Addr) (n cap i k : Nat) (w : World) (hW : 1 ≤ W) (hW2 : W ≤ 256) (hH : 1 ≤ H) (hH2 : H ≤ 256) (hn : (n : Int) = W * H) (hn2 : n ≤ 256) (hi : i < n) (hk : k < n) :
    Calls Try.prog 47 #[.agg #[.int .i64 W, .int .i64 H, .slice ad n cap], .int .i64 i, .int .i64 k] w fun e w' => e = .returned (.int .i64 (wtG W H i k)) ∧ Below w.heap.size w w' := by
  have HN := Lib.hid hn
  have E : Hid (wtG W H i k = 4096 / (1 + farG W H i k)) := Lib.hid rfl
  obtain ⟨f0, f1⟩ := far_bd hW hW2 hH hH2 i k
  have FC := Lib.hid (fun v : World => spec_l2Far W H ad n cap i k v hW hW2 hH hH2 hn hn2 hi hk)
  obtain ⟨F, hF⟩ : ∃ F, farG W H i k = F := ⟨_, rfl⟩
  rw [hF] at f0 f1 E FC
  have z1 : ¬ 1 + F = 0 := by omega
  have z2 : (1 + F == 0) = false := by simp; omega
  have z3 : IntKind.i64.wrap (1 + F) = 1 + F := IntWalk.i64_in _ (by omega)
  have z4 : (4096 : Int).tdiv (1 + F) = 4096 / (1 + F) := Int.tdiv_eq_ediv_of_nonneg (by omega)
  have z5 : 0 ≤ 4096 / (1 + F) := Int.ediv_nonneg (by omega) (by omega)
  have z6 : 4096 / (1 + F) ≤ 4096 := Int.ediv_le_self _ (by omega)
  clear hn hF
  go_enter Try.func47, Try.ntmps47
  go_wp2_with fail
  refine (FC.out _).mono ?_
  rintro e w1 ⟨rfl, hb⟩
  have HB1 := Lib.hid ((Joins.below_alloc1 _ _).trans (hb.mono (by simp)))
  clear hb
  go_wp2_with fail
  go_ret
  exact ⟨ret_int (by rw [E.out]), HB1.out⟩

set_option maxHeartbeats 800000 in
theorem spec_PairWeight (W H : Int) (ad : Option Addr) (n cap : Nat) (xs : List Int) (i k : Int) (w : World) (hn : xs.length = n) (ha : Rd w ad xs) (hl : n ≤ 9223372036854775807) :
    Calls Try.prog 18 #[.agg #[.int .i64 W, .int .i64 H, .slice ad n cap], .int .i64 i, .int .i64 k] w fun e w' => e = .returned (.int .i64 (pairF W H xs i k)) ∧ Below w.heap.size w w' := by
  have HN := Lib.hid hn
  have HA := Lib.hid ha
  clear hn ha
  go_enter Try.func18, Try.ntmps18
  go_wp2_with fail
  refine (spec_IsField _ _ _ _ _ xs _ HN.out (by exact HA.out.alloc _) hl).mono ?_
  rintro e w1 ⟨rfl, hb⟩
  have HB1 := Lib.hid ((Joins.below_alloc1 _ _).trans (hb.mono (by simp)))
  have KP1 := Lib.hid ((Blk.new w 27 #[.int .i64 W, .int .i64 H, .slice ad n cap]).below' hb)
  have RP1 := Lib.hid ((HA.out.alloc (.cells #[.int .i64 W, .int .i64 H, .slice ad n cap] 27)).below hb)
  obtain ⟨l1, c0, c1, c2⟩ := KP1.out.c3
  clear hb
  by_cases hok : fieldOk W H xs = true
  · obtain ⟨b1, b2, b3, b4, b5, b6, b7, b8, b9⟩ := field_bd HN.out hok
    have B5 := Lib.hid b5
    have B8 := Lib.hid b8
    have B9 := Lib.hid b9
    clear b5 b8 b9
    by_cases hi : 0 ≤ i ∧ i < n
    · by_cases hk : 0 ≤ k ∧ k < n
      · have E : Hid (pairF W H xs i k = wtG W H i.toNat k.toNat) := Lib.hid (by unfold pairF; rw [if_pos ⟨hok, by rw [HN.out]; exact hi, by rw [HN.out]; exact hk⟩])
        rw [hok]
        clear hok
        have d1 : decide (0 ≤ i ∧ i ≤ (n : Int) - 1) = true := decide_eq_true (by omega)
        have d2 : decide (0 ≤ k ∧ k ≤ (n : Int) - 1) = true := decide_eq_true (by omega)
        have D1 := Lib.hid d1
        have D2 := Lib.hid d2
        clear d1 d2
        obtain ⟨I, hI⟩ : ∃ I : Nat, i = I := ⟨i.toNat, by omega⟩
        obtain ⟨K, hK⟩ : ∃ K : Nat, k = K := ⟨k.toNat, by omega⟩
        subst hI hK
        go_wp2_with fail
        refine (spec_l1In _ _ _ _).mono ?_
        rw [D1.out]
        rintro e w2 ⟨rfl, rfl⟩
        go_wp2_with fail
        refine (spec_l1In _ _ _ _).mono ?_
        rw [D2.out]
        rintro e w2 ⟨rfl, rfl⟩
        go_wp2_with fail
        refine (spec_l6Weight W H ad n cap I K _ b1 (by omega) b3 (by omega) B5.out b6 (by omega) (by omega)).mono ?_
        rintro e w2 ⟨rfl, hb⟩
        have HB2 := Lib.hid (bTrans HB1.out hb)
        clear hb
        go_wp2_with fail
        go_ret
        exact ⟨ret_int (by rw [E.out]; simp), HB2.out⟩
      · have E : Hid (pairF W H xs i k = 0) := Lib.hid (by unfold pairF; rw [if_neg (fun h => hk (by rw [← HN.out]; exact h.2.2))])
        rw [hok]
        clear hok
        have d1 : decide (0 ≤ i ∧ i ≤ (n : Int) - 1) = true := decide_eq_true (by omega)
        have d2 : decide (0 ≤ k ∧ k ≤ (n : Int) - 1) = false := decide_eq_false (by omega)
        have D1 := Lib.hid d1
        have D2 := Lib.hid d2
        clear d1 d2 hi hk
        go_wp2_with fail
        refine (spec_l1In _ _ _ _).mono ?_
        rw [D1.out]
        rintro e w2 ⟨rfl, rfl⟩
        go_wp2_with fail
        refine (spec_l1In _ _ _ _).mono ?_
        rw [D2.out]
        rintro e w2 ⟨rfl, rfl⟩
        go_wp2_with fail
        go_ret
        exact ⟨ret_int (by rw [E.out]), HB1.out⟩
    · have E : Hid (pairF W H xs i k = 0) := Lib.hid (by unfold pairF; rw [if_neg (fun h => hi (by rw [← HN.out]; exact h.2.1))])
      rw [hok]
      clear hok
      have d1 : decide (0 ≤ i ∧ i ≤ (n : Int) - 1) = false := decide_eq_false (by omega)
      have D1 := Lib.hid d1
      clear d1 hi
      go_wp2_with fail
      refine (spec_l1In _ _ _ _).mono ?_
      rw [D1.out]
      rintro e w2 ⟨rfl, rfl⟩
      go_wp2_with fail
      go_ret
      exact ⟨ret_int (by rw [E.out]), HB1.out⟩
  · have E : Hid (pairF W H xs i k = 0) := Lib.hid (by unfold pairF; rw [if_neg (fun h => hok h.1)])
    have hok2 : fieldOk W H xs = false := by simpa using hok
    rw [hok2]
    clear hok hok2
    go_wp2_with fail
    go_ret
    exact ⟨ret_int (by rw [E.out]), HB1.out⟩

set_option maxHeartbeats 800000 in
theorem spec_l6Crowd (W H : Int) (ad : Option Addr) (n cap : Nat) (xs : List Int) (i : Nat) (w : World) (hn : xs.length = n) (ha : Rd w ad xs) (hok : fieldOk W H xs = true) (hi : i < n) :
    Calls Try.prog 51 #[.agg #[.int .i64 W, .int .i64 H, .slice ad n cap], .int .i64 i] w fun e w' => e = .returned (.int .i64 (crowdG W H xs i)) ∧ Below w.heap.size w w' := by
  have HN := Lib.hid hn
  have HA := Lib.hid ha
  clear hn ha
  obtain ⟨b1, b2, b3, b4, b5, b6, b7, b8, b9⟩ := field_bd HN.out hok
  have B5 := Lib.hid b5
  have B8 := Lib.hid b8
  have B9 := Lib.hid b9
  clear b5 b8 b9
  clear hok
  have E : Hid (crowdG W H xs i = crowdTo W H xs i n) := Lib.hid (by unfold crowdG; rw [HN.out])
  have CB := Lib.hid (fun k => crowdTo_bd b1 b3 xs i k)
  have RD2 := Lib.hid (HA.out.alloc (.cells #[.int .i64 W, .int .i64 H, .slice ad n cap] 27))
  have KM2 := Lib.hid (Blk.new w 27 #[.int .i64 W, .int .i64 H, .slice ad n cap])
  have HB2 := Lib.hid (Joins.below_alloc1 w (.cells #[.int .i64 W, .int .i64 H, .slice ad n cap] 27))
  go_enter Try.func51, Try.ntmps51
  obtain ⟨w2, hw2⟩ : ∃ w2, w2 = w.alloc (.cells #[.int .i64 W, .int .i64 H, .slice ad n cap] 27) := ⟨_, rfl⟩
  rw [← hw2] at RD2 KM2 HB2
  go_wp2_with fail
  rw [← hw2]
  clear hw2
  go_loopw [5, 11] (fun s j wr => ∃ k : Nat, k ≤ n ∧ j = .int .i64 k ∧ s = .int .i64 (crowdTo W H xs i k) ∧ Below w2.heap.size w2 wr) (fun _ j _ => n - (intOf j).toNat)
  case atStart => exact ⟨0, Nat.zero_le _, rfl, rfl, Below.refl _ _⟩
  case round =>
    obtain ⟨k, hk, rfl, rfl, hwr⟩ := hrel
    have HWr := Lib.hid hwr
    have KMr := Lib.hid (KM2.out.below' hwr)
    have RDr := Lib.hid (RD2.out.below hwr)
    clear hwr
    obtain ⟨l0, o0, o1, o2⟩ := KMr.out.c3
    by_cases hlt : k < n
    · obtain ⟨ba, oa, hae, hal, hac⟩ := RDr.out.at (by have := HN.out; omega)
      subst hae
      have g1 := hac k (by have := HN.out; omega)
      obtain ⟨V, hV⟩ : ∃ V, xs.getD k 0 = V := ⟨_, rfl⟩
      rw [hV] at g1
      have HV := Lib.hid hV
      clear hV hac
      obtain ⟨c1, c2⟩ := CB.out k
      have EC : Hid (crowdTo W H xs i (k + 1) = crowdTo W H xs i k + (if V = 1 then wtG W H i k else 0)) := Lib.hid (by rw [crowdTo, HV.out])
      obtain ⟨C, hC⟩ : ∃ C, crowdTo W H xs i k = C := ⟨_, rfl⟩
      rw [hC] at c1 c2 EC
      rw [hC]
      clear hC
      by_cases hv1 : V = 1
      · subst hv1
        rw [if_pos rfl] at EC
        obtain ⟨t1, t2⟩ := wt_bd b1 b3 i k
        have FC := Lib.hid (fun v : World => spec_l6Weight W H (some ⟨ba, oa, none⟩) n cap i k v b1 (by omega) b3 (by omega) B5.out b6 hi hlt)
        obtain ⟨T, hT⟩ : ∃ T, wtG W H i k = T := ⟨_, rfl⟩
        rw [hT] at t1 t2 FC EC
        clear hT
        go_wp2_with fail
        refine (FC.out _).mono ?_
        rintro e w3 ⟨rfl, hb⟩
        have HW3 := Lib.hid (bTrans HWr.out hb)
        clear hb
        go_wp2_with fail
        go_roundw
        case rel => exact ⟨k + 1, by omega, by go_num, by rw [EC.out], HW3.out⟩
        case measure => simp [intOf]; omega
      · rw [if_neg hv1] at EC
        go_wp2_with fail
        go_roundw
        case rel => exact ⟨k + 1, by omega, by go_num, by rw [EC.out]; simp, HWr.out⟩
        case measure => simp [intOf]; omega
    · obtain rfl : n = k := by omega
      go_wp2_with fail
      go_ret
      exact ⟨ret_int (by rw [E.out]), bTrans HB2.out HWr.out⟩

set_option maxHeartbeats 800000 in
theorem spec_CrowdAt (W H : Int) (ad : Option Addr) (n cap : Nat) (xs : List Int) (i : Int) (w : World) (hn : xs.length = n) (ha : Rd w ad xs) (hl : n ≤ 9223372036854775807) :
    Calls Try.prog 20 #[.agg #[.int .i64 W, .int .i64 H, .slice ad n cap], .int .i64 i] w fun e w' => e = .returned (.int .i64 (crowdF W H xs i)) ∧ Below w.heap.size w w' := by
  have HN := Lib.hid hn
  have HA := Lib.hid ha
  clear hn ha
  go_enter Try.func20, Try.ntmps20
  go_wp2_with fail
  refine (spec_IsField _ _ _ _ _ xs _ HN.out (by exact HA.out.alloc _) hl).mono ?_
  rintro e w1 ⟨rfl, hb⟩
  have HB1 := Lib.hid ((Joins.below_alloc1 _ _).trans (hb.mono (by simp)))
  have KP1 := Lib.hid ((Blk.new w 27 #[.int .i64 W, .int .i64 H, .slice ad n cap]).below' hb)
  have RP1 := Lib.hid ((HA.out.alloc (.cells #[.int .i64 W, .int .i64 H, .slice ad n cap] 27)).below hb)
  obtain ⟨l1, c0, c1, c2⟩ := KP1.out.c3
  clear hb
  by_cases hok : fieldOk W H xs = true
  · obtain ⟨b1, b2, b3, b4, b5, b6, b7, b8, b9⟩ := field_bd HN.out hok
    have B5 := Lib.hid b5
    have B8 := Lib.hid b8
    have B9 := Lib.hid b9
    clear b5 b8 b9
    by_cases hi : 0 ≤ i ∧ i < n
    · have E : Hid (crowdF W H xs i = crowdG W H xs i.toNat) := Lib.hid (by unfold crowdF; rw [if_pos ⟨hok, by rw [HN.out]; exact hi⟩])
      have HOK := Lib.hid hok
      rw [hok]
      clear hok
      have d1 : decide (0 ≤ i ∧ i ≤ (n : Int) - 1) = true := decide_eq_true (by omega)
      have D1 := Lib.hid d1
      clear d1
      obtain ⟨I, hI⟩ : ∃ I : Nat, i = I := ⟨i.toNat, by omega⟩
      subst hI
      go_wp2_with fail
      refine (spec_l1In _ _ _ _).mono ?_
      rw [D1.out]
      rintro e w2 ⟨rfl, rfl⟩
      go_wp2_with fail
      refine (spec_l6Crowd W H ad n cap xs I _ HN.out (by exact RP1.out) HOK.out (by omega)).mono ?_
      rintro e w2 ⟨rfl, hb⟩
      have HB2 := Lib.hid (bTrans HB1.out hb)
      clear hb
      go_wp2_with fail
      go_ret
      exact ⟨ret_int (by rw [E.out]; simp), HB2.out⟩
    · have E : Hid (crowdF W H xs i = -1) := Lib.hid (by unfold crowdF; rw [if_neg (fun h => hi (by rw [← HN.out]; exact h.2))])
      rw [hok]
      clear hok
      have d1 : decide (0 ≤ i ∧ i ≤ (n : Int) - 1) = false := decide_eq_false (by omega)
      have D1 := Lib.hid d1
      clear d1 hi
      go_wp2_with fail
      refine (spec_l1In _ _ _ _).mono ?_
      rw [D1.out]
      rintro e w2 ⟨rfl, rfl⟩
      go_wp2_with fail
      go_ret
      exact ⟨ret_int (by rw [E.out]), HB1.out⟩
  · have E : Hid (crowdF W H xs i = -1) := Lib.hid (by unfold crowdF; rw [if_neg (fun h => hok h.1)])
    have hok2 : fieldOk W H xs = false := by simpa using hok
    rw [hok2]
    clear hok hok2
    go_wp2_with fail
    go_ret
    exact ⟨ret_int (by rw [E.out]), HB1.out⟩

set_option maxHeartbeats 1600000 in
theorem spec_l6Best (W H : Int) (ad : Option Addr) (n cap : Nat) (xs : List Int) (v s : Int) (w : World) (hn : xs.length = n) (ha : Rd w ad xs) (hok : fieldOk W H xs = true) (hs : s = 1 ∨ s = -1) :
    Calls Try.prog 54 #[.agg #[.int .i64 W, .int .i64 H, .slice ad n cap], .int .i64 v, .int .i64 s] w fun e w' => e = .returned (.int .i64 (bestTo xs v (fun j => -(s * crowdG W H xs j)) n)) ∧ Below w.heap.size w w' := by
  have HN := Lib.hid hn
  have HA := Lib.hid ha
  clear hn ha
  obtain ⟨b1, b2, b3, b4, b5, b6, b7, b8, b9⟩ := field_bd HN.out hok
  have B5 := Lib.hid b5
  have B8 := Lib.hid b8
  have B9 := Lib.hid b9
  clear b5 b8 b9
  have HOK := Lib.hid hok
  clear hok
  have RD2 := Lib.hid (HA.out.alloc (.cells #[.int .i64 W, .int .i64 H, .slice ad n cap] 27))
  have KM2 := Lib.hid (Blk.new w 27 #[.int .i64 W, .int .i64 H, .slice ad n cap])
  have HB2 := Lib.hid (Joins.below_alloc1 w (.cells #[.int .i64 W, .int .i64 H, .slice ad n cap] 27))
  have HS := Lib.hid hs
  clear hs
  go_enter Try.func54, Try.ntmps54
  obtain ⟨w2, hw2⟩ : ∃ w2, w2 = w.alloc (.cells #[.int .i64 W, .int .i64 H, .slice ad n cap] 27) := ⟨_, rfl⟩
  rw [← hw2] at RD2 KM2 HB2
  go_wp2_with fail
  rw [← hw2]
  clear hw2
  go_loopw [7, 8, 15] (fun b m j wr => ∃ (k : Nat) (B M : Int), k ≤ n ∧ j = .int .i64 k ∧ b = .int .i64 B ∧ m = .int .i64 M ∧ Hid (B = bestTo xs v (fun j => -(s * crowdG W H xs j)) k) ∧ Hid (B < 0 ∨ M = s * crowdG W H xs B.toNat) ∧ Below w2.heap.size w2 wr) (fun _ _ j _ => n - (intOf j).toNat)
  case atStart => exact ⟨0, -1, 0, Nat.zero_le _, rfl, rfl, rfl, Lib.hid rfl, Lib.hid (Or.inl (by omega)), Below.refl _ _⟩
  case round =>
    obtain ⟨k, B, M, hk, rfl, rfl, rfl, HBE, HME, hwr⟩ := hrel
    have HWr := Lib.hid hwr
    have KMr := Lib.hid (KM2.out.below' hwr)
    have RDr := Lib.hid (RD2.out.below hwr)
    clear hwr
    obtain ⟨l0, o0, o1, o2⟩ := KMr.out.c3
    by_cases hlt : k < n
    · obtain ⟨ba, oa, hae, hal, hac⟩ := RDr.out.at (by have := HN.out; omega)
      subst hae
      have g1 := hac k (by have := HN.out; omega)
      obtain ⟨V, hV⟩ : ∃ V, xs.getD k 0 = V := ⟨_, rfl⟩
      rw [hV] at g1
      have HV := Lib.hid hV
      clear hV hac
      by_cases hv1 : V = v
      · subst hv1
        obtain ⟨c1, c2⟩ := crowdG_bd HN.out HOK.out k
        have FC := Lib.hid (fun (v : World) hr => spec_l6Crowd W H (some ⟨ba, oa, none⟩) n cap xs k v HN.out hr HOK.out hlt)
        obtain ⟨C, hC⟩ : ∃ C, crowdG W H xs k = C := ⟨_, rfl⟩
        rw [hC] at c1 c2 FC
        have HC := Lib.hid hC
        clear hC
        obtain ⟨X, hX⟩ : ∃ X, s * C = X := ⟨_, rfl⟩
        have x1 : -1048576 ≤ X ∧ X ≤ 1048576 := by rcases HS.out with h | h <;> subst h <;> omega
        obtain ⟨x1, x2⟩ := x1
        have u1 : IntKind.i64.wrap (s * C) = X := by rw [hX]; exact IntWalk.i64_in _ (by omega)
        have HX := Lib.hid hX
        clear hX
        go_wp2_with fail
        refine (FC.out _ (by exact RDr.out)).mono ?_
        rintro e w3 ⟨rfl, hb⟩
        have HW3 := Lib.hid (bTrans HWr.out hb)
        clear hb FC KMr RDr o0 o1 o2 g1 l0 c1 c2
        by_cases hB : B < 0
        · have EB : Hid (bestTo xs V (fun j => -(s * crowdG W H xs j)) (k + 1) = k) := Lib.hid (best_take HV.out (Or.inl (by rw [← HBE.out]; exact hB)))
          go_wp2_with fail
          go_roundw
          case rel => exact ⟨k + 1, k, X, by omega, by go_num, rfl, rfl, Lib.hid EB.out.symm, Lib.hid (Or.inr (by rw [← HX.out, ← HC.out]; simp)), HW3.out⟩
          case measure => simp [intOf]; omega
        · have hB2 : 0 ≤ B := by omega
          have hM : M = s * crowdG W H xs B.toNat := by rcases HME.out with h | h; omega; exact h
          have HM := Lib.hid hM
          clear hM hB
          by_cases hgt : M < X
          · have EB : Hid (bestTo xs V (fun j => -(s * crowdG W H xs j)) (k + 1) = k) := Lib.hid (best_take HV.out (Or.inr (by rw [← HBE.out]; rw [← HM.out, HC.out, HX.out]; omega)))
            go_wp2_with fail
            go_roundw
            case rel => exact ⟨k + 1, k, X, by omega, by go_num, rfl, rfl, Lib.hid EB.out.symm, Lib.hid (Or.inr (by rw [← HX.out, ← HC.out]; simp)), HW3.out⟩
            case measure => simp [intOf]; omega
          · have EB : Hid (bestTo xs V (fun j => -(s * crowdG W H xs j)) (k + 1) = B) := Lib.hid (by rw [best_keep (by rw [← HBE.out]; omega) (by rw [← HBE.out]; rw [← HM.out, HC.out, HX.out]; omega)]; exact HBE.out.symm)
            have hle : X ≤ M := by omega
            clear hgt
            go_wp2_with fail
            all_goals (try (exfalso; omega))
            go_roundw
            case rel => exact ⟨k + 1, B, M, by omega, by go_num, rfl, rfl, Lib.hid EB.out.symm, Lib.hid (Or.inr HM.out), HW3.out⟩
            case measure => simp [intOf]; omega
      · have EB : Hid (bestTo xs v (fun j => -(s * crowdG W H xs j)) (k + 1) = B) := Lib.hid (by rw [best_skip (by rw [HV.out]; exact hv1)]; exact HBE.out.symm)
        go_wp2_with fail
        go_roundw
        case rel => exact ⟨k + 1, B, M, by omega, by go_num, rfl, rfl, Lib.hid EB.out.symm, HME, HWr.out⟩
        case measure => simp [intOf]; omega
    · obtain rfl : n = k := by omega
      go_wp2_with fail
      go_ret
      exact ⟨ret_int HBE.out, bTrans HB2.out HWr.out⟩

set_option maxHeartbeats 400000 in
theorem spec_TightestDot (W H : Int) (ad : Option Addr) (n cap : Nat) (xs : List Int) (w : World) (hn : xs.length = n) (ha : Rd w ad xs) (hl : n ≤ 9223372036854775807) :
    Calls Try.prog 22 #[.agg #[.int .i64 W, .int .i64 H, .slice ad n cap]] w fun e w' => e = .returned (.int .i64 (tightestF W H xs)) ∧ Below w.heap.size w w' := by
  have HN := Lib.hid hn
  have HA := Lib.hid ha
  clear hn ha
  go_enter Try.func22, Try.ntmps22
  go_wp2_with fail
  refine (spec_IsField _ _ _ _ _ xs _ HN.out (by exact HA.out.alloc _) hl).mono ?_
  rintro e w1 ⟨rfl, hb⟩
  have HB1 := Lib.hid ((Joins.below_alloc1 _ _).trans (hb.mono (by simp)))
  have KP1 := Lib.hid ((Blk.new w 27 #[.int .i64 W, .int .i64 H, .slice ad n cap]).below' hb)
  have RP1 := Lib.hid ((HA.out.alloc (.cells #[.int .i64 W, .int .i64 H, .slice ad n cap] 27)).below hb)
  obtain ⟨l1, c0, c1, c2⟩ := KP1.out.c3
  clear hb
  by_cases hok : fieldOk W H xs = true
  · have E : Hid (tightestF W H xs = tightF W H xs) := Lib.hid (by unfold tightestF; rw [if_pos hok])
    have HOK := Lib.hid hok
    rw [hok]
    clear hok
    go_wp2_with fail
    refine (spec_l6Best W H ad n cap xs 1 1 _ HN.out (by exact RP1.out) HOK.out (by decide)).mono ?_
    rintro e w2 ⟨rfl, hb⟩
    have HB2 := Lib.hid (bTrans HB1.out hb)
    clear hb
    go_wp2_with fail
    go_ret
    exact ⟨ret_int (by rw [E.out]; unfold tightF; rw [HN.out]; first | rfl | simp), HB2.out⟩
  · have E : Hid (tightestF W H xs = -1) := Lib.hid (by unfold tightestF; rw [if_neg hok])
    have hok2 : fieldOk W H xs = false := by simpa using hok
    rw [hok2]
    clear hok hok2
    go_wp2_with fail
    go_ret
    exact ⟨ret_int (by rw [E.out]), HB1.out⟩

set_option maxHeartbeats 400000 in
theorem spec_WidestVoid (W H : Int) (ad : Option Addr) (n cap : Nat) (xs : List Int) (w : World) (hn : xs.length = n) (ha : Rd w ad xs) (hl : n ≤ 9223372036854775807) :
    Calls Try.prog 24 #[.agg #[.int .i64 W, .int .i64 H, .slice ad n cap]] w fun e w' => e = .returned (.int .i64 (widestF W H xs)) ∧ Below w.heap.size w w' := by
  have HN := Lib.hid hn
  have HA := Lib.hid ha
  clear hn ha
  go_enter Try.func24, Try.ntmps24
  go_wp2_with fail
  refine (spec_IsField _ _ _ _ _ xs _ HN.out (by exact HA.out.alloc _) hl).mono ?_
  rintro e w1 ⟨rfl, hb⟩
  have HB1 := Lib.hid ((Joins.below_alloc1 _ _).trans (hb.mono (by simp)))
  have KP1 := Lib.hid ((Blk.new w 27 #[.int .i64 W, .int .i64 H, .slice ad n cap]).below' hb)
  have RP1 := Lib.hid ((HA.out.alloc (.cells #[.int .i64 W, .int .i64 H, .slice ad n cap] 27)).below hb)
  obtain ⟨l1, c0, c1, c2⟩ := KP1.out.c3
  clear hb
  by_cases hok : fieldOk W H xs = true
  · have E : Hid (widestF W H xs = wideF W H xs) := Lib.hid (by unfold widestF; rw [if_pos hok])
    have HOK := Lib.hid hok
    rw [hok]
    clear hok
    go_wp2_with fail
    refine (spec_l6Best W H ad n cap xs 0 (-1) _ HN.out (by exact RP1.out) HOK.out (by decide)).mono ?_
    rintro e w2 ⟨rfl, hb⟩
    have HB2 := Lib.hid (bTrans HB1.out hb)
    clear hb
    go_wp2_with fail
    go_ret
    exact ⟨ret_int (by rw [E.out]; unfold wideF; rw [HN.out]; first | rfl | simp), HB2.out⟩
  · have E : Hid (widestF W H xs = -1) := Lib.hid (by unfold widestF; rw [if_neg hok])
    have hok2 : fieldOk W H xs = false := by simpa using hok
    rw [hok2]
    clear hok hok2
    go_wp2_with fail
    go_ret
    exact ⟨ret_int (by rw [E.out]), HB1.out⟩

end Go.Proofs.Ytmkpmdnipakmgaa
