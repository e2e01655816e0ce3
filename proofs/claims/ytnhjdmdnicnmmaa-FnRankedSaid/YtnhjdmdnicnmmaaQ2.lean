/-
  Contracts of chapter 7 in the program: cells, weights and crowds.
-/
import Derived.Test.YtnhjdmdnicnmmaaQ1
import Derived.Test.YtnhjdmdnicnmmaaD27
import Derived.Test.YtnhjdmdnicnmmaaN0
import Derived.Deep.RegionHeld3
namespace Go.Proofs.Ytnhjdmdnicnmmaa
open Go.RowKit
set_option linter.unusedVariables false
set_option linter.unusedSimpArgs false

/-- The sum of the weights of a place and some places. -/
def sumW (W H : Int) (i : Nat) (ls : List Nat) : Int := isum (ls.map (fun k => wtG W H i k))

theorem sumW_snoc (W H : Int) (i : Nat) (ls : List Nat) (k : Nat) : sumW W H i (ls ++ [k]) = sumW W H i ls + wtG W H i k := by
  unfold sumW
  rw [List.map_append, isum_append]
  simp [isum]

theorem sumW_ones (W H : Int) (xs : List Int) (i k : Nat) : sumW W H i (onesTo xs k) = crowdTo W H xs i k := by
  induction k with
  | zero => rfl
  | succ k ih =>
    unfold crowdTo
    by_cases h : xs.getD k 0 = 1
    · rw [ones_yes h, sumW_snoc, ih, if_pos h]
    · rw [ones_no h, ih, if_neg h]; omega

theorem sumW_bd {W H : Int} (hW : 1 ≤ W) (hH : 1 ≤ H) (i : Nat) (ls : List Nat) : 0 ≤ sumW W H i ls ∧ sumW W H i ls ≤ 4096 * ls.length := by
  induction ls with
  | nil => exact ⟨Int.le_refl _, by simp [sumW, isum]⟩
  | cons a r ih =>
    have := wt_bd hW hH i a
    unfold sumW at ih ⊢
    simp only [List.map_cons, isum, List.length_cons]
    omega

theorem sumW_take {W H : Int} (i : Nat) {ls : List Nat} {k : Nat} (h : k < ls.length) : sumW W H i (ls.take (k + 1)) = sumW W H i (ls.take k) + wtG W H i (ls.getD k 0) := by
  rw [List.take_succ_eq_append_getElem h, sumW_snoc]
  simp [List.getD, List.getElem?_eq_getElem h]

set_option maxHeartbeats 400000 in
theorem impl_cellOf (W H : Int) (ad : Option Addr) (n cap i : Nat) (w : World) (hW : 1 ≤ W) (hW2 : W ≤ 256) (hn : (n : Int) = W * H) (hn2 : n ≤ 256) (hi : i < n) :
    Calls Try.prog 51 #[.agg #[.int .i64 W, .int .i64 H, .slice ad n cap], .int .i64 i] w fun e w' => e = .returned (.agg #[.int .i64 ((i : Int) % W), .int .i64 ((i : Int) / W)]) ∧ Below w.heap.size w w' := by
  obtain ⟨P, Q, hP, hQ, tP, tQ, p0, p1, q0, q1⟩ := place_bd hW hW2 hn hn2 hi
  rw [hP, hQ]
  have u1 : IntKind.i64.wrap P = P := IntWalk.i64_in _ (by omega)
  have u2 : IntKind.i64.wrap Q = Q := IntWalk.i64_in _ (by omega)
  have z1 : ¬ W = 0 := by omega
  have z2 : (W == 0) = false := by simp; omega
  have HN := Lib.hid hn
  clear hn hP hQ
  go_enter Try.func51, Try.ntmps51
  go_wp2_with fail
  have KP := Lib.hid ((Blk.new w 25 #[.int .i64 W, .int .i64 H, .slice ad n cap]).alloc (.cells #[.int .i64 0, .int .i64 0] 74))
  have KZ := Lib.hid (Blk.new' (g := w.heap.size + 1) (w := w.alloc (.cells #[.int .i64 W, .int .i64 H, .slice ad n cap] 25)) 74 #[.int .i64 0, .int .i64 0] (by simp))
  have HBP := Lib.hid (bAlloc (bAlloc (Below.refl w.heap.size w) (.cells #[.int .i64 W, .int .i64 H, .slice ad n cap] 25)) (.cells #[.int .i64 0, .int .i64 0] 74))
  obtain ⟨l0, o0, o1, o2⟩ := KP.out.c3
  have r0 := KZ.out.cell 0
  have r1 := KZ.out.cell 1
  have f0 := KZ.out.frozen 0
  have f1 := KZ.out.frozen 1
  simp only [List.getElem?_toArray, List.getElem?_cons_zero, List.getElem?_cons_succ] at r0 r1
  go_region
  all_goals (
    go_wp2_with fail
    exact bodyPost_ret (v := .agg #[.int .i64 P, .int .i64 Q]) (by simp [results, Try.results51, go_sem, r0, r1]) rfl
      ⟨rfl, (bAlloc (bAlloc (Below.refl w.heap.size w) _) _).drew⟩)

set_option maxHeartbeats 800000 in
theorem impl_weightOfPair (W H : Int) (ad : Option Addr) (n cap i k : Nat) (w : World) (hW : 1 ≤ W) (hW2 : W ≤ 256) (hH : 1 ≤ H) (hH2 : H ≤ 256) (hn : (n : Int) = W * H) (hn2 : n ≤ 256) (hi : i < n) (hk : k < n) :
    Calls Try.prog 52 #[.agg #[.int .i64 W, .int .i64 H, .slice ad n cap], .agg #[.int .i64 ((i : Int) % W), .int .i64 ((i : Int) / W)], .agg #[.int .i64 ((k : Int) % W), .int .i64 ((k : Int) / W)]] w fun e w' => e = .returned (.int .i64 (wtG W H i k)) ∧ Below w.heap.size w w' := by
  have E : Hid (wtG W H i k = 4096 / (1 + farG W H i k)) := Lib.hid rfl
  obtain ⟨f0, f1⟩ := far_bd hW hW2 hH hH2 i k
  have FC := Lib.hid (fun v : World => impl_torusSquare W H n i k v hW hW2 hH hH2 hn hn2 hi hk)
  obtain ⟨F, hF⟩ : ∃ F, farG W H i k = F := ⟨_, rfl⟩
  rw [hF] at f0 f1 E FC
  obtain ⟨P, hP⟩ : ∃ P, (i : Int) % W = P := ⟨_, rfl⟩
  obtain ⟨Q, hQ⟩ : ∃ Q, (i : Int) / W = Q := ⟨_, rfl⟩
  obtain ⟨P', hP'⟩ : ∃ P, (k : Int) % W = P := ⟨_, rfl⟩
  obtain ⟨Q', hQ'⟩ : ∃ Q, (k : Int) / W = Q := ⟨_, rfl⟩
  rw [hP, hQ, hP', hQ'] at FC ⊢
  have z1 : ¬ 1 + F = 0 := by omega
  have z2 : (1 + F == 0) = false := by simp; omega
  have z3 : IntKind.i64.wrap (1 + F) = 1 + F := IntWalk.i64_in _ (by omega)
  have z4 : (4096 : Int).tdiv (1 + F) = 4096 / (1 + F) := Int.tdiv_eq_ediv_of_nonneg (by omega)
  have z5 : 0 ≤ 4096 / (1 + F) := Int.ediv_nonneg (by omega) (by omega)
  have z6 : 4096 / (1 + F) ≤ 4096 := Int.ediv_le_self _ (by omega)
  clear hn hF hP hQ hP' hQ' hi hk
  go_enter Try.func52, Try.ntmps52
  go_wp2_with fail
  refine (FC.out _).mono ?_
  rintro e w1 ⟨rfl, hb⟩
  have HB1 := Lib.hid (bTrans (bAlloc (bAlloc (bAlloc (Below.refl w.heap.size w) (.cells #[.int .i64 W, .int .i64 H, .slice ad n cap] 25)) (.cells #[.int .i64 P, .int .i64 Q] 74)) (.cells #[.int .i64 P', .int .i64 Q'] 74)) hb)
  clear hb
  go_wp2_with fail
  go_ret
  exact ⟨ret_int (by rw [E.out]), HB1.out⟩

set_option maxHeartbeats 400000 in
theorem impl_hasFieldPoint (W H : Int) (ad : Option Addr) (n cap : Nat) (xs : List Int) (i : Int) (w : World) (hn : xs.length = n) (ha : Rd w ad xs) (hl : n ≤ 9223372036854775807) :
    Calls Try.prog 48 #[.agg #[.int .i64 W, .int .i64 H, .slice ad n cap], .int .i64 i] w fun e w' => e = .returned (.bool (fieldOk W H xs && decide (0 ≤ i ∧ i < (n : Int)))) ∧ Below w.heap.size w w' := by
  have HN := Lib.hid hn
  have HA := Lib.hid ha
  clear hn ha
  go_enter Try.func48, Try.ntmps48
  go_wp2_with fail
  refine (impl_IsField _ _ _ _ _ xs _ HN.out (by exact HA.out.alloc _) hl).mono ?_
  rintro e w1 ⟨rfl, hb⟩
  have HB1 := Lib.hid ((Joins.below_alloc1 _ _).trans (hb.mono (by simp)))
  have KP1 := Lib.hid ((Blk.new w 25 #[.int .i64 W, .int .i64 H, .slice ad n cap]).below' hb)
  have RP1 := Lib.hid ((HA.out.alloc (.cells #[.int .i64 W, .int .i64 H, .slice ad n cap] 25)).below hb)
  obtain ⟨l1, c0, c1, c2⟩ := KP1.out.c3
  clear hb
  obtain ⟨P, hP⟩ : ∃ P, fieldOk W H xs = P := ⟨_, rfl⟩
  rw [hP]
  have HP := Lib.hid hP
  clear hP
  cases P
  · go_wp2_with fail
    go_ret
    exact ⟨ret_bool (by rw [HP.out]; rfl), HB1.out⟩
  · by_cases h0 : 0 ≤ i
    · by_cases h1 : i < (n : Int)
      · go_wp2_with fail
        go_ret
        exact ⟨ret_bool (by rw [HP.out]; simp [h0, h1]), HB1.out⟩
      · have h2 : (n : Int) ≤ i := by omega
        have E := Lib.hid h1
        clear h1
        go_wp2_with fail
        go_ret
        exact ⟨ret_bool (by rw [HP.out]; have e := E.out; simp; omega), HB1.out⟩
    · have h2 : i < 0 := by omega
      have E := Lib.hid h0
      clear h0
      go_wp2_with fail
      go_ret
      exact ⟨ret_bool (by rw [HP.out]; have e := E.out; simp; omega), HB1.out⟩

set_option maxRecDepth 100000 in
set_option maxHeartbeats 1600000 in
theorem impl_PairWeight (W H : Int) (ad : Option Addr) (n cap : Nat) (xs : List Int) (i k : Int) (w : World) (hn : xs.length = n) (ha : Rd w ad xs) (hl : n ≤ 9223372036854775807) :
    Calls Try.prog 22 #[.agg #[.int .i64 W, .int .i64 H, .slice ad n cap], .int .i64 i, .int .i64 k] w fun e w' => e = .returned (.int .i64 (pairF W H xs i k)) ∧ Below w.heap.size w w' := by
  have HN := Lib.hid hn
  have HA := Lib.hid ha
  clear hn ha
  go_enter Try.func22, Try.ntmps22
  go_wp2_with fail
  refine (impl_hasFieldPoint _ _ _ _ _ xs _ _ HN.out (by exact HA.out.alloc _) hl).mono ?_
  rintro e w1 ⟨rfl, hb⟩
  have HB1 := Lib.hid ((Joins.below_alloc1 _ _).trans (hb.mono (by simp)))
  have KP1 := Lib.hid ((Blk.new w 25 #[.int .i64 W, .int .i64 H, .slice ad n cap]).below' hb)
  have RP1 := Lib.hid ((HA.out.alloc (.cells #[.int .i64 W, .int .i64 H, .slice ad n cap] 25)).below hb)
  obtain ⟨l1, c0, c1, c2⟩ := KP1.out.c3
  clear hb
  by_cases hi : (fieldOk W H xs && decide (0 ≤ i ∧ i < (n : Int))) = true
  · rw [hi]
    go_wp2_with fail
    refine (impl_hasFieldPoint _ _ _ _ _ xs _ _ HN.out (by exact RP1.out) hl).mono ?_
    rintro e w2 ⟨rfl, hb⟩
    have HB2 := Lib.hid (bTrans HB1.out hb)
    have KP2 := Lib.hid (KP1.out.below' hb)
    clear hb c0 c1 c2 l1
    obtain ⟨l1, c0, c1, c2⟩ := KP2.out.c3
    by_cases hk : (fieldOk W H xs && decide (0 ≤ k ∧ k < (n : Int))) = true
    · rw [hk]
      simp only [Bool.and_eq_true, decide_eq_true_eq] at hi hk
      obtain ⟨hok, hi⟩ := hi
      obtain ⟨_, hk⟩ := hk
      have E : Hid (pairF W H xs i k = wtG W H i.toNat k.toNat) := Lib.hid (by unfold pairF; rw [if_pos ⟨hok, by rw [HN.out]; exact hi, by rw [HN.out]; exact hk⟩])
      obtain ⟨b1, b2, b3, b4, b5, b6, b7, b8, b9⟩ := field_bd HN.out hok
      have B5 := Lib.hid b5
      have B8 := Lib.hid b8
      have B9 := Lib.hid b9
      clear b5 b8 b9
      obtain ⟨I, hI⟩ : ∃ I : Nat, i = I := ⟨i.toNat, by omega⟩
      obtain ⟨K, hK⟩ : ∃ K : Nat, k = K := ⟨k.toNat, by omega⟩
      subst hI hK
      have MK : Hid (∀ v, BelowL w2 v → v.cell? ⟨w.heap.size, 0, none⟩ = some (.int .i64 W) ∧ v.cell? ⟨w.heap.size, 1, none⟩ = some (.int .i64 H) ∧ v.cell? ⟨w.heap.size, 2, none⟩ = some (.slice ad n cap) ∧ BelowL w2 v) := Lib.hid (fun v hB => ⟨(hB.out.cell l1).trans c0, (hB.out.cell l1).trans c1, (hB.out.cell l1).trans c2, hB⟩)
      have CI := Lib.hid (fun v : World => impl_cellOf W H ad n cap I v b1 (by omega) B5.out b6 (by omega))
      have CK := Lib.hid (fun v : World => impl_cellOf W H ad n cap K v b1 (by omega) B5.out b6 (by omega))
      have CW := Lib.hid (fun v : World => impl_weightOfPair W H ad n cap I K v b1 (by omega) b3 (by omega) B5.out b6 (by omega) (by omega))
      obtain ⟨P, hP⟩ : ∃ P, (I : Int) % W = P := ⟨_, rfl⟩
      obtain ⟨Q, hQ⟩ : ∃ Q, (I : Int) / W = Q := ⟨_, rfl⟩
      obtain ⟨P', hP'⟩ : ∃ P, (K : Int) % W = P := ⟨_, rfl⟩
      obtain ⟨Q', hQ'⟩ : ∃ Q, (K : Int) / W = Q := ⟨_, rfl⟩
      rw [hP, hQ] at CI CW
      rw [hP', hQ'] at CK CW
      clear hP hQ hP' hQ' hi hk hok
      go_wp2_with fail
      go_region_held3 (fun v => v.cell? ⟨w.heap.size, 0, none⟩ = some (.int .i64 W) ∧ v.cell? ⟨w.heap.size, 1, none⟩ = some (.int .i64 H) ∧ v.cell? ⟨w.heap.size, 2, none⟩ = some (.slice ad n cap) ∧ BelowL w2 v)
        (first | exact MK.out _ hb3 | exact MK.out _ hb2 | exact MK.out _ hb1 | exact MK.out _ (BelowL.start _))
        (first
          | (go_at_call 52; ((with_reducible refine (CW.out _).mono ?_); rintro e v3 ⟨rfl, hq3⟩; have hb3 := BelowL.call (limb4 (by assumption)) hq3))
          | (go_at_call 51; ((with_reducible refine (CI.out _).mono ?_); rintro e v1 ⟨rfl, hq1⟩; have hb1 := BelowL.call (limb4 (by assumption)) hq1))
          | (go_at_call 51; ((with_reducible refine (CK.out _).mono ?_); rintro e v2 ⟨rfl, hq2⟩; have hb2 := BelowL.call (limb4 (by assumption)) hq2)))
      have HB3 := Lib.hid (bTrans HB2.out hb3.out)
      go_wp2_with fail
      go_ret
      exact ⟨ret_int (by rw [E.out]; simp), HB3.out⟩
    · have E : Hid (pairF W H xs i k = 0) := Lib.hid (by unfold pairF; rw [if_neg (fun h => hk (by rw [h.1]; rw [HN.out] at h; simp; exact h.2.2))])
      have hk2 : (fieldOk W H xs && decide (0 ≤ k ∧ k < (n : Int))) = false := by simpa only [Bool.not_eq_true] using hk
      rw [hk2]
      clear hk hk2 hi
      go_wp2_with fail
      go_ret
      exact ⟨ret_int (by rw [E.out]), HB2.out⟩
  · have E : Hid (pairF W H xs i k = 0) := Lib.hid (by unfold pairF; rw [if_neg (fun h => hi (by rw [h.1]; rw [HN.out] at h; simp; exact h.2.1))])
    have hi2 : (fieldOk W H xs && decide (0 ≤ i ∧ i < (n : Int))) = false := by simpa only [Bool.not_eq_true] using hi
    rw [hi2]
    clear hi hi2
    go_wp2_with fail
    go_ret
    exact ⟨ret_int (by rw [E.out]), HB1.out⟩

set_option maxHeartbeats 1600000 in
theorem impl_crowdOf (W H : Int) (ad sa : Option Addr) (n cap d sc i : Nat) (ls : List Nat) (w : World) (hW : 1 ≤ W) (hW2 : W ≤ 64) (hH : 1 ≤ H) (hH2 : H ≤ 64) (hn : (n : Int) = W * H) (hn2 : n ≤ 256) (hi : i < n) (hls : ∀ k, k ∈ ls → k < n) (hd : ls.length = d) (hd2 : d ≤ 256) (hr : Rd w sa (flatC W ls)) :
    Calls Try.prog 49 #[.agg #[.int .i64 W, .int .i64 H, .slice ad n cap], .slice sa d sc, .agg #[.int .i64 ((i : Int) % W), .int .i64 ((i : Int) / W)]] w fun e w' => e = .returned (.int .i64 (sumW W H i ls)) ∧ Below w.heap.size w w' := by
  have HD := Lib.hid hd
  have B5 := Lib.hid hn
  have HLS := Lib.hid hls
  have CW := Lib.hid (fun (k : Nat) (hk : k < n) (v : World) => impl_weightOfPair W H ad n cap i k v hW (by omega) hH (by omega) hn hn2 hi hk)
  obtain ⟨P, hP⟩ : ∃ P, (i : Int) % W = P := ⟨_, rfl⟩
  obtain ⟨Q, hQ⟩ : ∃ Q, (i : Int) / W = Q := ⟨_, rfl⟩
  rw [hP, hQ] at CW ⊢
  have KP := Lib.hid ((Blk.new w 25 #[.int .i64 W, .int .i64 H, .slice ad n cap]).alloc (.cells #[.int .i64 P, .int .i64 Q] 74))
  have KC := Lib.hid (Blk.new' (g := w.heap.size + 1) (w := w.alloc (.cells #[.int .i64 W, .int .i64 H, .slice ad n cap] 25)) 74 #[.int .i64 P, .int .i64 Q] (by simp))
  have HB2 := Lib.hid (bAlloc (bAlloc (Below.refl w.heap.size w) (.cells #[.int .i64 W, .int .i64 H, .slice ad n cap] 25)) (.cells #[.int .i64 P, .int .i64 Q] 74))
  have RD2 := Lib.hid ((hr.alloc (.cells #[.int .i64 W, .int .i64 H, .slice ad n cap] 25)).alloc (.cells #[.int .i64 P, .int .i64 Q] 74))
  clear hd hn hls hP hQ hr
  go_enter Try.func49, Try.ntmps49
  obtain ⟨w2, hw2⟩ : ∃ w2, w2 = (w.alloc (.cells #[.int .i64 W, .int .i64 H, .slice ad n cap] 25)).alloc (.cells #[.int .i64 P, .int .i64 Q] 74) := ⟨_, rfl⟩
  rw [← hw2] at KP KC HB2 RD2
  go_wp2_with fail
  rw [← hw2]
  clear hw2
  go_loopw [7, 12] (fun s j wr => ∃ k : Nat, k ≤ d ∧ j = .int .i64 k ∧ s = .int .i64 (sumW W H i (ls.take k)) ∧ Below w2.heap.size w2 wr) (fun _ j _ => d - (intOf j).toNat)
  case atStart => exact ⟨0, Nat.zero_le _, rfl, rfl, Below.refl _ _⟩
  case round =>
    obtain ⟨k, hk, rfl, rfl, hwr⟩ := hrel
    have HWr := Lib.hid hwr
    have KPr := Lib.hid (KP.out.below' hwr)
    have KCr := Lib.hid (KC.out.below' hwr)
    have RDr := Lib.hid (RD2.out.below hwr)
    clear hwr
    by_cases hlt : k < d
    · obtain ⟨l0, o0, o1, o2⟩ := KPr.out.c3
      have hm : ls.getD k 0 < n := HLS.out _ (by have := HD.out; simp [List.getD, List.getElem?_eq_getElem (show k < ls.length by omega)])
      have ET := Lib.hid (sumW_take (W := W) (H := H) i (ls := ls) (k := k) (by have := HD.out; omega))
      obtain ⟨ba, oa, hae, hal, g1, g2⟩ := rd_place RDr.out (k := k) (by have := HD.out; omega)
      obtain ⟨A, hA⟩ : ∃ A, ls.getD k 0 = A := ⟨_, rfl⟩
      rw [hA] at g1 g2 hm ET
      have FW := Lib.hid (CW.out A hm)
      obtain ⟨t1, t2⟩ := wt_bd hW hH i A
      have sb := sumW_bd hW hH i (ls.take k)
      rw [List.length_take] at sb
      obtain ⟨s1, s2⟩ : 0 ≤ sumW W H i (ls.take k) ∧ sumW W H i (ls.take k) ≤ 1048576 := ⟨sb.1, by have := sb.2; omega⟩
      obtain ⟨S, hS⟩ : ∃ S, sumW W H i (ls.take k) = S := ⟨_, rfl⟩
      obtain ⟨T, hT⟩ : ∃ T, wtG W H i A = T := ⟨_, rfl⟩
      rw [hT] at t1 t2 FW ET
      rw [hS] at s1 s2 ET
      rw [hS]
      obtain ⟨X, hX⟩ : ∃ X, (A : Int) % W = X := ⟨_, rfl⟩
      obtain ⟨Y, hY⟩ : ∃ Y, (A : Int) / W = Y := ⟨_, rfl⟩
      rw [hX] at g1 FW
      rw [hY] at g2 FW
      subst hae
      have l9 := KCr.out.lt
      have d0 := KCr.out.cell 0
      have d1 := KCr.out.cell 1
      simp only [List.getElem?_toArray, List.getElem?_cons_zero, List.getElem?_cons_succ] at d0 d1
      clear sb hS hT hX hY hA
      go_wp2_with fail
      refine (FW.out _).mono ?_
      rintro e w3 ⟨rfl, hb⟩
      have HW3 := Lib.hid (bTrans (bAlloc HWr.out _) hb)
      clear hb
      go_wp2_with fail
      go_roundw
      case rel => exact ⟨k + 1, by omega, by go_num, by rw [ET.out], HW3.out⟩
      case measure => simp [intOf]; omega
    · obtain rfl : d = k := by omega
      go_wp2_with fail
      go_ret
      exact ⟨ret_int (by rw [List.take_of_length_le (by have := HD.out; omega)]), bTrans HB2.out HWr.out⟩

set_option maxRecDepth 100000 in
set_option maxHeartbeats 1600000 in
theorem impl_CrowdAt (W H : Int) (ad : Option Addr) (n cap : Nat) (xs : List Int) (i : Int) (w : World) (hn : xs.length = n) (ha : Rd w ad xs) (hl : n ≤ 9223372036854775807) :
    Calls Try.prog 21 #[.agg #[.int .i64 W, .int .i64 H, .slice ad n cap], .int .i64 i] w fun e w' => e = .returned (.int .i64 (crowdF W H xs i)) ∧ Below w.heap.size w w' := by
  have HN := Lib.hid hn
  have HA := Lib.hid ha
  clear hn ha
  go_enter Try.func21, Try.ntmps21
  go_wp2_with fail
  refine (impl_hasFieldPoint _ _ _ _ _ xs _ _ HN.out (by exact HA.out.alloc _) hl).mono ?_
  rintro e w1 ⟨rfl, hb⟩
  have HB1 := Lib.hid ((Joins.below_alloc1 _ _).trans (hb.mono (by simp)))
  have KP1 := Lib.hid ((Blk.new w 25 #[.int .i64 W, .int .i64 H, .slice ad n cap]).below' hb)
  have RP1 := Lib.hid ((HA.out.alloc (.cells #[.int .i64 W, .int .i64 H, .slice ad n cap] 25)).below hb)
  obtain ⟨l1, c0, c1, c2⟩ := KP1.out.c3
  clear hb
  by_cases hi : (fieldOk W H xs && decide (0 ≤ i ∧ i < (n : Int))) = true
  · rw [hi]
    simp only [Bool.and_eq_true, decide_eq_true_eq] at hi
    obtain ⟨hok, hi⟩ := hi
    have E : Hid (crowdF W H xs i = crowdG W H xs i.toNat) := Lib.hid (by unfold crowdF; rw [if_pos ⟨hok, by rw [HN.out]; exact hi⟩])
    obtain ⟨b1, b2, b3, b4, b5, b6, b7, b8, b9⟩ := field_bd HN.out hok
    have B5 := Lib.hid b5
    have B8 := Lib.hid b8
    have B9 := Lib.hid b9
    clear b5 b8 b9
    obtain ⟨I, hI⟩ : ∃ I : Nat, i = I := ⟨i.toNat, by omega⟩
    subst hI
    have E2 : Hid (sumW W H I (onesTo xs n) = crowdG W H xs I) := Lib.hid (by rw [sumW_ones]; unfold crowdG; rw [HN.out])
    have MK : Hid (∀ v, BelowL w1 v → v.cell? ⟨w.heap.size, 0, none⟩ = some (.int .i64 W) ∧ v.cell? ⟨w.heap.size, 1, none⟩ = some (.int .i64 H) ∧ v.cell? ⟨w.heap.size, 2, none⟩ = some (.slice ad n cap) ∧ BelowL w1 v) := Lib.hid (fun v hB => ⟨(hB.out.cell l1).trans c0, (hB.out.cell l1).trans c1, (hB.out.cell l1).trans c2, hB⟩)
    have CD : Hid (∀ v, BelowL w1 v → Calls Try.prog 50 #[.agg #[.int .i64 W, .int .i64 H, .slice ad n cap]] v fun e w' => ∃ a d c, e = .returned (.slice a d c) ∧ (onesTo xs n).length = d ∧ Rd w' a (flatC W (onesTo xs n)) ∧ Below v.heap.size v w') := Lib.hid (fun v hv => (impl_dotsOf W H ad n cap xs v HN.out (RP1.out.below hv.out) (Or.inr ⟨b1, by simp only []; omega, b3, by simp only []; omega, by simp only []; rw [HN.out]; exact B5.out, by simp only []; rw [HN.out]; exact b6⟩)).mono (fun e w' ⟨a, d, c, h1, h2, h3, h4⟩ => ⟨a, d, c, h1, h2, h3.rd, h4⟩))
    have CI := Lib.hid (fun v : World => impl_cellOf W H ad n cap I v b1 (by omega) B5.out b6 (by omega))
    have CW := Lib.hid (fun (v : World) (sa : Option Addr) (d sc : Nat) hd hr => impl_crowdOf W H ad sa n cap d sc I (onesTo xs n) v b1 b2 b3 b4 B5.out b6 (by omega) (fun k hk => (ones_mem.1 hk).1) hd (by have := ones_len xs n; omega) hr)
    obtain ⟨P, hP⟩ : ∃ P, (I : Int) % W = P := ⟨_, rfl⟩
    obtain ⟨Q, hQ⟩ : ∃ Q, (I : Int) / W = Q := ⟨_, rfl⟩
    rw [hP, hQ] at CI CW
    obtain ⟨ls, hls⟩ : ∃ ls, onesTo xs n = ls := ⟨_, rfl⟩
    rw [hls] at CD CW E2
    clear hP hQ hi hok hls
    go_wp2_with fail
    go_region_held3 (fun v => v.cell? ⟨w.heap.size, 0, none⟩ = some (.int .i64 W) ∧ v.cell? ⟨w.heap.size, 1, none⟩ = some (.int .i64 H) ∧ v.cell? ⟨w.heap.size, 2, none⟩ = some (.slice ad n cap) ∧ BelowL w1 v)
      (first | exact MK.out _ hb3 | exact MK.out _ hb2 | exact MK.out _ hb1 | exact MK.out _ (BelowL.start _))
      (first
        | (go_at_call 50; ((with_reducible refine (CD.out _ (limb4 (by assumption))).mono ?_); rintro e v1 ⟨sa, d, sc, rfl, hd, hr, hq1⟩; have hb1 := BelowL.call (limb4 (by assumption)) hq1; have HDD := Lib.hid hd; have HRR := Lib.hid hr; clear hd hr))
        | (go_at_call 51; ((with_reducible refine (CI.out _).mono ?_); rintro e v2 ⟨rfl, hq2⟩; have hb2 := BelowL.call (limb4 (by assumption)) hq2))
        | (go_at_call 49; ((with_reducible refine (CW.out _ _ _ _ HDD.out (by exact HRR.out.below hq2)).mono ?_); rintro e v3 ⟨rfl, hq3⟩; have hb3 := BelowL.call (limb4 (by assumption)) hq3)))
    have HB3 := Lib.hid (bTrans HB1.out hb3.out)
    go_wp2_with fail
    go_ret
    exact ⟨ret_int (by rw [E.out, E2.out]; simp), HB3.out⟩
  · have E : Hid (crowdF W H xs i = -1) := Lib.hid (by unfold crowdF; rw [if_neg (fun h => hi (by rw [h.1]; rw [HN.out] at h; simp; exact h.2))])
    have hi2 : (fieldOk W H xs && decide (0 ≤ i ∧ i < (n : Int))) = false := by simpa only [Bool.not_eq_true] using hi
    rw [hi2]
    clear hi hi2
    go_wp2_with fail
    go_ret
    exact ⟨ret_int (by rw [E.out]), HB1.out⟩

end Go.Proofs.Ytnhjdmdnicnmmaa
