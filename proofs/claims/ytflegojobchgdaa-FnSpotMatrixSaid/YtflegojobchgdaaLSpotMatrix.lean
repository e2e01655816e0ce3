/-
  FnSpotMatrix: the matrix of a lattice has the plates of its spots below its levels: the law returns true for every code. No conditions.
-/
import Derived.Test.YtflegojobchgdaaN24
import Derived.Test.YtflegojobchgdaaN21
import Derived.Test.YtflegojobchgdaaD4
import Derived.Test.YtflegojobchgdaaD6
import Derived.Test.YtflegojobchgdaaRLb
import Derived.Test.YtflegojobchgdaaFrameC
namespace Go.Proofs.Ytflegojobchgdaa.lSpotMatrix
open Go.ChangeShapes Go.WideShapes Go.ChangeAt Go.RowKit
set_option linter.unusedVariables false
set_option linter.unusedSimpArgs false

theorem count_le (P Q : Nat → Bool) (n : Nat) (h : ∀ j, j < n → P j = true → Q j = true) : (List.range n).countP P ≤ (List.range n).countP Q := by
  induction n with
  | zero => simp
  | succ n ih =>
    have ih := ih (fun j hj => h j (by omega))
    have hn := h n (by omega)
    rw [List.range_succ, List.countP_append, List.countP_append]
    by_cases p : P n = true
    · simp [p, hn p]; omega
    · by_cases q : Q n = true <;> simp [p, q] <;> omega

theorem count_lt (P Q : Nat → Bool) (n i : Nat) (hi : i < n) (h : ∀ j, j < n → P j = true → Q j = true) (h1 : P i = false) (h2 : Q i = true) : (List.range n).countP P < (List.range n).countP Q := by
  induction n with
  | zero => omega
  | succ n ih =>
    rw [List.range_succ, List.countP_append, List.countP_append]
    by_cases e : i = n
    · subst e
      have := count_le P Q i (fun j hj => h j (by omega))
      simp [h1, h2]; omega
    · have ih := ih (by omega) (fun j hj => h j (by omega))
      have hn := h n (by omega)
      by_cases p : P n = true
      · simp [p, hn p]; omega
      · by_cases q : Q n = true <;> simp [p, q] <;> omega

theorem place_level {key : Int → Int} {n i : Nat} (hi : i < n) (k : Int) : placeC key (i : Int) n < (List.range n).countP (fun (j : Nat) => decide (key (j : Int) < k)) ↔ key (i : Int) < k := by
  rw [placeC_count]
  constructor
  · intro h
    by_cases c : key (i : Int) < k
    · exact c
    · exfalso
      have := count_le (fun (j : Nat) => decide (key (j : Int) < k)) (fun (j : Nat) => RLb key (j : Int) (i : Int)) n (fun j hj h1 => by
        simp only [decide_eq_true_eq] at h1
        exact RLb_iff.2 (Or.inl (by omega)))
      omega
  · intro c
    refine count_lt _ _ n i hi (fun j hj h1 => ?_) ?_ (by simpa using c)
    · have h2 := RLb_iff.1 h1
      simp only [decide_eq_true_eq]
      rcases h2 with h2 | h2 <;> omega
    · have : ¬ RLb key (i : Int) (i : Int) = true := fun h => RL.irrefl (RLb_iff.1 h)
      simpa using this

theorem smat_ok {d : Int} {n : Nat} (key : Int → Int) (hs : matSize d d = true) (hq : (n : Int) = d * d) : matOk d d (ranksL key n) = true := by
  unfold matOk permOk inR ranksL
  rw [hs, gen_len, decide_eq_true hq, Bool.true_and, Bool.true_and, Bool.and_eq_true]
  constructor
  · rw [List.all_eq_true]
    intro x hx
    unfold gen at hx
    simp at hx
    obtain ⟨i, hi, rfl⟩ := hx
    have := placeC_bd (key := key) hi
    simp; omega
  · rw [decide_eq_true_eq]
    unfold gen
    rw [List.Nodup, List.pairwise_map]
    exact List.Pairwise.imp_of_mem (fun {a b} ha hb hab => by
      simp at ha hb
      intro e
      exact hab (placeC_inj (key := key) ha hb (by omega))) List.nodup_range

theorem mat_all : (lats16.all (fun c => matSize (perI c.1 c.2) (perI c.1 c.2))) = true := by decide +kernel

theorem square_mat {A B n g d a b p q : Int} (L : Lat A B n g d a b p q) (hm : (A, B) ∈ lats16) : matSize d d = true := by
  have h0 := List.all_eq_true.1 mat_all _ hm
  simp only at h0
  rwa [L.hw] at h0

theorem smat_below {A B d : Int} {N : Nat} {g a b p q : Int} (L : Lat A B (N : Int) g d a b p q) (hm : (A, B) ∈ lats16) (n : Nat) (hq : (n : Int) = d * d) (nm : Nat → Nat) (hnm : Named A B d n nm) (k : Nat) (hk : k ≤ N) :
    cellsF d d (ranksL (overK A B d N nm) n) ((k * (n / N) : Nat) : Int) = ⟨d, d, gen n (plateG A B d N nm k)⟩ := by
  have d1 := L.w1
  obtain ⟨D, hD⟩ : ∃ D : Nat, (D : Int) = d := ⟨d.toNat, by omega⟩
  have hn : n = D * D := by have : (n : Int) = ((D * D : Nat) : Int) := by rw [hq, ← hD]; simp
                            exact_mod_cast this
  have hc := even_below L hm D n hD hn nm hnm (nearK A B d) k hk
  have hle : k * (n / N) ≤ n := by
    rw [← hc]
    refine Nat.le_trans List.countP_le_length ?_
    simp
  unfold cellsF
  rw [if_pos ⟨smat_ok _ (square_mat L hm) hq, by omega, by rw [ranksL, gen_len]; omega, square_size L hm⟩]
  congr 1
  have hl : (ranksL (overK A B d N nm) n).length = n := by rw [ranksL, gen_len]
  refine gen_ext n _ _ (by simp [hl]) (fun i hi => ?_)
  have hp := place_level (key := overK A B d N nm) hi (k : Int)
  have hcc : (List.range n).countP (fun (j : Nat) => decide (overK A B d N nm (j : Int) < (k : Int))) = k * (n / N) := by
    rw [← hc]
    refine List.countP_congr (fun j hj => ?_)
    have e : overK A B d N nm (j : Int) = (placeC (nearK A B d) (nm j : Int) N : Int) := rfl
    rw [e]; simp
  rw [hcc] at hp
  have e1 : overK A B d N nm (i : Int) = overF A B d N nm i := rfl
  rw [e1] at hp
  have e2 : (ranksL (overK A B d N nm) n).getD i 0 = (placeC (overK A B d N nm) (i : Int) n : Int) := by rw [ranksL, gen_get _ _ _ hi]
  have e3 : ((ranksL (overK A B d N nm) n).map (cellsG ((k * (n / N) : Nat) : Int))).getD i 0 = cellsG ((k * (n / N) : Nat) : Int) ((placeC (overK A B d N nm) (i : Int) n : Nat) : Int) := by
    rw [← e2]
    simp [List.getD, hl, hi]
  rw [e3]
  unfold cellsG plateG
  by_cases c : overF A B d N nm i < (k : Int)
  · have := hp.2 c
    rw [if_pos c, if_pos (by omega)]
  · have : ¬ placeC (overK A B d N nm) (i : Int) n < k * (n / N) := fun h => c (hp.1 h)
    rw [if_neg c, if_neg (by omega)]

set_option maxHeartbeats 400000 in
theorem laws_ints (a b : Option Addr) (n m c d : Nat) (xs ys : List Int) (w : World) (hn : xs.length = n) (hm : ys.length = m) (ha : Rd w a xs) (hb : Rd w b ys) (hl : n ≤ 9223372036854775807) (hl2 : m ≤ 9223372036854775807) :
    Calls Try.prog 49 #[.slice a n c, .slice b m d] w fun e w' => e = .returned (.bool (decide (xs = ys))) ∧ Below w.heap.size w w' := by
  by_cases hnm : n = m
  case neg =>
    have H : Hid (¬ xs = ys) := fun h => hnm (by rw [← hn, ← hm, h])
    have hq : ((n : Int) == (m : Int)) = false := by simp; omega
    have hq2 : ((n : Int) != (m : Int)) = true := by simp; omega
    have HN := Lib.hid hn
    have HM := Lib.hid hm
    have HA := Lib.hid ha
    have HB := Lib.hid hb
    clear hn hm hnm ha hb
    go_enter Try.func49, Try.ntmps49
    go_wp2
    go_ret
    exact ⟨by simp [H.out], Below.refl _ _⟩
  case pos =>
    subst hnm
    have HN := Lib.hid hn
    have HM := Lib.hid hm
    have HA := Lib.hid ha
    have HB := Lib.hid hb
    clear hn hm ha hb
    go_enter Try.func49, Try.ntmps49
    go_wp2
    go_loopw [13] (fun i wr => ∃ k : Nat, k ≤ n ∧ i = .int .i64 k ∧ Hid (xs.take k = ys.take k) ∧ ∃ q, wr = w.drewN q) (fun i _ => n - (intOf i).toNat)
    case atStart => exact ⟨0, Nat.zero_le _, rfl, rfl, 0, rfl⟩
    case round =>
      obtain ⟨k, hk, rfl, HT, q, rfl⟩ := hrel
      by_cases hlt : k < n
      · obtain ⟨ba, oa, hae, hal, hac⟩ := HA.out.at (by have := HN.out; omega)
        obtain ⟨bb, ob, hbe, hbl, hbc⟩ := HB.out.at (by have := HM.out; omega)
        subst hae hbe
        have h1 : w.cell? ⟨ba, oa + k, none⟩ = some (.int .i64 (xs.getD k 0)) := hac k (by have := HN.out; omega)
        have h2 : w.cell? ⟨bb, ob + k, none⟩ = some (.int .i64 (ys.getD k 0)) := hbc k (by have := HM.out; omega)
        clear hac hbc
        go_wp2
        go_quiet (fail)
        go_wp2
        · have hne : (xs[k]?.getD 0 != ys[k]?.getD 0) = true := by assumption
          go_ret
          refine ⟨ret_bool ?_, (Joins.below_draws _ _ _).trans (Joins.below_draws _ _ _)⟩
          symm; rw [decide_eq_false_iff_not]
          intro h; subst h; simp at hne
        · have hne : (xs[k]?.getD 0 != ys[k]?.getD 0) = false := by assumption
          go_roundw
          case rel => exact ⟨k + 1, by omega, by go_num, take_succ_eq (by have := HN.out; omega) (by have := HM.out; omega) HT.out (by simpa using hne), (by first | exact draws1 _ _ | exact draws2 _ _ _)⟩
          case measure => simp [intOf]; omega
      · go_wp2
        go_ret
        refine ⟨ret_bool ?_, Joins.below_draws _ _ _⟩
        symm; rw [decide_eq_true_iff]
        have h := HT.out
        rwa [List.take_of_length_le (by have := HN.out; omega), List.take_of_length_le (by have := HM.out; omega)] at h

set_option maxHeartbeats 400000 in
theorem laws_same (W H : Int) (a : Option Addr) (n c : Nat) (xs : List Int) (W' H' : Int) (b : Option Addr) (m d : Nat) (ys : List Int) (w : World) (hn : xs.length = n) (ha : Rd w a xs) (hl : n ≤ 9223372036854775807) (hm : ys.length = m) (hb : Rd w b ys) (hl2 : m ≤ 9223372036854775807) :
    Calls Try.prog 25 #[.agg #[.int .i64 W, .int .i64 H, .slice a n c], .agg #[.int .i64 W', .int .i64 H', .slice b m d]] w fun e w' => e = .returned (.bool (decide (W = W' ∧ H = H' ∧ xs = ys))) ∧ Below w.heap.size w w' := by
  have HN := Lib.hid hn
  have HM := Lib.hid hm
  have HA := Lib.hid ha
  have HB := Lib.hid hb
  clear hn hm ha hb
  by_cases h1 : W = W'
  case neg =>
    have hq : (W == W') = false := by simpa using h1
    have HF : Hid (decide (W = W' ∧ H = H' ∧ xs = ys) = false) := Lib.hid (decide_eq_false (fun h => h1 h.1))
    clear h1
    go_enter Try.func25, Try.ntmps25
    go_wp2_with fail
    go_ret
    exact ⟨ret_bool HF.out.symm, Joins.below_alloc2 _ _ _⟩
  case pos =>
    by_cases h2 : H = H'
    case neg =>
      have hq : (W == W') = true := by simpa using h1
      have hq2 : (H == H') = false := by simpa using h2
      have HF : Hid (decide (W = W' ∧ H = H' ∧ xs = ys) = false) := Lib.hid (decide_eq_false (fun h => h2 h.2.1))
      clear h1 h2
      go_enter Try.func25, Try.ntmps25
      go_wp2_with fail
      go_ret
      exact ⟨ret_bool HF.out.symm, Joins.below_alloc2 _ _ _⟩
    case pos =>
      have hq : (W == W') = true := by simpa using h1
      have hq2 : (H == H') = true := by simpa using h2
      have HF : Hid (decide (W = W' ∧ H = H' ∧ xs = ys) = decide (xs = ys)) := Lib.hid (by simp [h1, h2])
      rw [HF.out]
      clear h1 h2
      go_enter Try.func25, Try.ntmps25
      go_wp2_with fail
      refine (laws_ints a b n m c d xs ys _ HN.out HM.out (HA.out.below (Joins.below_alloc2 _ _ _)) (HB.out.below (Joins.below_alloc2 _ _ _)) hl hl2).mono ?_
      rintro e w1 ⟨rfl, hb1⟩
      have HB1 := Lib.hid (bTrans (Joins.below_alloc2 w _ _) hb1)
      clear hb1
      go_wp2_with fail
      go_ret
      exact ⟨rfl, HB1.out⟩

theorem mod_of (v N : Nat) (h2 : N ≤ 288) : ∃ k : Nat, (v : Int).tmod ((N : Int) + 1) = (k : Int) ∧ (v : Int) % ((N : Int) + 1) = (k : Int) ∧ IntKind.i64.wrap (k : Int) = (k : Int) ∧ k ≤ N := by
  have e := Int.tmod_eq_emod_of_nonneg (b := (N : Int) + 1) (show 0 ≤ (v : Int) by omega)
  have m1 := Int.emod_nonneg (v : Int) (show (N : Int) + 1 ≠ 0 by omega)
  have m2 := Int.emod_lt_of_pos (v : Int) (show 0 < (N : Int) + 1 by omega)
  obtain ⟨k, hk⟩ : ∃ k : Nat, (v : Int) % ((N : Int) + 1) = (k : Int) := ⟨((v : Int) % ((N : Int) + 1)).toNat, by omega⟩
  exact ⟨k, by rw [e, hk], hk, IntWalk.i64_in _ (by omega), by omega⟩

theorem quo_of (n N : Nat) (h1 : 1 ≤ N) (h2 : n ≤ 1024) : (n : Int).tdiv (N : Int) = ((n / N : Nat) : Int) ∧ IntKind.i64.wrap ((n / N : Nat) : Int) = ((n / N : Nat) : Int) ∧ n / N ≤ 1024 := by
  have h := Nat.div_le_self n N
  have e : (n : Int).tdiv (N : Int) = ((n / N : Nat) : Int) := by rw [Int.tdiv_eq_ediv_of_nonneg (by omega)]; rfl
  obtain ⟨c, hc⟩ : ∃ c, n / N = c := ⟨_, rfl⟩
  rw [hc] at h e ⊢
  exact ⟨e, IntWalk.i64_in _ (by omega), by omega⟩

theorem plate_call {A B d : Int} {N : Nat} {g a b p q : Int} (L : Lat A B (N : Int) g d a b p q) (lv : Int) (m : Nat) (nm : Nat → Nat) (hnm : Named A B d m nm) (l1 : 0 ≤ lv) (l2 : lv ≤ N) (hs : sizeOk d d = true) (hq : (m : Int) = d * d) (w : World) :
    Calls Try.prog 18 #[.agg #[.int .i64 A, .int .i64 B], .int .i64 lv, .int .i64 d, .int .i64 d] w fun e w' => ∃ a n c, e = .returned (.tuple #[.agg #[.int .i64 d, .int .i64 d, .slice a n c], .bool true]) ∧ OwnA w' w.heap.size a n c (gen m (plateG A B d N nm lv)) ∧ n ≤ 1048576 ∧ Below w.heap.size w w' :=
  impl_SpotPlate_yes L lv d d m nm hnm l1 l2 hs hq w

theorem smat_call {A B d : Int} {N : Nat} {g a b p q : Int} (L : Lat A B (N : Int) g d a b p q) (m : Nat) (nm : Nat → Nat) (hnm : Named A B d m nm) (hs : matSize d d = true) (hq : (m : Int) = d * d) (w : World) :
    Calls Try.prog 23 #[.agg #[.int .i64 A, .int .i64 B]] w fun e w' => ∃ a n c, e = .returned (.tuple #[.agg #[.int .i64 d, .int .i64 d, .slice a n c], .bool true]) ∧ OwnA w' w.heap.size a n c (ranksL (overK A B d N nm) m) ∧ n ≤ 1048576 ∧ Below w.heap.size w w' :=
  impl_SpotMatrix_yes L m nm hnm hs hq w

theorem below_call {A B d : Int} {N : Nat} {g a b p q : Int} (L : Lat A B (N : Int) g d a b p q) (hm : (A, B) ∈ lats16) (m : Nat) (nm : Nat → Nat) (hnm : Named A B d m nm) (hq : (m : Int) = d * d) (k C : Nat) (hk : k ≤ N) (hC : k * (m / N) = C) (ad : Option Addr) (n cap : Nat) (w : World) (hn : (ranksL (overK A B d N nm) m).length = n) (ha : Rd w ad (ranksL (overK A B d N nm) m)) (hl : n ≤ 1048576) :
    Calls Try.prog 26 #[.agg #[.int .i64 d, .int .i64 d, .slice ad n cap], .int .i64 C] w fun e w' => ∃ a n' c, e = .returned (.agg #[.int .i64 d, .int .i64 d, .slice a n' c]) ∧ OwnA w' w.heap.size a n' c (gen m (plateG A B d N nm k)) ∧ n' ≤ 1048576 ∧ Below w.heap.size w w' := by
  have h := impl_CellsBelow d d ad n cap _ (C : Int) w hn ha (by omega)
  rw [← hC, smat_below L hm m hq nm hnm k hk] at h
  rw [← hC]
  exact h

set_option maxRecDepth 100000 in
set_option maxHeartbeats 3200000 in
theorem ok (ad0 : Option Addr) (n0 cap0 : Nat) (bs0 : List Int) (w : World) (hn0 : bs0.length = n0) (hr0 : RdU w.heap.size w ad0 bs0) (hs0 : n0 ≤ 1048576) :
    Calls Try.prog 7 #[.slice ad0 n0 cap0] w fun e w' => e = .returned (.bool true) ∧ Below w.heap.size w w' := by
  have HL := Lib.hid hn0
  have HC := Lib.hid hr0
  clear hn0 hr0
  go_enter Try.func7, Try.ntmps7
  go_wp2_with fail
  refine (lat_call ad0 n0 cap0 bs0 _ HL.out (by exact HC.out) (by omega)).mono ?_
  rintro e w1 ⟨A, B, rfl, hm, hb⟩
  obtain ⟨a1, a2, b1, b2, hok⟩ := lat_list hm
  obtain ⟨n, g, d, a, b, p, q, hLat⟩ := lat_of hok
  have n1 := hLat.n1
  have n2 := hLat.n2
  obtain ⟨N, rfl⟩ : ∃ N : Nat, n = N := ⟨n.toNat, by omega⟩
  have hss := square_size hLat hm
  obtain ⟨s1, s2, s3, s4, s5, s6⟩ := sizeOk_bd hss
  obtain ⟨m, hq⟩ : ∃ m : Nat, (m : Int) = d * d := ⟨_, (toNat_mul hss).1⟩
  obtain ⟨nm, hnm⟩ := named_ex hLat d m
  have T := Lib.hid hLat
  have HM : Hid ((A, B) ∈ lats16) := Lib.hid hm
  have HS := Lib.hid hss
  have HQ := Lib.hid hq
  have HNM := Lib.hid hnm
  have HMS := Lib.hid (square_mat hLat hm)
  have KP1 := Lib.hid (Blk.new w1 24 #[.int .i64 A, .int .i64 B])
  have HB1 := Lib.hid (bAlloc hb (.cells #[.int .i64 A, .int .i64 B] 24))
  have m1 : m ≤ 1024 := by omega
  clear hb hLat hok hm hss hq hnm s5 s6
  go_wp2_with fail
  refine (spec_AreaOf_yes T.out _).mono ?_
  rintro e w2 ⟨rfl, hb⟩
  have HB2 := Lib.hid (bTrans HB1.out hb)
  have KP2 := Lib.hid (KP1.out.below' hb)
  clear hb
  obtain ⟨z, c0, c1⟩ := KP2.out.c2
  go_wp2_with fail
  refine (spec_PeriodOf_yes T.out _).mono ?_
  rintro e w3 ⟨rfl, hb⟩
  have HB3 := Lib.hid (bTrans HB2.out hb)
  have KP3 := Lib.hid (KP2.out.below' hb)
  clear hb z c0 c1
  obtain ⟨z, c0, c1⟩ := KP3.out.c2
  go_wp2_with fail
  refine (smat_call T.out m nm HNM.out HMS.out HQ.out _).mono ?_
  rintro e w4 ⟨ap, np, cp, rfl, ho, hnp, hb⟩
  have KP4 := Lib.hid ((KP3.out.below' hb).alloc (.cells #[.int .i64 d, .int .i64 d, .slice ap np cp] 42))
  have KA4 := Lib.hid (Blk.new w4 42 #[.int .i64 d, .int .i64 d, .slice ap np cp])
  have HOP4 := Lib.hid (ho.alloc (.cells #[.int .i64 d, .int .i64 d, .slice ap np cp] 42))
  have HB4 := Lib.hid (bAlloc (bTrans HB3.out hb) (.cells #[.int .i64 d, .int .i64 d, .slice ap np cp] 42))
  clear hb ho z c0 c1
  obtain ⟨za, p0, p1, p2⟩ := KA4.out.c3
  have dd : (d != d) = false := by simp
  go_wp2_with fail
  refine (impl_IsMatrix d d ap np cp _ _ HOP4.out.len (by exact HOP4.out.rd) (by omega)).mono ?_
  rw [smat_ok _ HMS.out HQ.out]
  rintro e w5 ⟨rfl, hb⟩
  have KP5 := Lib.hid (KP4.out.below' hb)
  have KA5 := Lib.hid (KA4.out.below' hb)
  have HOP5 := Lib.hid (HOP4.out.below' hb)
  have HB5 := Lib.hid (bTrans HB4.out hb)
  clear hb za p0 p1 p2
  go_wp2_with fail
  refine (at_callL _ ad0 n0 cap0 bs0 1 _ HL.out (by exact HC.out.below HB5.out) (by omega) (by omega)).mono ?_
  rintro e wv ⟨u1, rfl, hu1, rfl⟩
  obtain ⟨k, t1, t2, t3, k1⟩ := mod_of u1 N (by omega)
  have HT2 := Lib.hid t2
  clear t2
  obtain ⟨z, c0, c1⟩ := KP5.out.c2
  go_wp2_with fail
  refine (plate_call T.out (k : Int) m nm HNM.out (by omega) (by omega) HS.out HQ.out _).mono ?_
  rintro e w6 ⟨aq, nq, cq, rfl, ho, hnq, hb⟩
  have KA6 := Lib.hid ((KA5.out.below' hb).alloc (.cells #[.int .i64 d, .int .i64 d, .slice aq nq cq] 35))
  have KQ6 := Lib.hid (Blk.new w6 35 #[.int .i64 d, .int .i64 d, .slice aq nq cq])
  have HOP6 := Lib.hid ((HOP5.out.below' hb).alloc (.cells #[.int .i64 d, .int .i64 d, .slice aq nq cq] 35))
  have HOQ6 := Lib.hid (ho.alloc (.cells #[.int .i64 d, .int .i64 d, .slice aq nq cq] 35))
  have HB6 := Lib.hid (bAlloc (bTrans HB5.out hb) (.cells #[.int .i64 d, .int .i64 d, .slice aq nq cq] 35))
  clear hb ho z c0 c1
  go_wp2_with fail
  obtain ⟨wo, hwo⟩ : ∃ wo : World, wo = w6.alloc (.cells #[.int .i64 d, .int .i64 d, .slice aq nq cq] 35) := ⟨_, rfl⟩
  rw [← hwo] at KA6 KQ6 HOP6 HOQ6 HB6 ⊢
  clear hwo
  obtain ⟨f1, f2, f3⟩ := quo_of m N (by omega) m1
  obtain ⟨C, hC⟩ : ∃ C, k * (m / N) = C := ⟨_, rfl⟩
  have HCC := Lib.hid hC
  obtain ⟨c, hc⟩ : ∃ c, m / N = c := ⟨_, rfl⟩
  rw [hc] at f1 f2 f3 hC
  have kc : k * c ≤ 288 * 1024 := Nat.mul_le_mul (by omega) f3
  rw [hC] at kc
  have e1 : d * d = (m : Int) := HQ.out.symm
  have e2 : IntKind.i64.wrap (m : Int) = m := IntWalk.i64_in _ (by omega)
  have e5 : (k : Int) * (c : Int) = (C : Int) := by rw [← hC]; simp
  have e6 : IntKind.i64.wrap (C : Int) = C := IntWalk.i64_in _ (by omega)
  have z1 : ¬ (N : Int) = 0 := by omega
  have z2 : ((N : Int) == 0) = false := by simp; omega
  have z3 : ¬ N = 0 := by omega
  have z4 : (N == 0) = false := by simp; omega
  obtain ⟨za, p0, p1, p2⟩ := KA6.out.c3
  obtain ⟨zq, q0, q1, q2⟩ := KQ6.out.c3
  have CA : Hid (∀ v, BelowL wo v → Calls Try.prog 26 #[.agg #[.int .i64 d, .int .i64 d, .slice ap np cp], .int .i64 (C : Int)] v fun e w' => ∃ a n' c, e = .returned (.agg #[.int .i64 d, .int .i64 d, .slice a n' c]) ∧ OwnA w' v.heap.size a n' c (gen m (plateG A B d N nm k)) ∧ n' ≤ 1048576 ∧ Below v.heap.size v w') := Lib.hid (fun v hv => below_call T.out HM.out m nm HNM.out HQ.out k C k1 HCC.out ap np cp v HOP6.out.len (HOP6.out.rd.below hv.out) (by omega))
  have CV : Hid (∀ (v : World) (a7 : Option Addr) (n7 c7 : Nat), BelowL wo v → Rd v a7 (gen m (plateG A B d N nm k)) → (gen m (plateG A B d N nm k)).length = n7 → n7 ≤ 1048576 → Calls Try.prog 25 #[.agg #[.int .i64 d, .int .i64 d, .slice a7 n7 c7], .agg #[.int .i64 d, .int .i64 d, .slice aq nq cq]] v fun e v' => e = .returned (.bool true) ∧ Below v.heap.size v v') := Lib.hid (fun v a7 n7 c7 hv h7 hl7 hn7 =>
    (laws_same d d a7 n7 c7 _ d d aq nq cq _ v hl7 h7 (by omega) HOQ6.out.len (HOQ6.out.rd.below hv.out) (by omega)).mono fun e w' ⟨he, hb⟩ => ⟨by rw [he]; exact ret_bool (by simp), hb⟩)
  have MK : Hid (∀ v, BelowL wo v → v.cell? ⟨w4.heap.size, 0, none⟩ = some (.int .i64 d) ∧ v.cell? ⟨w4.heap.size, 1, none⟩ = some (.int .i64 d) ∧ v.cell? ⟨w4.heap.size, 2, none⟩ = some (.slice ap np cp) ∧ v.cell? ⟨w6.heap.size, 0, none⟩ = some (.int .i64 d) ∧ v.cell? ⟨w6.heap.size, 1, none⟩ = some (.int .i64 d) ∧ v.cell? ⟨w6.heap.size, 2, none⟩ = some (.slice aq nq cq) ∧ BelowL wo v) := Lib.hid (fun v h => ⟨(h.out.cell za).trans p0, (h.out.cell za).trans p1, (h.out.cell za).trans p2, (h.out.cell zq).trans q0, (h.out.cell zq).trans q1, (h.out.cell zq).trans q2, h⟩)
  clear hc hC
  go_region_held3 (fun v => v.cell? ⟨w4.heap.size, 0, none⟩ = some (.int .i64 d) ∧ v.cell? ⟨w4.heap.size, 1, none⟩ = some (.int .i64 d) ∧ v.cell? ⟨w4.heap.size, 2, none⟩ = some (.slice ap np cp) ∧ v.cell? ⟨w6.heap.size, 0, none⟩ = some (.int .i64 d) ∧ v.cell? ⟨w6.heap.size, 1, none⟩ = some (.int .i64 d) ∧ v.cell? ⟨w6.heap.size, 2, none⟩ = some (.slice aq nq cq) ∧ BelowL wo v)
    (first | exact MK.out _ hb2 | exact MK.out _ hb1 | exact MK.out _ (BelowL.start _))
    (first
      | (go_at_call 26; ((with_reducible refine (CA.out _ (limb7 (by assumption))).mono ?_); rintro e v1 ⟨a7, n7, c7, rfl, ho7, hn7, hq1⟩; have hb1 := BelowL.call (limb7 (by assumption)) hq1))
      | (go_at_call 25; ((with_reducible refine (CV.out _ a7 n7 c7 (limb7 (by assumption)) (by first | exact ho7.rd | exact ho7.rd.drew) (by exact ho7.len) (by exact hn7)).mono ?_); rintro e v2 ⟨rfl, hq2⟩; have hb2 := BelowL.call (limb7 (by assumption)) hq2)))
  have HB7 := Lib.hid (bTrans HB6.out hb2.out)
  go_wp2_with fail
  go_ret
  exact ⟨rfl, HB7.out⟩

set_option maxHeartbeats 400000 in
theorem big (ad0 : Option Addr) (n0 cap0 : Nat) (w : World) (h : 1048576 < n0) (hl : n0 ≤ 9223372036854775807) :
    Calls Try.prog 7 #[.slice ad0 n0 cap0] w fun e w' => e = .returned (.bool true) ∧ Below w.heap.size w w' := by
  have h2 : (1048576 : Int) < (n0 : Int) := by omega
  go_enter Try.func7, Try.ntmps7
  go_wp2_with fail
  go_ret
  exact ⟨rfl, Below.refl _ _⟩

set_option maxRecDepth 100000 in
theorem lifted (os : Os) (started : os.Started) (H : Type) (enc : TypeId × Value → H) :
    ReturnsInHanded {} Try.checked os 7 .any (Rows.fnSpotMatrixSpec.pre6 enc Try.prog Try.f7 Rows.fnSpotMatrixRow.domain false) (Rows.fnSpotMatrixSpec.post enc Try.prog Try.f7 false true false false) := by
  refine returnsInHanded_of_change (C := Try.checked) own started (by kernel_rfl) Try.func7
    (ChangeSpec.witness6 (enc := enc) (C := Try.checked) false ⟨#[], #[.slice none 0 0], []⟩ 8 (by kernel_rfl) (by kernel_rfl) (by kernel_rfl) (by kernel_rfl)) ?_
  intro W base args ds gs before hval0 hW hcnd _
  have hval : ∀ (j : Nat) t v, Try.f7.params[j]? = some t → args[j]? = some v → Value.okWide Try.prog W .any base t v := hval0
  have hW' := hW
  have hlt := hW.lt
  obtain ⟨p, q, hA0, hV, rfl, hfz, hnd⟩ := hW
  have hA : DataW.TrodAll enc Try.prog W 0 (fun _ => true) true Try.f7.params.toList args.toList ds p := hA0
  rw [Try.params7] at hA hval
  obtain ⟨v0, vs0, d0, ds0, p0, q0, hargs, rfl, rfl, h0, r0⟩ := trodAll_cons hA
  obtain ⟨rfl, rfl, rfl⟩ := trodAll_nil r0
  obtain rfl : args = #[v0] := by cases args; simp_all
  obtain ⟨rfl, rfl⟩ := trodVars_none hV
  clear hA0 hval0
  obtain ⟨ad0, n0, cap0, bs0, rfl, hn0, hr0, hl0⟩ := open_code (hval 0 22 v0 rfl rfl) h0 (fun x hx => hlt x (by simp [hx]))
  have fin : ∀ (e : Ending) W', (e = .returned (.bool true) ∧ Below W.heap.size W W') → ∃ v, e = .returned v ∧ Rows.fnSpotMatrixSpec.post enc Try.prog Try.f7 false true false false W #[.slice ad0 n0 cap0] v W' := by
    rintro e W' ⟨rfl, hb⟩
    exact ⟨_, rfl, law_post rfl rfl hW' (by kernel_rfl) rfl hb⟩
  by_cases hs0 : n0 ≤ 1048576
  case neg => exact (big ad0 n0 cap0 W (by omega) hl0).mono fin
  case pos => exact (ok ad0 n0 cap0 bs0 W hn0 hr0 hs0).mono fin

theorem proved : Rows.FnSpotMatrixSaid :=
  OpenClaim.holds_of_wide 7 Try.f7 rfl rfl rfl rfl rfl rfl rfl ⟨rfl, rfl, rfl, rfl, rfl⟩ rfl rfl rfl rfl rfl (by kernel_rfl) Try.func7 (by kernel_rfl)
    (of_decide_eq_true (by kernel_rfl)) (by unfold Func.isWrapper; first | (rw [if_pos (by decide +kernel)]; kernel_rfl) | (rw [if_neg (by decide +kernel)]; exact ⟨rfl, rfl⟩))
    (fun os started H enc _ => lifted os started H enc)
end Go.Proofs.Ytflegojobchgdaa.lSpotMatrix
