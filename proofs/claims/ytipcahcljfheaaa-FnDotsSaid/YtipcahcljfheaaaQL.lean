/-
  Contracts of the laws' own helpers, as the laws of chapter 7 call them.
-/
import Derived.Test.YtipcahcljfheaaaR3b
import Derived.Test.YtipcahcljfheaaaM40
namespace Go.Proofs.Ytipcahcljfheaaa
open Go.RowKit
set_option linter.unusedVariables false
set_option linter.unusedSimpArgs false

def atF (bs : List Int) (nc : Nat) (i : Nat) : Nat := if i < nc then (bs.getD i 0).toNat else (((i : Int) * 37 + (nc : Int) * 11) % 256).toNat

set_option maxHeartbeats 400000 in
theorem at_call6 (B : Nat) (ac : Option Addr) (nc capc : Nat) (bs : List Int) (i : Nat) (w : World) (hl : bs.length = nc) (hr : RdU B w ac bs) (hn : nc ≤ 1048576) (hi : i ≤ 100) :
    Calls Try.prog 7 #[.slice ac nc capc, .int .i64 i] w fun e w' => e = .returned (.int .i64 (atF bs nc i : Int)) ∧ Below w.heap.size w w' := by
  by_cases hlt : i < nc
  · obtain ⟨⟨u0, u1⟩, bb, bo, hae, bl, bl2, hcell⟩ := hr i (by omega)
    subst hae
    have E : Hid ((atF bs nc i : Int) = bs.getD i 0) := Lib.hid (by unfold atF; rw [if_pos hlt]; omega)
    rw [E.out]
    obtain ⟨v, hv⟩ : ∃ v : Nat, bs.getD i 0 = (v : Int) := ⟨(bs.getD i 0).toNat, by omega⟩
    rw [hv] at hcell ⊢
    have hv2 : v ≤ 255 := by omega
    clear u0 u1 hv hr E
    go_enter Try.func7, Try.ntmps7
    go_wp2
    go_ret
    exact ⟨rfl, Below.refl _ _⟩
  · clear hr
    have E : Hid ((atF bs nc i : Int) = ((i : Int) * 37 + (nc : Int) * 11) % 256) := Lib.hid (by unfold atF; rw [if_neg hlt]; omega)
    go_enter Try.func7, Try.ntmps7
    go_wp2
    go_ret
    exact ⟨ret_int (by rw [E.out]), Below.refl _ _⟩

set_option maxHeartbeats 400000 in
theorem laws_total6 (ad : Option Addr) (n cap : Nat) (xs : List Int) (w : World) (hn : xs.length = n) (ha : Rd w ad xs) (hw : within xs 255 = true) (hl : n ≤ 1048576) :
    Calls Try.prog 13 #[.slice ad n cap] w fun e w' => e = .returned (.int .i64 (isum xs)) ∧ w = w' := by
  have HI := Lib.hid hw
  have HN := Lib.hid hn
  have HA := Lib.hid ha
  clear hn ha
  clear hw
  go_enter Try.func13, Try.ntmps13
  go_wp2_with fail
  go_loop [3, 8] (fun s i => ∃ k : Nat, k ≤ n ∧ i = .int .i64 k ∧ s = .int .i64 (isum (xs.take k))) (fun _ i => n - (intOf i).toNat)
  case atStart => exact ⟨0, Nat.zero_le _, rfl, rfl⟩
  case round =>
    obtain ⟨k, hk, rfl, rfl⟩ := hrel
    by_cases hlt : k < n
    · obtain ⟨ba, oa, hae, hal, hac⟩ := HA.out.at (by have := HN.out; omega)
      have h1 := hac k (by have := HN.out; omega)
      obtain ⟨v1, v2⟩ := within_at HI.out k (by have := HN.out; omega)
      obtain ⟨t1, t2⟩ := isum_take_bd (xs := xs) HI.out k
      subst hae
      clear hac
      go_wp2_with fail
      go_round
      case rel => exact ⟨k + 1, by omega, by go_num, by rw [isum_snoc _ _ (by have := HN.out; omega)]⟩
      case measure => simp [intOf]; omega
    · go_wp2_with fail
      go_ret
      obtain rfl : k = n := by omega
      exact ⟨ret_int (by rw [List.take_of_length_le (by have := HN.out; omega)]), rfl⟩

theorem within_255 {xs : List Int} (h : within xs 1 = true) : within xs 255 = true := by
  unfold within at h ⊢
  rw [List.all_eq_true] at h ⊢
  intro x hx
  have := h x hx
  simp only [decide_eq_true_eq] at this ⊢
  omega

theorem total_call6 (ad : Option Addr) (n cap : Nat) (xs : List Int) (d : Nat) (w : World) (hn : xs.length = n) (ha : Rd w ad xs) (hw : within xs 1 = true) (hl : n ≤ 1048576) (hd : icount 1 xs = d) :
    Calls Try.prog 13 #[.slice ad n cap] w fun e w' => e = .returned (.int .i64 (d : Int)) ∧ Below w.heap.size w w' :=
  (laws_total6 ad n cap xs w hn ha (within_255 hw) hl).mono fun e w' ⟨h1, h2⟩ => ⟨by rw [h1, isum_dots (dots_of hw), hd], by rw [← h2]; exact Below.refl _ _⟩

set_option maxHeartbeats 400000 in
theorem laws_ints (a b : Option Addr) (n m c d : Nat) (xs ys : List Int) (w : World) (hn : xs.length = n) (hm : ys.length = m) (ha : Rd w a xs) (hb : Rd w b ys) (hl : n ≤ 9223372036854775807) (hl2 : m ≤ 9223372036854775807) :
    Calls Try.prog 34 #[.slice a n c, .slice b m d] w fun e w' => e = .returned (.bool (decide (xs = ys))) ∧ Below w.heap.size w w' := by
  by_cases hnm : n = m
  case neg =>
    have H : Hid (¬ xs = ys) := fun h => hnm (by rw [← hn, ← hm, h])
    have hq : ((n : Int) == (m : Int)) = false := by simp; omega
    have hq2 : ((n : Int) != (m : Int)) = true := by simp; omega
    have HN := Lib.hid hn
    have HM := Lib.hid hm
    have HA := Lib.hid ha
    have HB := Lib.hid hb
    clear hn hm hnm ha hb
    go_enter Try.func34, Try.ntmps34
    go_wp2
    go_ret
    exact ⟨by simp [H.out], Below.refl _ _⟩
  case pos =>
    subst hnm
    have HN := Lib.hid hn
    have HM := Lib.hid hm
    have HA := Lib.hid ha
    have HB := Lib.hid hb
    clear hn hm ha hb
    go_enter Try.func34, Try.ntmps34
    go_wp2
    go_loopw [13] (fun i wr => ∃ k : Nat, k ≤ n ∧ i = .int .i64 k ∧ Hid (xs.take k = ys.take k) ∧ ∃ q, wr = w.drewN q) (fun i _ => n - (intOf i).toNat)
    case atStart => exact ⟨0, Nat.zero_le _, rfl, rfl, 0, rfl⟩
    case round =>
      obtain ⟨k, hk, rfl, HT, q, rfl⟩ := hrel
      by_cases hlt : k < n
      · obtain ⟨ba, oa, hae, hal, hac⟩ := HA.out.at (by have := HN.out; omega)
        obtain ⟨bb, ob, hbe, hbl, hbc⟩ := HB.out.at (by have := HM.out; omega)
        subst hae hbe
        have h1 : w.cell? ⟨ba, oa + k, none⟩ = some (.int .i64 (xs.getD k 0)) := hac k (by have := HN.out; omega)
        have h2 : w.cell? ⟨bb, ob + k, none⟩ = some (.int .i64 (ys.getD k 0)) := hbc k (by have := HM.out; omega)
        clear hac hbc
        go_wp2
        go_quiet (fail)
        go_wp2
        · have hne : (xs[k]?.getD 0 != ys[k]?.getD 0) = true := by assumption
          go_ret
          refine ⟨ret_bool ?_, (Joins.below_draws _ _ _).trans (Joins.below_draws _ _ _)⟩
          symm; rw [decide_eq_false_iff_not]
          intro h; subst h; simp at hne
        · have hne : (xs[k]?.getD 0 != ys[k]?.getD 0) = false := by assumption
          go_roundw
          case rel => exact ⟨k + 1, by omega, by go_num, take_succ_eq (by have := HN.out; omega) (by have := HM.out; omega) HT.out (by simpa using hne), (by first | exact draws1 _ _ | exact draws2 _ _ _)⟩
          case measure => simp [intOf]; omega
      · go_wp2
        go_ret
        refine ⟨ret_bool ?_, Joins.below_draws _ _ _⟩
        symm; rw [decide_eq_true_iff]
        have h := HT.out
        rwa [List.take_of_length_le (by have := HN.out; omega), List.take_of_length_le (by have := HM.out; omega)] at h

set_option maxHeartbeats 400000 in
theorem laws_same6 (W H : Int) (a : Option Addr) (n c : Nat) (xs : List Int) (W' H' : Int) (b : Option Addr) (m d : Nat) (ys : List Int) (w : World) (hn : xs.length = n) (ha : Rd w a xs) (hl : n ≤ 9223372036854775807) (hm : ys.length = m) (hb : Rd w b ys) (hl2 : m ≤ 9223372036854775807) :
    Calls Try.prog 16 #[.agg #[.int .i64 W, .int .i64 H, .slice a n c], .agg #[.int .i64 W', .int .i64 H', .slice b m d]] w fun e w' => e = .returned (.bool (decide (W = W' ∧ H = H' ∧ xs = ys))) ∧ Below w.heap.size w w' := by
  have HN := Lib.hid hn
  have HM := Lib.hid hm
  have HA := Lib.hid ha
  have HB := Lib.hid hb
  clear hn hm ha hb
  by_cases h1 : W = W'
  case neg =>
    have hq : (W == W') = false := by simpa using h1
    have HF : Hid (decide (W = W' ∧ H = H' ∧ xs = ys) = false) := Lib.hid (decide_eq_false (fun h => h1 h.1))
    clear h1
    go_enter Try.func16, Try.ntmps16
    go_wp2_with fail
    go_ret
    exact ⟨ret_bool HF.out.symm, Joins.below_alloc2 _ _ _⟩
  case pos =>
    by_cases h2 : H = H'
    case neg =>
      have hq : (W == W') = true := by simpa using h1
      have hq2 : (H == H') = false := by simpa using h2
      have HF : Hid (decide (W = W' ∧ H = H' ∧ xs = ys) = false) := Lib.hid (decide_eq_false (fun h => h2 h.2.1))
      clear h1 h2
      go_enter Try.func16, Try.ntmps16
      go_wp2_with fail
      go_ret
      exact ⟨ret_bool HF.out.symm, Joins.below_alloc2 _ _ _⟩
    case pos =>
      have hq : (W == W') = true := by simpa using h1
      have hq2 : (H == H') = true := by simpa using h2
      have HF : Hid (decide (W = W' ∧ H = H' ∧ xs = ys) = decide (xs = ys)) := Lib.hid (by simp [h1, h2])
      rw [HF.out]
      clear h1 h2
      go_enter Try.func16, Try.ntmps16
      go_wp2_with fail
      refine (laws_ints a b n m c d xs ys _ HN.out HM.out (HA.out.below (Joins.below_alloc2 _ _ _)) (HB.out.below (Joins.below_alloc2 _ _ _)) hl hl2).mono ?_
      rintro e w1 ⟨rfl, hb1⟩
      have HB1 := Lib.hid (bTrans (Joins.below_alloc2 w _ _) hb1)
      clear hb1
      go_wp2_with fail
      go_ret
      exact ⟨rfl, HB1.out⟩

theorem same_call6 (W H : Int) (a : Option Addr) (n cp : Nat) (xs : List Int) (a' : Option Addr) (n' cp' : Nat) (ys : List Int) (w : World) (hl : xs.length = n) (ha : Rd w a xs) (hn : n ≤ 9223372036854775807) (hl' : ys.length = n') (ha' : Rd w a' ys) (hn' : n' ≤ 9223372036854775807) (h : xs = ys) :
    Calls Try.prog 16 #[.agg #[.int .i64 W, .int .i64 H, .slice a n cp], .agg #[.int .i64 W, .int .i64 H, .slice a' n' cp']] w fun e w' => e = .returned (.bool true) ∧ Below w.heap.size w w' :=
  (laws_same6 W H a n cp xs W H a' n' cp' ys w hl ha hn hl' ha' hn').mono fun e w' ⟨he, hb⟩ => ⟨by rw [he]; exact ret_bool (by simp [h]), hb⟩

/-- The field that a law draws: sides from 1 to M. -/
def FieldOut (w : World) (M : Int) (e : Ending) (w' : World) : Prop :=
  ∃ (W H : Int) (g n : Nat) (xs : List Int), e = .returned (.agg #[.int .i64 W, .int .i64 H, .slice (some ⟨g, 0, none⟩) n n]) ∧ 1 ≤ W ∧ W ≤ M ∧ 1 ≤ H ∧ H ≤ M ∧ (n : Int) = W * H ∧ 1 ≤ n ∧ n ≤ 36 ∧ w.heap.size ≤ g ∧ Own w' g n n xs ∧ fieldOk W H xs = true ∧ Below w.heap.size w w'

theorem mkfield_call (ac : Option Addr) (nc capc : Nat) (bs : List Int) (M : Int) (w : World) (hl : bs.length = nc) (hr : RdU w.heap.size w ac bs) (hn : nc ≤ 4611686018427387904) (h1 : 2 ≤ M) (h2 : M ≤ 6) :
    Calls Try.prog 6 #[.slice ac nc capc, .int .i64 M] w (FieldOut w M) := by
  refine (spec_MakePlate ac nc capc bs M w hl hr hn h1 (by omega)).mono ?_
  rintro e w' ⟨W, H, g, n, xs, rfl, b1, b2, b3, b4, hq, hg, ho, hw, hb⟩
  have e1 : W * H ≤ 6 * 6 := Int.mul_le_mul (by omega) (by omega) (by omega) (by omega)
  have e2 : 1 * 1 ≤ W * H := Int.mul_le_mul b1 b3 (by omega) (by omega)
  have hs : sizeOk W H = true := by
    unfold sizeOk
    rw [decide_eq_true_iff]
    omega
  exact ⟨W, H, g, n, xs, rfl, b1, b2, b3, b4, hq, by omega, by omega, hg, ho, field_mk ho.len hs hq hw (by omega), hb⟩

end Go.Proofs.Ytipcahcljfheaaa
