/-
  Contracts of the laws' own helpers over lists of parts: comparison, marks.
-/
import Derived.Test.YtbopeibommnjgaaK4
namespace Go.Proofs.Ytbopeibommnjgaa
open Go.RowKit
set_option linter.unusedVariables false
set_option linter.unusedSimpArgs false

/-- Three cells of a list of numbers, as the walk reads them. -/
theorem rd_three {w : World} {ad : Option Addr} {xs : List Int} {n k : Nat} (h : Rd w ad xs) (hl : xs.length = n * 3) (hk : k < n) :
    ∃ b off, ad = some ⟨b, off, none⟩ ∧ b < w.heap.size ∧ w.cell? ⟨b, off + k * 3, none⟩ = some (.int .i64 (xs.getD (k * 3) 0)) ∧ w.cell? ⟨b, off + k * 3 + 1, none⟩ = some (.int .i64 (xs.getD (k * 3 + 1) 0)) ∧ w.cell? ⟨b, off + k * 3 + 2, none⟩ = some (.int .i64 (xs.getD (k * 3 + 2) 0)) := by
  obtain ⟨b, off, h1, h2, h3⟩ := h.at (by omega)
  exact ⟨b, off, h1, h2, h3 _ (by omega), by rw [Nat.add_assoc]; exact h3 _ (by omega), by rw [Nat.add_assoc]; exact h3 _ (by omega)⟩

theorem take_three {xs ys : List Int} {k : Nat} (h1 : k * 3 + 2 < xs.length) (h2 : k * 3 + 2 < ys.length) (h : xs.take (k * 3) = ys.take (k * 3)) (e0 : xs.getD (k * 3) 0 = ys.getD (k * 3) 0) (e1 : xs.getD (k * 3 + 1) 0 = ys.getD (k * 3 + 1) 0) (e2 : xs.getD (k * 3 + 2) 0 = ys.getD (k * 3 + 2) 0) : xs.take ((k + 1) * 3) = ys.take ((k + 1) * 3) := by
  have a := take_succ_eq (by omega) (by omega) h e0
  have b := take_succ_eq (by omega) (by omega) a e1
  have c := take_succ_eq (by omega) (by omega) b e2
  rw [show (k + 1) * 3 = k * 3 + 1 + 1 + 1 by omega]
  exact c

set_option maxHeartbeats 1600000 in
theorem eqParts (a b : Option Addr) (n m c d : Nat) (xs ys : List Int) (w : World) (hn : xs.length = n * 3) (hm : ys.length = m * 3) (ha : Rd w a xs) (hb : Rd w b ys) (hl : n ≤ 1048576) (hl2 : m ≤ 1048576) :
    Calls Try.prog 18 #[.slice a n c, .slice b m d] w fun e w' => e = .returned (.bool (decide (xs = ys))) ∧ Below w.heap.size w w' := by
  by_cases hnm : n = m
  case neg =>
    have H : Hid (¬ xs = ys) := fun h => hnm (by have := congrArg List.length h; omega)
    have hq : ((n : Int) == (m : Int)) = false := by simp; omega
    have hq2 : ((n : Int) != (m : Int)) = true := by simp; omega
    have HN := Lib.hid hn
    have HM := Lib.hid hm
    have HA := Lib.hid ha
    have HB := Lib.hid hb
    clear hn hm hnm ha hb
    go_enter Try.func18, Try.ntmps18
    go_wp2_with fail
    go_ret
    exact ⟨by simp [H.out], Below.refl _ _⟩
  case pos =>
    subst hnm
    have HN := Lib.hid hn
    have HM := Lib.hid hm
    have HA := Lib.hid ha
    have HB := Lib.hid hb
    clear hn hm ha hb
    go_enter Try.func18, Try.ntmps18
    go_wp2_with fail
    go_loopw [5] (fun i wr => ∃ k : Nat, k ≤ n ∧ i = .int .i64 k ∧ Hid (xs.take (k * 3) = ys.take (k * 3)) ∧ Below w.heap.size w wr) (fun i _ => n - (intOf i).toNat)
    case atStart => exact ⟨0, Nat.zero_le _, rfl, rfl, Below.refl _ _⟩
    case round =>
      obtain ⟨k, hk, rfl, HT, hw⟩ := hrel
      have HW := Lib.hid hw
      by_cases hlt : k < n
      · obtain ⟨ba, oa, hae, hal, a0, a1, a2⟩ := rd_three (HA.out.below hw) HN.out hlt
        obtain ⟨bb, ob, hbe, hbl, b0, b1, b2⟩ := rd_three (HB.out.below hw) HM.out hlt
        subst hae hbe
        obtain ⟨X, hX⟩ : ∃ X, xs.getD (k * 3) 0 = X := ⟨_, rfl⟩
        obtain ⟨Y, hY⟩ : ∃ Y, xs.getD (k * 3 + 1) 0 = Y := ⟨_, rfl⟩
        obtain ⟨T, hT⟩ : ∃ T, xs.getD (k * 3 + 2) 0 = T := ⟨_, rfl⟩
        obtain ⟨X2, hX2⟩ : ∃ X2, ys.getD (k * 3) 0 = X2 := ⟨_, rfl⟩
        obtain ⟨Y2, hY2⟩ : ∃ Y2, ys.getD (k * 3 + 1) 0 = Y2 := ⟨_, rfl⟩
        obtain ⟨T2, hT2⟩ : ∃ T2, ys.getD (k * 3 + 2) 0 = T2 := ⟨_, rfl⟩
        rw [hX] at a0
        rw [hY] at a1
        rw [hT] at a2
        rw [hX2] at b0
        rw [hY2] at b1
        rw [hT2] at b2
        have HE : Hid (xs.getD (k * 3) 0 = X ∧ xs.getD (k * 3 + 1) 0 = Y ∧ xs.getD (k * 3 + 2) 0 = T ∧ ys.getD (k * 3) 0 = X2 ∧ ys.getD (k * 3 + 1) 0 = Y2 ∧ ys.getD (k * 3 + 2) 0 = T2) := Lib.hid ⟨hX, hY, hT, hX2, hY2, hT2⟩
        clear hX hY hT hX2 hY2 hT2 hw
        obtain ⟨bb0, hbb⟩ : ∃ bb0, decide (X = X2 ∧ Y = Y2 ∧ T = T2) = bb0 := ⟨_, rfl⟩
        cases bb0
        all_goals
          go_wp2_with fail
          go_region_held3 (fun v => v.cell? ⟨ba, oa + k * 3, none⟩ = some (.int .i64 X) ∧ v.cell? ⟨ba, oa + k * 3 + 1, none⟩ = some (.int .i64 Y) ∧ v.cell? ⟨ba, oa + k * 3 + 2, none⟩ = some (.int .i64 T) ∧ v.cell? ⟨bb, ob + k * 3, none⟩ = some (.int .i64 X2) ∧ v.cell? ⟨bb, ob + k * 3 + 1, none⟩ = some (.int .i64 Y2) ∧ v.cell? ⟨bb, ob + k * 3 + 2, none⟩ = some (.int .i64 T2))
            (first | exact ⟨a0, a1, a2, b0, b1, b2⟩ | exact ⟨(hb.cell hal).trans a0, (hb.cell hal).trans a1, (hb.cell hal).trans a2, (hb.cell hbl).trans b0, (hb.cell hbl).trans b1, (hb.cell hbl).trans b2⟩)
            (first
              | (go_at_call 58; ((with_reducible refine (laws_eqPart _ _ _ _ _ _ _).mono ?_); rintro e v1 ⟨rfl, hb⟩; rw [hbb])))
          have HB5 := Lib.hid (bTrans HW.out.drew hb)
          have HBB := Lib.hid hbb
          clear hb hbb a0 a1 a2 b0 b1 b2
          go_wp2_with fail
        · go_ret
          refine ⟨ret_bool ?_, HB5.out⟩
          symm; rw [decide_eq_false_iff_not]
          intro h
          obtain ⟨q1, q2, q3, q4, q5, q6⟩ := HE.out
          rw [h] at q1 q2 q3
          have := of_decide_eq_false HBB.out
          exact this ⟨by rw [← q1, ← q4], by rw [← q2, ← q5], by rw [← q3, ← q6]⟩
        · go_roundw
          case rel =>
            obtain ⟨q1, q2, q3, q4, q5, q6⟩ := HE.out
            obtain ⟨r1, r2, r3⟩ := of_decide_eq_true HBB.out
            exact ⟨k + 1, by omega, by go_num, Lib.hid (take_three (by have := HN.out; omega) (by have := HM.out; omega) HT.out (by rw [q1, q4, r1]) (by rw [q2, q5, r2]) (by rw [q3, q6, r3])), HB5.out⟩
          case measure => simp [intOf]; omega
      · go_wp2_with fail
        go_ret
        refine ⟨ret_bool ?_, HW.out⟩
        symm; rw [decide_eq_true_iff]
        have h := HT.out
        rwa [List.take_of_length_le (by have := HN.out; omega), List.take_of_length_le (by have := HM.out; omega)] at h

set_option maxHeartbeats 1600000 in
theorem markPartT (g n cap : Nat) (s : Int) (xs : List Int) (w : World) (ho : RowT w 66 3 g n cap xs) (h0 : 0 ≤ s) (hl : s + n * 3 ≤ 17592186044416) :
    Calls Try.prog 23 #[.slice (some ⟨g, 0, none⟩) n cap, .int .i64 s] w fun e w' => e = .returned (.int .i64 (s + (n * 3 : Nat))) ∧ RowT w' 66 3 g n cap (upFrom s (n * 3)) ∧ w.grownBy w' (some g) := by
  have HO := Lib.hid ho
  have HL := Lib.hid ho.len
  clear ho
  go_enter Try.func23, Try.ntmps23
  go_wp2_with fail
  go_loopw [1, 5] (fun v i wr => ∃ k : Nat, k ≤ n ∧ i = .int .i64 k ∧ v = .int .i64 (s + (k * 3 : Nat)) ∧ RowT wr 66 3 g n cap (filled (upFrom s (n * 3)) xs (k * 3)) ∧ w.grownBy wr (some g)) (fun _ i _ => n - (intOf i).toNat)
  case atStart => exact ⟨0, Nat.zero_le _, rfl, by simp, by rw [filled_zero]; exact HO.out, grown_refl _ _⟩
  case round =>
    obtain ⟨k, hk, rfl, rfl, ho, hg⟩ := hrel
    have HG := Lib.hid hg
    by_cases hlt : k < n
    · have HF3 := Lib.hid (filled3 (upFrom s (n * 3)) xs k (s + (k * 3 : Nat)) (s + (k * 3 : Nat) + 1) (s + (k * 3 : Nat) + 1 + 1) (by rw [upFrom_len]; omega) (by have := HL.out; omega) (upFrom_get _ _ _ (by omega)) (by rw [upFrom_get _ _ _ (by omega)]; omega) (by rw [upFrom_get _ _ _ (by omega)]; omega))
      have HS := Lib.hid (((ho.set (k * 3) (s + (k * 3 : Nat))).set (k * 3 + 1) (s + (k * 3 : Nat) + 1)).set (k * 3 + 2) (s + (k * 3 : Nat) + 1 + 1))
      have q0 := ho.cell (j := k * 3) (by omega)
      have q1 := ho.cell (j := k * 3 + 1) (by omega)
      have q2 := ho.cell (j := k * 3 + 2) (by omega)
      have f0 := ho.frozen (k * 3)
      have f1 := ho.frozen (k * 3 + 1)
      have f2 := ho.frozen (k * 3 + 2)
      clear ho hg
      obtain ⟨V, hV⟩ : ∃ V, s + ((k * 3 : Nat) : Int) = V := ⟨_, rfl⟩
      have v0 : 0 ≤ V := by omega
      have v1 : V ≤ 17592186044416 := by omega
      have HV := Lib.hid hV
      rw [hV] at HF3 HS ⊢
      clear hV
      go_wp2_with fail
      go_roundw
      case rel => exact ⟨k + 1, by omega, by go_num, by rw [← HV.out]; simp only [Value.int.injEq, true_and]; omega, by have h := HS.out; rw [HF3.out] at h; exact h, grown_set (grown_set (grown_set HG.out _) _) _⟩
      case measure => simp [intOf]; omega
    · go_wp2_with fail
      go_ret
      obtain rfl : k = n := by omega
      refine ⟨rfl, ?_, HG.out⟩
      rwa [filled_at _ _ _ (by rw [upFrom_len]) (by have := HL.out; omega)] at ho

set_option maxHeartbeats 400000 in
theorem markPartNone (ad : Option Addr) (cap : Nat) (s : Int) (w : World) :
    Calls Try.prog 23 #[.slice ad 0 cap, .int .i64 s] w fun e w' => e = .returned (.int .i64 s) ∧ w = w' := by
  go_enter Try.func23, Try.ntmps23
  go_wp2_with fail
  refine wp_loop_rounds 1 ?_; rw [rounds_succ]
  go_wp2_with fail
  go_ret
  exact ⟨rfl, rfl⟩

theorem markParts (B : Nat) (ad : Option Addr) (n cap : Nat) (s : Int) (xs : List Int) (w : World) (ho : RowA w 66 3 B ad n cap xs) (h0 : 0 ≤ s) (hl : s + n * 3 ≤ 17592186044416) :
    Calls Try.prog 23 #[.slice ad n cap, .int .i64 s] w fun e w' => e = .returned (.int .i64 (s + (n * 3 : Nat))) ∧ RowA w' 66 3 B ad n cap (upFrom s (n * 3)) ∧ w.grownBy w' (blockOf ad) := by
  rcases ho with ⟨rfl, rfl, rfl, rfl⟩ | ⟨g, rfl, hB, ho⟩
  · exact (markPartNone none 0 s w).mono fun e w' ⟨h1, h2⟩ => ⟨by rw [h1]; simp, RowA.none _ _ _ _, by rw [← h2]; exact grown_refl _ _⟩
  · exact (markPartT g n cap s xs w ho h0 hl).mono fun e w' ⟨h1, h2, h3⟩ => ⟨h1, .mk h2 hB, h3⟩

set_option maxHeartbeats 1600000 in
theorem heldParts (ad : Option Addr) (n cap : Nat) (s : Int) (w : World) (ha : Rd w ad (upFrom s (n * 3))) (h0 : 0 ≤ s) (hl : s + n * 3 ≤ 17592186044416) :
    Calls Try.prog 24 #[.slice ad n cap, .int .i64 s] w fun e w' => e = .returned (.int .i64 (s + (n * 3 : Nat))) ∧ Below w.heap.size w w' := by
  have HA := Lib.hid ha
  clear ha
  go_enter Try.func24, Try.ntmps24
  go_wp2_with fail
  go_loop [1, 5] (fun v i => ∃ k : Nat, k ≤ n ∧ i = .int .i64 k ∧ v = .int .i64 (s + (k * 3 : Nat))) (fun _ i => n - (intOf i).toNat)
  case atStart => exact ⟨0, Nat.zero_le _, rfl, by simp⟩
  case round =>
    obtain ⟨k, hk, rfl, rfl⟩ := hrel
    by_cases hlt : k < n
    · obtain ⟨ba, oa, hae, hal, c0, c1, c2⟩ := rd_three HA.out (by rw [upFrom_len]) hlt
      subst hae
      rw [upFrom_get _ _ _ (by omega)] at c0 c1 c2
      rw [show s + ((k * 3 + 1 : Nat) : Int) = s + ((k * 3 : Nat) : Int) + 1 by omega] at c1
      rw [show s + ((k * 3 + 2 : Nat) : Int) = s + ((k * 3 : Nat) : Int) + 1 + 1 by omega] at c2
      obtain ⟨V, hV⟩ : ∃ V, s + ((k * 3 : Nat) : Int) = V := ⟨_, rfl⟩
      have v0 : 0 ≤ V := by omega
      have v1 : V ≤ 17592186044416 := by omega
      have HV := Lib.hid hV
      rw [hV] at c0 c1 c2 ⊢
      clear hV
      go_wp2_with fail
      go_round
      case rel => exact ⟨k + 1, by omega, by go_num, by rw [← HV.out]; simp only [Value.int.injEq, true_and]; omega⟩
      case measure => simp [intOf]; omega
    · go_wp2_with fail
      go_ret
      obtain rfl : k = n := by omega
      exact ⟨rfl, Below.refl _ _⟩

end Go.Proofs.Ytbopeibommnjgaa
