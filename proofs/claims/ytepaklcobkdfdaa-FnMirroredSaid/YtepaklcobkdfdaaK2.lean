/-
  Contracts of chapter 5: IsKernel and WeightOf of the model.
-/
import Derived.Test.YtepaklcobkdfdaaK1
import Derived.Test.YtepaklcobkdfdaaC3
import Derived.BigQuiet
namespace Go.Proofs.Ytepaklcobkdfdaa
open Go.RowKit
set_option linter.unusedVariables false
set_option linter.unusedSimpArgs false

theorem partOk_no {p : Prt} (h : ¬ (-4 ≤ p.dx ∧ p.dx ≤ 4 ∧ 0 ≤ p.dy ∧ p.dy ≤ 4 ∧ (p.dy = 0 → 1 ≤ p.dx) ∧ 1 ≤ p.wt ∧ p.wt ≤ 100)) : partOk p = false := by
  unfold partOk; exact decide_eq_false h

theorem kern_stop {ks : List Prt} {n k : Nat} {X Y T : Int} (hn : ks.length = n) (hk : k < n) (hp : prt ks k = ⟨X, Y, T⟩) (h : ¬ (-4 ≤ X ∧ X ≤ 4 ∧ 0 ≤ Y ∧ Y ≤ 4 ∧ (Y = 0 → 1 ≤ X) ∧ 1 ≤ T ∧ T ≤ 100)) : kernOk ks = false :=
  kernOk_no2 hn hk (by rw [hp, partOk_no h]; rfl)

theorem kern_twice {ks : List Prt} {n k j : Nat} {X Y T : Int} {q : Prt} (hn : ks.length = n) (hk : k < n) (hp : prt ks k = ⟨X, Y, T⟩) (hj : j < k) (hq : prt ks j = q) (h1 : q.dx = X) (h2 : q.dy = Y) : kernOk ks = false :=
  kernOk_no2 hn hk (by
    rw [hp]
    have : placed (ks.take (j + 1)) X Y = true := by
      rw [placed_take ks j X Y (by omega), hq, decide_eq_true ⟨h1, h2⟩]; simp
    have := placed_le this (show j + 1 ≤ k by omega)
    simp [this])

theorem kern_go {ks : List Prt} {k : Nat} {X Y T : Int} (h : kernTo ks k = true) (hp : prt ks k = ⟨X, Y, T⟩) (h2 : -4 ≤ X ∧ X ≤ 4 ∧ 0 ≤ Y ∧ Y ≤ 4 ∧ (Y = 0 → 1 ≤ X) ∧ 1 ≤ T ∧ T ≤ 100) (h3 : placed (ks.take k) X Y = false) : kernTo ks (k + 1) = true := by
  rw [kernTo_succ, h, hp, h3]
  have : partOk ⟨X, Y, T⟩ = true := decide_eq_true h2
  rw [this]; rfl

theorem placed_no {ks : List Prt} {j : Nat} {X Y : Int} {q : Prt} (hj : j < ks.length) (h : placed (ks.take j) X Y = false) (hq : prt ks j = q) (h2 : ¬ (q.dx = X ∧ q.dy = Y)) : placed (ks.take (j + 1)) X Y = false := by
  rw [placed_take ks j X Y hj, h, hq, decide_eq_false h2]; rfl

set_option maxHeartbeats 3200000 in
theorem spec_IsKernel (ad : Option Addr) (n cap : Nat) (ks : List Prt) (w : World) (hn : ks.length = n) (ha : Rd w ad (flat ks)) (hl : n ≤ 1048576) (hcap : n ≤ cap) :
    Calls Try.prog 53 #[.slice ad n cap] w fun e w' => e = .returned (.bool (kernOk ks)) ∧ Below w.heap.size w w' := by
  have HN := Lib.hid hn
  have HA := Lib.hid ha
  clear hn ha
  by_cases hs : 1 ≤ n ∧ n ≤ 12
  case neg =>
    rw [kernOk_no1 HN.out hs]
    go_enter Try.func53, Try.ntmps53
    go_wp2_with (go_at_call 49; refine (spec_l1In_no _ _ _ _ (by omega)).mono ?_; rintro e w' ⟨rfl, rfl⟩)
    go_ret
    exact ⟨rfl, Below.refl _ _⟩
  case pos =>
    obtain ⟨hs1, hs2⟩ := hs
    go_enter Try.func53, Try.ntmps53
    go_wp2_with (go_at_call 49; refine (spec_l1In_yes _ _ _ _ (by omega) (by omega)).mono ?_; rintro e w' ⟨rfl, rfl⟩)
    go_loopw [13] (fun i wr => ∃ k : Nat, k ≤ n ∧ i = .int .i64 k ∧ Hid (kernTo ks k = true) ∧ Below w.heap.size w wr) (fun i _ => n - (intOf i).toNat)
    case atStart => exact ⟨0, Nat.zero_le _, rfl, Lib.hid rfl, Below.refl _ _⟩
    case round =>
      obtain ⟨k, hk, rfl, HT, hw⟩ := hrel
      have HW := Lib.hid hw
      by_cases hlt : k < n
      · obtain ⟨ba, oa, hae, hal, c0, c1, c2⟩ := rd_part (HA.out.below hw) (k := k) (by have := HN.out; omega)
        subst hae
        obtain ⟨p, hp⟩ : ∃ p, prt ks k = p := ⟨_, rfl⟩
        rw [hp] at c0 c1 c2
        obtain ⟨X, Y, T⟩ := p
        have HP := Lib.hid hp
        have HRw := Lib.hid (HA.out.below hw)
        clear hp hw
        dsimp only at c0 c1 c2
        by_cases x1 : -4 ≤ X ∧ X ≤ 4
        case neg =>
          have HX := Lib.hid x1
          clear x1
          go_wp2_with fail
          refine (spec_l1In_no _ _ _ _ HX.out).mono ?_
          rintro e w2 ⟨rfl, rfl⟩
          go_wp2_with fail
          go_ret
          exact ⟨ret_bool (kern_stop HN.out hlt HP.out (fun h => HX.out ⟨h.1, h.2.1⟩)).symm, bAlloc HW.out _⟩
        obtain ⟨x1, x2⟩ := x1
        by_cases y1 : 0 ≤ Y ∧ Y ≤ 4
        case neg =>
          have HX := Lib.hid y1
          clear y1
          go_wp2_with fail
          refine (spec_l1In_yes _ _ _ _ x1 x2).mono ?_
          rintro e w2 ⟨rfl, rfl⟩
          go_wp2_with fail
          refine (spec_l1In_no _ _ _ _ HX.out).mono ?_
          rintro e w2 ⟨rfl, rfl⟩
          go_wp2_with fail
          go_ret
          exact ⟨ret_bool (kern_stop HN.out hlt HP.out (fun h => HX.out ⟨h.2.2.1, h.2.2.2.1⟩)).symm, bAlloc HW.out _⟩
        obtain ⟨y1, y2⟩ := y1
        by_cases y3 : Y = 0 ∧ X < 1
        case pos =>
          obtain ⟨y3, y4⟩ := y3
          subst y3
          go_wp2_with fail
          refine (spec_l1In_yes _ _ _ _ x1 x2).mono ?_
          rintro e w2 ⟨rfl, rfl⟩
          go_wp2_with fail
          refine (spec_l1In_yes _ _ _ _ y1 y2).mono ?_
          rintro e w2 ⟨rfl, rfl⟩
          go_wp2_with fail
          go_ret
          exact ⟨ret_bool (kern_stop HN.out hlt HP.out (fun h => by have := h.2.2.2.2.1 rfl; omega)).symm, bAlloc HW.out _⟩
        have y5 : Y = 0 → 1 ≤ X := fun h => by omega
        have HY5 := Lib.hid y5
        clear y3 y5
        by_cases t1 : 1 ≤ T ∧ T ≤ 100
        case neg =>
          have HX := Lib.hid t1
          clear t1
          by_cases y0 : Y = 0
          · subst y0
            have x3 := HY5.out rfl
            go_wp2_with fail
            refine (spec_l1In_yes _ _ _ _ x1 x2).mono ?_
            rintro e w2 ⟨rfl, rfl⟩
            go_wp2_with fail
            refine (spec_l1In_yes _ _ _ _ y1 y2).mono ?_
            rintro e w2 ⟨rfl, rfl⟩
            go_wp2_with fail
            refine (spec_l1In_no _ _ _ _ HX.out).mono ?_
            rintro e w2 ⟨rfl, rfl⟩
            go_wp2_with fail
            go_ret
            exact ⟨ret_bool (kern_stop HN.out hlt HP.out (fun h => HX.out ⟨h.2.2.2.2.2.1, h.2.2.2.2.2.2⟩)).symm, bAlloc HW.out _⟩
          · have y6 : (Y == 0) = false := by simpa using y0
            clear y0
            go_wp2_with fail
            refine (spec_l1In_yes _ _ _ _ x1 x2).mono ?_
            rintro e w2 ⟨rfl, rfl⟩
            go_wp2_with fail
            refine (spec_l1In_yes _ _ _ _ y1 y2).mono ?_
            rintro e w2 ⟨rfl, rfl⟩
            go_wp2_with fail
            refine (spec_l1In_no _ _ _ _ HX.out).mono ?_
            rintro e w2 ⟨rfl, rfl⟩
            go_wp2_with fail
            go_ret
            exact ⟨ret_bool (kern_stop HN.out hlt HP.out (fun h => HX.out ⟨h.2.2.2.2.2.1, h.2.2.2.2.2.2⟩)).symm, bAlloc HW.out _⟩
        obtain ⟨t1, t2⟩ := t1
        have HPL := Lib.hid (placed_nil X Y)
        by_cases y0 : Y = 0
        case' pos =>
          have y6 : (Y == 0) = true := by simpa using y0
          have x3 : decide (X < 1) = false := by have := HY5.out y0; simp; omega
          clear y0
        case' neg =>
          have y6 : (Y == 0) = false := by simpa using y0
          clear y0
        all_goals
          go_wp2_with fail
          refine (spec_l1In_yes _ _ _ _ x1 x2).mono ?_
          rintro e w2 ⟨rfl, rfl⟩
          go_wp2_with fail
          refine (spec_l1In_yes _ _ _ _ y1 y2).mono ?_
          rintro e w2 ⟨rfl, rfl⟩
          go_wp2_with fail
          refine (spec_l1In_yes _ _ _ _ t1 t2).mono ?_
          rintro e w2 ⟨rfl, rfl⟩
          clear c0 c1 c2
          have kc : k ≤ cap := by omega
          go_wp2_with fail
          have KB := Lib.hid (Blk.new wr 31 #[.int .i64 X, .int .i64 Y, .int .i64 T])
          have RD2 := Lib.hid (HRw.out.alloc (.cells #[.int .i64 X, .int .i64 Y, .int .i64 T] 31))
          obtain ⟨wo, hwo⟩ : ∃ wo : World, wo = wr.alloc (.cells #[.int .i64 X, .int .i64 Y, .int .i64 T] 31) := ⟨_, rfl⟩
          have HBo := Lib.hid (bAlloc HW.out (.cells #[.int .i64 X, .int .i64 Y, .int .i64 T] 31))
          rw [← hwo] at KB RD2 HBo ⊢
          clear hwo
          go_loopw [48] (fun i wz => ∃ j : Nat, j ≤ k ∧ i = .int .i64 j ∧ Hid (placed (ks.take j) X Y = false) ∧ Below wo.heap.size wo wz) (fun i _ => k - (intOf i).toNat)
          case atStart => exact ⟨0, Nat.zero_le _, rfl, HPL, Below.refl _ _⟩
          case round =>
            obtain ⟨j, hj, rfl, HJ, hz⟩ := hrel
            have HZ := Lib.hid hz
            have HBz := Lib.hid (bTrans HBo.out hz)
            obtain ⟨l0, o0, o1, o2⟩ := (KB.out.below' hz).c3
            by_cases hlj : j < k
            · obtain ⟨ba2, oa2, hae, hal2, c0, c1, c2⟩ := rd_part (RD2.out.below hz) (k := j) (by have := HN.out; omega)
              cases hae
              obtain ⟨q, hq⟩ : ∃ q, prt ks j = q := ⟨_, rfl⟩
              rw [hq] at c0 c1 c2
              obtain ⟨X2, Y2, T2⟩ := q
              have HQ := Lib.hid hq
              clear hq hz
              dsimp only at c0 c1 c2
              by_cases e1 : X = X2
              · have e2 : (X == X2) = true := by simpa using e1
                have HE1 := Lib.hid e1
                clear e1
                by_cases e3 : Y = Y2
                · have e4 : (Y == Y2) = true := by simpa using e3
                  have HE3 := Lib.hid e3
                  clear e3
                  go_wp2_with fail
                  go_ret
                  exact ⟨ret_bool (kern_twice HN.out hlt HP.out hlj HQ.out HE1.out.symm HE3.out.symm).symm, bAlloc HBz.out _⟩
                · have e4 : (Y == Y2) = false := by simpa using e3
                  have HE3 := Lib.hid e3
                  clear e3
                  go_wp2_with fail
                  go_roundw
                  case rel => exact ⟨j + 1, by omega, by go_num, Lib.hid (placed_no (by have := HN.out; omega) HJ.out HQ.out (fun h => HE3.out h.2.symm)), bAlloc HZ.out _⟩
                  case measure => simp [intOf]; omega
              · have e2 : (X == X2) = false := by simpa using e1
                have HE1 := Lib.hid e1
                clear e1
                go_wp2_with fail
                go_roundw
                case rel => exact ⟨j + 1, by omega, by go_num, Lib.hid (placed_no (by have := HN.out; omega) HJ.out HQ.out (fun h => HE1.out h.1.symm)), bAlloc HZ.out _⟩
                case measure => simp [intOf]; omega
            · obtain rfl : k = j := by omega
              go_wp2_with fail
              go_roundw
              case rel => exact ⟨k + 1, by omega, by go_num, Lib.hid (kern_go HT.out HP.out ⟨x1, x2, y1, y2, HY5.out, t1, t2⟩ HJ.out), HBz.out⟩
              case measure => simp [intOf]; omega
      · obtain rfl : n = k := by omega
        go_wp2_with fail
        go_ret
        exact ⟨ret_bool (kernOk_yes HN.out hs1 hs2 HT.out).symm, HW.out⟩

end Go.Proofs.Ytepaklcobkdfdaa
