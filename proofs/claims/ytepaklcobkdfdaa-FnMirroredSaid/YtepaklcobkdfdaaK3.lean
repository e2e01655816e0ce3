/-
  Contracts of chapter 5: IsKernel and WeightOf of the program.
-/
import Derived.Test.YtepaklcobkdfdaaK2
import Derived.Deep.RegionHeld3
import Derived.Deep.RegionWith
namespace Go.Proofs.Ytepaklcobkdfdaa
open Go.RowKit
set_option linter.unusedVariables false
set_option linter.unusedSimpArgs false

theorem part_no {X Y T : Int} (h : ¬ (-4 ≤ X ∧ X ≤ 4 ∧ 0 ≤ Y ∧ Y ≤ 4 ∧ (Y = 0 → 1 ≤ X) ∧ 1 ≤ T ∧ T ≤ 100)) : partOk ⟨X, Y, T⟩ = false := decide_eq_false h

theorem part_yes {X Y T : Int} (h : -4 ≤ X ∧ X ≤ 4 ∧ 0 ≤ Y ∧ Y ≤ 4 ∧ (Y = 0 → 1 ≤ X) ∧ 1 ≤ T ∧ T ≤ 100) : partOk ⟨X, Y, T⟩ = true := decide_eq_true h

set_option maxHeartbeats 1600000 in
theorem impl_isPart (X Y T : Int) (w : World) :
    Calls Try.prog 55 #[.agg #[.int .i64 X, .int .i64 Y, .int .i64 T]] w fun e w' => e = .returned (.bool (partOk ⟨X, Y, T⟩)) ∧ Below w.heap.size w w' := by
  by_cases y0 : Y = 0
  · subst y0
    go_enter Try.func55, Try.ntmps55
    go_wp2_with fail
    all_goals (go_ret; exact ⟨ret_bool (by first | (symm; exact part_no (by omega)) | (symm; rw [part_yes (by omega)]; simp; done) | (by_cases h : T ≤ 100 <;> first | (rw [part_yes (by omega)]; simp [*]; done) | (rw [part_no (by omega)]; simp [*]; done))), Joins.below_alloc1 _ _⟩)
  · have y1 : (Y == 0) = false := by simpa using y0
    go_enter Try.func55, Try.ntmps55
    go_wp2_with fail
    all_goals (go_ret; exact ⟨ret_bool (by first | (symm; exact part_no (by omega)) | (symm; rw [part_yes (by omega)]; simp; done) | (by_cases h : T ≤ 100 <;> first | (rw [part_yes (by omega)]; simp [*]; done) | (rw [part_no (by omega)]; simp [*]; done))), Joins.below_alloc1 _ _⟩)

set_option maxHeartbeats 400000 in
theorem impl_placeOf (X Y T : Int) (w : World) :
    Calls Try.prog 57 #[.agg #[.int .i64 X, .int .i64 Y, .int .i64 T]] w fun e w' => e = .returned (.agg #[.int .i64 X, .int .i64 Y]) ∧ Below w.heap.size w w' := by
  go_enter Try.func57, Try.ntmps57
  go_wp2_with fail
  exact bodyPost_ret (v := .agg #[.int .i64 X, .int .i64 Y]) (by simp [results, Try.results57, go_sem]) rfl ⟨rfl, (by first | exact Joins.below_alloc2 w _ _ | exact ((Below.refl _ _).alloc (Nat.le_refl _) _).alloc (by simp) _)⟩

theorem placed_yes {ks : List Prt} {j k : Nat} {X Y : Int} {q : Prt} (hk : k ≤ ks.length) (hj : j < k) (hq : prt ks j = q) (h1 : q.dx = X) (h2 : q.dy = Y) : placed (ks.take k) X Y = true :=
  placed_le (k := j + 1) (by rw [placed_take ks j X Y (by omega), hq, decide_eq_true ⟨h1, h2⟩]; simp) (by omega)

set_option maxHeartbeats 1600000 in
theorem impl_hasPlace (ad : Option Addr) (k n cap : Nat) (ks : List Prt) (X Y : Int) (w : World) (hn : ks.length = n) (ha : Rd w ad (flat ks)) (hl : n ≤ 1048576) (hk : k ≤ n) :
    Calls Try.prog 56 #[.slice ad k cap, .agg #[.int .i64 X, .int .i64 Y]] w fun e w' => e = .returned (.bool (placed (ks.take k) X Y)) ∧ Below w.heap.size w w' := by
  have HN := Lib.hid hn
  have HA := Lib.hid (ha.alloc (.cells #[.int .i64 X, .int .i64 Y] 77))
  clear hn ha
  go_enter Try.func56, Try.ntmps56
  go_wp2_with fail
  have KB := Lib.hid (Blk.new w 77 #[.int .i64 X, .int .i64 Y])
  have HBo := Lib.hid (Joins.below_alloc1 w (.cells #[.int .i64 X, .int .i64 Y] 77))
  have HZo : w.heap.size < (w.alloc (.cells #[.int .i64 X, .int .i64 Y] 77)).heap.size := by simp
  obtain ⟨wo, hwo⟩ : ∃ wo : World, wo = w.alloc (.cells #[.int .i64 X, .int .i64 Y] 77) := ⟨_, rfl⟩
  rw [← hwo] at KB HA HBo HZo ⊢
  clear hwo
  go_loopw [9] (fun i wz => ∃ j : Nat, j ≤ k ∧ i = .int .i64 j ∧ Hid (placed (ks.take j) X Y = false) ∧ Below wo.heap.size wo wz) (fun i _ => k - (intOf i).toNat)
  case atStart => exact ⟨0, Nat.zero_le _, rfl, Lib.hid (placed_nil X Y), Below.refl _ _⟩
  case round =>
    obtain ⟨j, hj, rfl, HJ, hz⟩ := hrel
    have HZ := Lib.hid hz
    have HBz := Lib.hid (bTrans HBo.out hz)
    by_cases hlj : j < k
    · obtain ⟨ba, oa, hae, hal, c0, c1, c2⟩ := rd_part (HA.out.below hz) (k := j) (by have := HN.out; omega)
      subst hae
      obtain ⟨q, hq⟩ : ∃ q, prt ks j = q := ⟨_, rfl⟩
      rw [hq] at c0 c1 c2
      obtain ⟨X2, Y2, T2⟩ := q
      have HQ := Lib.hid hq
      have k0 := ((KB.out.below' hz).alloc (.cells #[.int .i64 X2, .int .i64 Y2, .int .i64 T2] 31)).cell 0
      have k1 := ((KB.out.below' hz).alloc (.cells #[.int .i64 X2, .int .i64 Y2, .int .i64 T2] 31)).cell 1
      have kl := (KB.out.below' hz).lt
      have p0 := (Blk.new wr 31 #[.int .i64 X2, .int .i64 Y2, .int .i64 T2]).cell 0
      have p1 := (Blk.new wr 31 #[.int .i64 X2, .int .i64 Y2, .int .i64 T2]).cell 1
      have p2 := (Blk.new wr 31 #[.int .i64 X2, .int .i64 Y2, .int .i64 T2]).cell 2
      have kl2 : w.heap.size < (wr.alloc (.cells #[.int .i64 X2, .int .i64 Y2, .int .i64 T2] 31)).heap.size := by simp; omega
      have pl2 : wr.heap.size < (wr.alloc (.cells #[.int .i64 X2, .int .i64 Y2, .int .i64 T2] 31)).heap.size := by simp
      clear hq hz
      dsimp only at c0 c1 c2
      simp only [List.getElem?_toArray, List.getElem?_cons_zero, List.getElem?_cons_succ] at k0 k1 p0 p1 p2
      by_cases e1 : X2 = X ∧ Y2 = Y
      case pos =>
        obtain ⟨rfl, rfl⟩ := e1
        go_wp2_with fail
        go_region_held3 (fun v => v.cell? ⟨w.heap.size, 0, none⟩ = some (.int .i64 X2) ∧ v.cell? ⟨w.heap.size, 1, none⟩ = some (.int .i64 Y2) ∧ v.cell? ⟨wr.heap.size, 0, none⟩ = some (.int .i64 X2) ∧ v.cell? ⟨wr.heap.size, 1, none⟩ = some (.int .i64 Y2) ∧ v.cell? ⟨wr.heap.size, 2, none⟩ = some (.int .i64 T2))
          (first | exact ⟨k0, k1, p0, p1, p2⟩ | exact ⟨(hb.cell kl2).trans k0, (hb.cell kl2).trans k1, (hb.cell pl2).trans p0, (hb.cell pl2).trans p1, (hb.cell pl2).trans p2⟩)
          (first
            | (go_at_call 57; ((with_reducible refine (impl_placeOf _ _ _ _).mono ?_); rintro e v1 ⟨rfl, hb⟩)))
        have HB5 := Lib.hid (bTrans ((bAlloc HBz.out (.cells #[.int .i64 X2, .int .i64 Y2, .int .i64 T2] 31)).drew) hb)
        clear hb k0 k1 p0 p1 p2 c0 c1 c2
        go_wp2_with fail
        go_ret
        exact ⟨ret_bool (placed_yes (by have := HN.out; omega) hlj HQ.out rfl rfl).symm, HB5.out⟩
      case neg =>
        by_cases e2 : X2 = X
        case pos =>
          have e4 : ¬ Y2 = Y := fun h => e1 ⟨e2, h⟩
          have e3 : (Y2 == Y) = false := by simpa using e4
          have HE := Lib.hid e4
          clear e1 e4
          subst e2
          go_wp2_with fail
          go_region_held3 (fun v => v.cell? ⟨w.heap.size, 0, none⟩ = some (.int .i64 X2) ∧ v.cell? ⟨w.heap.size, 1, none⟩ = some (.int .i64 Y) ∧ v.cell? ⟨wr.heap.size, 0, none⟩ = some (.int .i64 X2) ∧ v.cell? ⟨wr.heap.size, 1, none⟩ = some (.int .i64 Y2) ∧ v.cell? ⟨wr.heap.size, 2, none⟩ = some (.int .i64 T2))
            (first | exact ⟨k0, k1, p0, p1, p2⟩ | exact ⟨(hb.cell kl2).trans k0, (hb.cell kl2).trans k1, (hb.cell pl2).trans p0, (hb.cell pl2).trans p1, (hb.cell pl2).trans p2⟩)
            (first
              | (go_at_call 57; ((with_reducible refine (impl_placeOf _ _ _ _).mono ?_); rintro e v1 ⟨rfl, hb⟩)))
          have HB5 := Lib.hid (bTrans ((bAlloc HZ.out (.cells #[.int .i64 X2, .int .i64 Y2, .int .i64 T2] 31)).drew) hb)
          clear hb k0 k1 p0 p1 p2 c0 c1 c2
          go_wp2_with fail
          go_roundw
          case rel => exact ⟨j + 1, by omega, by go_num, Lib.hid (placed_no (by have := HN.out; omega) HJ.out HQ.out (fun h => HE.out h.2)), HB5.out⟩
          case measure => simp [intOf]; omega
        case neg =>
          have e3 : (X2 == X) = false := by simpa using e2
          have HE := Lib.hid e2
          clear e1 e2
          go_wp2_with fail
          go_region_held3 (fun v => v.cell? ⟨w.heap.size, 0, none⟩ = some (.int .i64 X) ∧ v.cell? ⟨w.heap.size, 1, none⟩ = some (.int .i64 Y) ∧ v.cell? ⟨wr.heap.size, 0, none⟩ = some (.int .i64 X2) ∧ v.cell? ⟨wr.heap.size, 1, none⟩ = some (.int .i64 Y2) ∧ v.cell? ⟨wr.heap.size, 2, none⟩ = some (.int .i64 T2))
            (first | exact ⟨k0, k1, p0, p1, p2⟩ | exact ⟨(hb.cell kl2).trans k0, (hb.cell kl2).trans k1, (hb.cell pl2).trans p0, (hb.cell pl2).trans p1, (hb.cell pl2).trans p2⟩)
            (first
              | (go_at_call 57; ((with_reducible refine (impl_placeOf _ _ _ _).mono ?_); rintro e v1 ⟨rfl, hb⟩)))
          have HB5 := Lib.hid (bTrans ((bAlloc HZ.out (.cells #[.int .i64 X2, .int .i64 Y2, .int .i64 T2] 31)).drew) hb)
          clear hb k0 k1 p0 p1 p2 c0 c1 c2
          go_wp2_with fail
          go_roundw
          case rel => exact ⟨j + 1, by omega, by go_num, Lib.hid (placed_no (by have := HN.out; omega) HJ.out HQ.out (fun h => HE.out h.1)), HB5.out⟩
          case measure => simp [intOf]; omega
    · obtain rfl : k = j := by omega
      go_wp2_with fail
      go_ret
      exact ⟨ret_bool HJ.out.symm, HBz.out⟩

set_option maxHeartbeats 3200000 in
theorem impl_IsKernel (ad : Option Addr) (n cap : Nat) (ks : List Prt) (w : World) (hn : ks.length = n) (ha : Rd w ad (flat ks)) (hl : n ≤ 1048576) (hcap : n ≤ cap) :
    Calls Try.prog 28 #[.slice ad n cap] w fun e w' => e = .returned (.bool (kernOk ks)) ∧ Below w.heap.size w w' := by
  have HN := Lib.hid hn
  have HA := Lib.hid ha
  clear hn ha
  by_cases hs1 : n < 1
  · rw [kernOk_no1 HN.out (by omega)]
    go_enter Try.func28, Try.ntmps28
    go_wp2_with fail
    go_ret
    exact ⟨rfl, Below.refl _ _⟩
  by_cases hs2 : 12 < n
  · rw [kernOk_no1 HN.out (by omega)]
    have h0 : decide ((n : Int) < 1) = false := by simp; omega
    have h1 : decide (12 < (n : Int)) = true := by simp; omega
    go_enter Try.func28, Try.ntmps28
    go_wp2_with fail
    go_ret
    exact ⟨rfl, Below.refl _ _⟩
  have hs3 : 1 ≤ n := by omega
  have hs4 : n ≤ 12 := by omega
  clear hs1 hs2
  go_enter Try.func28, Try.ntmps28
  go_wp2_with fail
  go_loopw [15] (fun i wr => ∃ k : Nat, k ≤ n ∧ i = .int .i64 k ∧ Hid (kernTo ks k = true) ∧ Below w.heap.size w wr) (fun i _ => n - (intOf i).toNat)
  case atStart => exact ⟨0, Nat.zero_le _, rfl, Lib.hid rfl, Below.refl _ _⟩
  case round =>
    obtain ⟨k, hk, rfl, HT, hw⟩ := hrel
    have HW := Lib.hid hw
    by_cases hlt : k < n
    · obtain ⟨ba, oa, hae, hal, c0, c1, c2⟩ := rd_part (HA.out.below hw) (k := k) (by have := HN.out; omega)
      subst hae
      obtain ⟨p, hp⟩ : ∃ p, prt ks k = p := ⟨_, rfl⟩
      rw [hp] at c0 c1 c2
      obtain ⟨X, Y, T⟩ := p
      have HP := Lib.hid hp
      have HRw := Lib.hid (HA.out.below hw)
      clear hp hw
      dsimp only at c0 c1 c2
      have p0 := (Blk.new wr 31 #[.int .i64 X, .int .i64 Y, .int .i64 T]).cell 0
      have p1 := (Blk.new wr 31 #[.int .i64 X, .int .i64 Y, .int .i64 T]).cell 1
      have p2 := (Blk.new wr 31 #[.int .i64 X, .int .i64 Y, .int .i64 T]).cell 2
      simp only [List.getElem?_toArray, List.getElem?_cons_zero, List.getElem?_cons_succ] at p0 p1 p2
      have kc : k ≤ cap := by omega
      have kc2 : (k : Int) ≤ (cap : Int) := by omega
      have k0 : (0 : Int) ≤ (k : Int) := by omega
      by_cases hp : partOk ⟨X, Y, T⟩ = true
      case neg =>
        have hp2 : partOk ⟨X, Y, T⟩ = false := by simpa using hp
        have HPF := Lib.hid hp
        clear hp
        go_wp2_with fail
        first | (go_region_with (first | (go_at_call 55; ((with_reducible refine (impl_isPart _ _ _ _).mono ?_); rintro e v1 ⟨rfl, hb⟩; rw [hp2])))) | fail
        all_goals
          have HB5 := Lib.hid (bTrans ((bAlloc HW.out (.cells #[.int .i64 X, .int .i64 Y, .int .i64 T] 31)).drew) hb)
          clear hb
          go_simp
          go_wp2_with fail
          go_ret
          exact ⟨ret_bool (kernOk_no2 HN.out hlt (by rw [HP.out, hp2]; rfl)).symm, HB5.out⟩
      case pos =>
        have pl2 : wr.heap.size < (wr.alloc (.cells #[.int .i64 X, .int .i64 Y, .int .i64 T] 31)).heap.size := by simp
        have hkn : k ≤ n := by omega
        obtain ⟨bb, hbb⟩ : ∃ bb, placed (ks.take k) X Y = bb := ⟨_, rfl⟩
        cases bb
        all_goals
          go_wp2_with fail
          go_region_held3 (fun v => v.cell? ⟨wr.heap.size, 0, none⟩ = some (.int .i64 X) ∧ v.cell? ⟨wr.heap.size, 1, none⟩ = some (.int .i64 Y) ∧ v.cell? ⟨wr.heap.size, 2, none⟩ = some (.int .i64 T))
            (first | exact ⟨p0, p1, p2⟩ | exact ⟨(hb.cell pl2).trans p0, (hb.cell pl2).trans p1, (hb.cell pl2).trans p2⟩ | exact ⟨(hb7.cell (Nat.lt_of_lt_of_le pl2 hb.size)).trans ((hb.cell pl2).trans p0), (hb7.cell (Nat.lt_of_lt_of_le pl2 hb.size)).trans ((hb.cell pl2).trans p1), (hb7.cell (Nat.lt_of_lt_of_le pl2 hb.size)).trans ((hb.cell pl2).trans p2)⟩ | exact ⟨(hb8.cell (Nat.lt_of_lt_of_le pl2 (Nat.le_trans hb.size hb7.size))).trans ((hb7.cell (Nat.lt_of_lt_of_le pl2 hb.size)).trans ((hb.cell pl2).trans p0)), (hb8.cell (Nat.lt_of_lt_of_le pl2 (Nat.le_trans hb.size hb7.size))).trans ((hb7.cell (Nat.lt_of_lt_of_le pl2 hb.size)).trans ((hb.cell pl2).trans p1)), (hb8.cell (Nat.lt_of_lt_of_le pl2 (Nat.le_trans hb.size hb7.size))).trans ((hb7.cell (Nat.lt_of_lt_of_le pl2 hb.size)).trans ((hb.cell pl2).trans p2))⟩)
            (first
              | (go_at_call 55; ((with_reducible refine (impl_isPart _ _ _ _).mono ?_); rintro e v1 ⟨rfl, hb⟩; rw [hp]))
              | (go_at_call 57; ((with_reducible refine (impl_placeOf _ _ _ _).mono ?_); rintro e v2 ⟨rfl, hb7⟩))
              | (go_at_call 56; ((with_reducible refine (impl_hasPlace _ k n cap ks _ _ _ HN.out (by exact (((HRw.out.alloc _).drew.below hb).below hb7).of_heap rfl) hl hkn).mono ?_); rintro e v3 ⟨rfl, hb8⟩; rw [hbb])))
          have HB5 := Lib.hid (bTrans (bTrans (bTrans ((bAlloc HW.out (.cells #[.int .i64 X, .int .i64 Y, .int .i64 T] 31)).drew) hb) hb7) hb8)
          have HZ5 := Lib.hid (show kernTo ks k = true → partOk ⟨X, Y, T⟩ = true → True from fun _ _ => trivial)
          clear hb hb7 hb8 p0 p1 p2 c0 c1 c2
          go_wp2_with fail
        · have HBB := hbb
          go_roundw
          case rel => exact ⟨k + 1, by omega, by go_num, Lib.hid (by rw [kernTo_succ, HT.out, HP.out, hp, hbb]; rfl), HB5.out⟩
          case measure => simp [intOf]; omega
        · go_ret
          exact ⟨ret_bool (kernOk_no2 HN.out hlt (by rw [HP.out, hp, hbb]; rfl)).symm, HB5.out⟩
    · obtain rfl : n = k := by omega
      go_wp2_with fail
      go_ret
      exact ⟨ret_bool (kernOk_yes HN.out hs3 hs4 HT.out).symm, HW.out⟩

end Go.Proofs.Ytepaklcobkdfdaa
