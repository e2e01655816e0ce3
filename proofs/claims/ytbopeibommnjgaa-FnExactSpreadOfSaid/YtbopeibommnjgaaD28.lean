/-
  Contract of the program's spread.
-/
import Derived.Test.YtbopeibommnjgaaD27
namespace Go.Proofs.Ytbopeibommnjgaa
open Go.RowKit
set_option linter.unusedVariables false
set_option linter.unusedSimpArgs false

/-- The pairs that are seen: all of the first i dots with all dots, and of the dot A with the first j. -/
def pairsTo (ls : List Nat) (i j : Nat) (x y : Nat) : Prop := x ≠ y ∧ ((x ∈ ls.take i ∧ y ∈ ls) ∨ (i < ls.length ∧ x = ls.getD i 0 ∧ y ∈ ls.take j))

theorem take_at {ls : List Nat} {i : Nat} (h : i < ls.length) : ls.take (i + 1) = ls.take i ++ [ls.getD i 0] := by
  rw [List.take_succ_eq_append_getElem h]
  simp [List.getD, List.getElem?_eq_getElem h]

theorem pairs_zero (ls : List Nat) : ∀ x y, ¬ pairsTo ls 0 0 x y := by
  rintro x y ⟨h, h1 | h1⟩
  · simp at h1
  · simp at h1

theorem pairs_row (ls : List Nat) {i : Nat} (hi : i < ls.length) (x y : Nat) : pairsTo ls i ls.length x y ↔ pairsTo ls (i + 1) 0 x y := by
  unfold pairsTo
  rw [take_at hi, List.take_length]
  simp only [List.mem_append, List.mem_singleton, List.take_zero, List.not_mem_nil]
  constructor
  · rintro ⟨h, h1 | h1⟩
    · exact ⟨h, Or.inl ⟨Or.inl h1.1, h1.2⟩⟩
    · exact ⟨h, Or.inl ⟨Or.inr h1.2.1, h1.2.2⟩⟩
  · rintro ⟨h, ⟨h1 | h1, h2⟩ | h1⟩
    · exact ⟨h, Or.inl ⟨h1, h2⟩⟩
    · exact ⟨h, Or.inr ⟨hi, h1, h2⟩⟩
    · exact absurd h1.2.2 (by simp)

theorem pairs_step (ls : List Nat) {i j : Nat} (hi : i < ls.length) (hj : j < ls.length) (hne : ls.getD i 0 ≠ ls.getD j 0) (x y : Nat) : (pairsTo ls i j x y ∨ (x = ls.getD i 0 ∧ y = ls.getD j 0)) ↔ pairsTo ls i (j + 1) x y := by
  unfold pairsTo
  rw [take_at hj]
  simp only [List.mem_append, List.mem_singleton]
  constructor
  · rintro (⟨h, h1 | h1⟩ | ⟨h1, h2⟩)
    · exact ⟨h, Or.inl h1⟩
    · exact ⟨h, Or.inr ⟨hi, h1.2.1, Or.inl h1.2.2⟩⟩
    · exact ⟨by rw [h1, h2]; exact hne, Or.inr ⟨hi, h1, Or.inr h2⟩⟩
  · rintro ⟨h, h1 | ⟨h1, h2, h3 | h3⟩⟩
    · exact Or.inl ⟨h, Or.inl h1⟩
    · exact Or.inl ⟨h, Or.inr ⟨h1, h2, h3⟩⟩
    · exact Or.inr ⟨h2, h3⟩

theorem pairs_skip (ls : List Nat) {i j : Nat} (hi : i < ls.length) (hj : j < ls.length) (he : ls.getD i 0 = ls.getD j 0) (x y : Nat) : pairsTo ls i j x y ↔ pairsTo ls i (j + 1) x y := by
  unfold pairsTo
  rw [take_at hj]
  simp only [List.mem_append, List.mem_singleton]
  constructor
  · rintro ⟨h, h1 | h1⟩
    · exact ⟨h, Or.inl h1⟩
    · exact ⟨h, Or.inr ⟨hi, h1.2.1, Or.inl h1.2.2⟩⟩
  · rintro ⟨h, h1 | ⟨h1, h2, h3 | h3⟩⟩
    · exact ⟨h, Or.inl h1⟩
    · exact ⟨h, Or.inr ⟨h1, h2, h3⟩⟩
    · exact absurd (by rw [h2, h3, he]) h

theorem pairs_all (ls : List Nat) (x y : Nat) : pairsTo ls ls.length 0 x y ↔ x ≠ y ∧ x ∈ ls ∧ y ∈ ls := by
  unfold pairsTo
  rw [List.take_length]
  simp

set_option maxRecDepth 100000 in
set_option maxHeartbeats 6400000 in
theorem impl_SpreadOf (W H : Int) (ad : Option Addr) (n cap : Nat) (xs : List Int) (l : Int) (w : World) (hn : xs.length = n) (ha : Rd w ad xs) (hl : n ≤ 9223372036854775807) :
    Calls Try.prog 51 #[.agg #[.int .i64 W, .int .i64 H, .slice ad n cap], .int .i64 l] w fun e w' => e = .returned (.int .i64 (spreadP (cellsF W H xs l))) ∧ Below w.heap.size w w' := by
  have HN := Lib.hid hn
  have HA := Lib.hid (ha.alloc (.cells #[.int .i64 W, .int .i64 H, .slice ad n cap] 60))
  clear hn ha
  go_enter Try.func51, Try.ntmps51
  go_wp2_with fail
  refine (impl_CellsBelow _ _ _ _ _ xs _ _ HN.out (by exact HA.out) hl).mono ?_
  have HPB := Lib.hid (cells_plateB W H xs l)
  obtain ⟨p, hp⟩ : ∃ p, cellsF W H xs l = p := ⟨_, rfl⟩
  rw [hp] at HPB ⊢
  have HP := Lib.hid hp
  clear hp
  obtain ⟨pw, ph, ink⟩ := p
  rintro e w1 ⟨a, m, c, rfl, ho, hm, hb⟩
  dsimp only at ho
  have HX := Lib.hid ho.len
  have HLS := Lib.hid (spread_is HPB.out)
  have RD2 := Lib.hid (ho.rd.alloc (.cells #[.int .i64 pw, .int .i64 ph, .slice a m c] 41))
  have KM2 := Lib.hid (Blk.new w1 41 #[.int .i64 pw, .int .i64 ph, .slice a m c])
  have HB2 := Lib.hid (bAlloc (bTrans (Joins.below_alloc1 w _) hb) (.cells #[.int .i64 pw, .int .i64 ph, .slice a m c] 41))
  obtain ⟨w2, hw2⟩ : ∃ w2, w2 = w1.alloc (.cells #[.int .i64 pw, .int .i64 ph, .slice a m c] 41) := ⟨_, rfl⟩
  obtain ⟨l0, o0, o1, o2⟩ := KM2.out.c3
  clear ho hb
  go_wp2_with fail
  refine (impl_dotsOf pw ph a m c ink _ HX.out (by exact RD2.out) HPB.out).mono ?_
  rintro e w3 ⟨sa, d, sc, rfl, hd, ho, hb⟩
  obtain ⟨ls, hls⟩ : ∃ ls, onesTo ink m = ls := ⟨_, rfl⟩
  rw [hls] at hd ho
  have HMEM : Hid (∀ i, i ∈ ls → i < m ∧ ink.getD i 0 = 1) := Lib.hid (fun i hi => ones_mem.1 (by rw [hls]; exact hi))
  have HMEM2 : Hid (∀ i, i < m → ink.getD i 0 = 1 → i ∈ ls) := Lib.hid (fun i h1 h2 => by rw [← hls]; exact ones_mem.2 ⟨h1, h2⟩)
  have dle : d ≤ m := by rw [← hd, ← hls]; exact ones_len _ _
  have mle : m ≤ 256 := by
    have hx := HX.out
    rcases HPB.out with h | ⟨h1, h2, h3, h4, h5, h6⟩
    · simp only [] at h; rw [h] at hx; simp at hx; omega
    · simp only [] at h6 hx; omega
  have HD := Lib.hid hd
  have RS3 := Lib.hid ho.rd
  have KM3 := Lib.hid (KM2.out.below' hb)
  have HB3 := Lib.hid (bTrans HB2.out hb)
  clear ho hb hd hls o0 o1 o2 l0 hw2 w2
  go_wp2_with fail
  go_loopw [7, 20] (fun b i wr => ∃ (k : Nat) (B : Int), k ≤ d ∧ b = .int .i64 B ∧ i = .int .i64 k ∧ Hid (Least (farG pw ph) (pairsTo ls k 0) B) ∧ Below w3.heap.size w3 wr) (fun _ i _ => d - (intOf i).toNat)
  case atStart => exact ⟨0, 0, Nat.zero_le _, rfl, rfl, Lib.hid (Least.none (pairs_zero ls)), Below.refl _ _⟩
  case round =>
    obtain ⟨k, B, hk, rfl, rfl, HLE, hwr⟩ := hrel
    have HWr := Lib.hid hwr
    have RSr := Lib.hid (RS3.out.below hwr)
    clear hwr
    by_cases hlt : k < d
    · obtain ⟨A, hA⟩ : ∃ A, ls.getD k 0 = A := ⟨_, rfl⟩
      have HA2 := Lib.hid hA
      obtain ⟨Am, A1⟩ : A < m ∧ ink.getD A 0 = 1 := HMEM.out A (by rw [← hA]; have := HD.out; simp [List.getD, List.getElem?_eq_getElem (show k < ls.length by omega)])
      have HA1 := Lib.hid A1
      obtain ⟨b1, b2, b3, b4, b5, b6⟩ : 1 ≤ pw ∧ pw ≤ 256 ∧ 1 ≤ ph ∧ ph ≤ 256 ∧ (m : Int) = pw * ph ∧ m ≤ 256 := by
        rcases HPB.out with h | ⟨h1, h2, h3, h4, h5, h6⟩
        · have := HX.out; simp only [] at h; rw [h] at this; simp at this; omega
        · have := HX.out; simp only [] at h5 h6; rw [this] at h5 h6; exact ⟨h1, h2, h3, h4, h5, h6⟩
      have B5 := Lib.hid b5
      obtain ⟨P, Q, hP, hQ, tP, tQ, p0, p1, q0, q1⟩ := place_bd b1 b2 b5 b6 Am
      clear b5 tP tQ A1
      obtain ⟨ba, oa, hae, hal, g1, g2⟩ := rd_place RSr.out (k := k) (by have := HD.out; omega)
      subst hae
      rw [hA, hP] at g1
      rw [hA, hQ] at g2
      have HPQ := Lib.hid (And.intro hP hQ)
      have HWx := Lib.hid (bAlloc HWr.out (.cells #[.int .i64 P, .int .i64 Q] 72))
      have KAx := Lib.hid (Blk.new wr 72 #[.int .i64 P, .int .i64 Q])
      obtain ⟨wx, hwx⟩ : ∃ wx, wx = wr.alloc (.cells #[.int .i64 P, .int .i64 Q] 72) := ⟨_, rfl⟩
      obtain ⟨ga, hga⟩ : ∃ ga, ga = wr.heap.size := ⟨_, rfl⟩
      rw [← hwx] at HWx KAx
      rw [← hga] at KAx
      clear hA hP hQ
      go_wp2_with fail
      rw [← hwx, ← hga]
      have HGA : Hid (w3.heap.size ≤ ga) := Lib.hid (by rw [hga]; exact HWr.out.size)
      clear hwx hga g1 g2
      go_loopw [7, 26] (fun b i wz => ∃ (j : Nat) (D : Int), j ≤ d ∧ b = .int .i64 D ∧ i = .int .i64 j ∧ Hid (Least (farG pw ph) (pairsTo ls k j) D) ∧ Below wx.heap.size wx wz) (fun _ i _ => d - (intOf i).toNat)
      case atStart => exact ⟨0, B, Nat.zero_le _, rfl, rfl, HLE, Below.refl _ _⟩
      case round =>
        obtain ⟨j, D, hj, rfl, rfl, HLD, hwz⟩ := hrel
        have HWz := Lib.hid hwz
        have KAz := Lib.hid (KAx.out.below' hwz)
        have HWw := Lib.hid (bTrans HWx.out hwz)
        clear hwz
        by_cases hlt2 : j < d
        · have KMz := Lib.hid ((KM3.out.below' HWw.out))
          obtain ⟨l0, o0, o1, o2⟩ := KMz.out.c3
          have a0 := KAz.out.cell 0
          have a1 := KAz.out.cell 1
          simp only [List.getElem?_toArray, List.getElem?_cons_zero, List.getElem?_cons_succ] at a0 a1
          have kal := KAz.out.lt
          have RSz := Lib.hid (RS3.out.below HWw.out)
          obtain ⟨C, hC⟩ : ∃ C, ls.getD j 0 = C := ⟨_, rfl⟩
          obtain ⟨Cm, C1⟩ : C < m ∧ ink.getD C 0 = 1 := HMEM.out C (by rw [← hC]; have := HD.out; simp [List.getD, List.getElem?_eq_getElem (show j < ls.length by omega)])
          obtain ⟨P', Q', hP', hQ', tP', tQ', p0', p1', q0', q1'⟩ := place_bd b1 b2 B5.out b6 Cm
          obtain ⟨bb, ob, hbe, hbl, g1, g2⟩ := rd_place RSz.out (k := j) (by have := HD.out; omega)
          cases hbe
          rw [hC, hP'] at g1
          rw [hC, hQ'] at g2
          clear tP' tQ'
          by_cases heq : A = C
          · have EP : P = P' := by rw [← HPQ.out.1, ← hP', heq]
            have EQ : Q = Q' := by rw [← HPQ.out.2, ← hQ', heq]
            subst EP
            subst EQ
            have HLD2 := Lib.hid (HLD.out.same (fun x y => pairs_skip ls (i := k) (j := j) (by have := HD.out; omega) (by have := HD.out; omega) (by rw [HA2.out, hC]; exact heq) x y))
            clear hP' hQ' hC heq C1 Cm
            go_wp2_with fail
            go_roundw
            case rel => exact ⟨j + 1, D, by omega, rfl, by go_num, HLD2, bAlloc HWz.out _⟩
            case measure => simp [intOf]; omega
          · have HNE : Hid (ls.getD k 0 ≠ ls.getD j 0) := Lib.hid (by rw [HA2.out, hC]; exact heq)
            obtain ⟨E, hE⟩ : ∃ E, farG pw ph A C = E := ⟨_, rfl⟩
            have HT : Hid (∀ v : World, Calls Try.prog 75 #[.int .i64 pw, .int .i64 ph, .agg #[.int .i64 P, .int .i64 Q], .agg #[.int .i64 P', .int .i64 Q']] v fun e v' => e = .returned (.int .i64 E) ∧ Below v.heap.size v v') := Lib.hid (fun v => by
              have h := impl_torusSquare pw ph m A C v b1 b2 b3 b4 B5.out b6 Am Cm
              rw [HPQ.out.1, HPQ.out.2, hP', hQ', hE] at h
              exact h)
            have HSS : Hid (Least (farG pw ph) (pairsTo ls k (j + 1)) (if D = 0 ∨ E < D then E else D)) := Lib.hid (by
              have h := HLD.out.step (i := A) (k := C) (farG_pos b1 b3 B5.out Am Cm heq)
              rw [hE] at h
              refine h.same (fun x y => ?_)
              have h2 := pairs_step ls (i := k) (j := j) (by have := HD.out; omega) (by have := HD.out; omega) HNE.out x y
              rw [HA2.out, hC] at h2
              exact h2)
            have hpq : ¬ (P = P' ∧ Q = Q') := fun h => heq (by
              have e1 := Int.emod_add_mul_ediv (A : Int) pw
              have e2 := Int.emod_add_mul_ediv (C : Int) pw
              rw [HPQ.out.1, HPQ.out.2, h.1, h.2] at e1
              rw [hP', hQ'] at e2
              omega)
            clear hP' hQ' hC heq hE
            by_cases hd : D = 0
            · rw [if_pos (Or.inl hd)] at HSS
              subst hd
              by_cases hpp : P = P'
              · subst hpp
                have hqq : (Q == Q') = false := by simp; exact fun h => hpq ⟨rfl, h⟩
                have hqq2 : ¬ Q = Q' := fun h => hpq ⟨rfl, h⟩
                clear hpq
                go_wp2_with fail
                refine (HT.out _).mono ?_
                rintro e v1 ⟨rfl, hq⟩
                have HV1 := Lib.hid (bTrans (bAlloc HWz.out (.cells #[.int .i64 P, .int .i64 Q'] 72)) hq)
                clear hq
                go_wp2_with fail
                go_roundw
                case rel => exact ⟨j + 1, E, by omega, rfl, by go_num, HSS, HV1.out⟩
                case measure => simp [intOf]; omega
              · have hpp2 : (P == P') = false := by simpa using hpp
                clear hpq
                go_wp2_with fail
                refine (HT.out _).mono ?_
                rintro e v1 ⟨rfl, hq⟩
                have HV1 := Lib.hid (bTrans (bAlloc HWz.out (.cells #[.int .i64 P', .int .i64 Q'] 72)) hq)
                clear hq
                go_wp2_with fail
                go_roundw
                case rel => exact ⟨j + 1, E, by omega, rfl, by go_num, HSS, HV1.out⟩
                case measure => simp [intOf]; omega
            · by_cases hd2 : E < D
              · rw [if_pos (Or.inr hd2)] at HSS
                by_cases hpp : P = P'
                · subst hpp
                  have hqq : (Q == Q') = false := by simp; exact fun h => hpq ⟨rfl, h⟩
                  have hqq2 : ¬ Q = Q' := fun h => hpq ⟨rfl, h⟩
                  clear hpq
                  go_wp2_with fail
                  refine (HT.out _).mono ?_
                  rintro e v1 ⟨rfl, hq⟩
                  have HV1 := Lib.hid (bTrans (bAlloc HWz.out (.cells #[.int .i64 P, .int .i64 Q'] 72)) hq)
                  clear hq
                  go_wp2_with fail
                  go_roundw
                  case rel => exact ⟨j + 1, E, by omega, rfl, by go_num, HSS, HV1.out⟩
                  case measure => simp [intOf]; omega
                · have hpp2 : (P == P') = false := by simpa using hpp
                  clear hpq
                  go_wp2_with fail
                  refine (HT.out _).mono ?_
                  rintro e v1 ⟨rfl, hq⟩
                  have HV1 := Lib.hid (bTrans (bAlloc HWz.out (.cells #[.int .i64 P', .int .i64 Q'] 72)) hq)
                  clear hq
                  go_wp2_with fail
                  go_roundw
                  case rel => exact ⟨j + 1, E, by omega, rfl, by go_num, HSS, HV1.out⟩
                  case measure => simp [intOf]; omega
              · rw [if_neg (by omega)] at HSS
                by_cases hpp : P = P'
                · subst hpp
                  have hqq : (Q == Q') = false := by simp; exact fun h => hpq ⟨rfl, h⟩
                  have hqq2 : ¬ Q = Q' := fun h => hpq ⟨rfl, h⟩
                  clear hpq
                  go_wp2_with fail
                  refine (HT.out _).mono ?_
                  rintro e v1 ⟨rfl, hq⟩
                  have HV1 := Lib.hid (bTrans (bAlloc HWz.out (.cells #[.int .i64 P, .int .i64 Q'] 72)) hq)
                  clear hq
                  go_wp2_with fail
                  go_roundw
                  case rel => exact ⟨j + 1, D, by omega, rfl, by go_num, HSS, HV1.out⟩
                  case measure => simp [intOf]; omega
                · have hpp2 : (P == P') = false := by simpa using hpp
                  clear hpq
                  go_wp2_with fail
                  refine (HT.out _).mono ?_
                  rintro e v1 ⟨rfl, hq⟩
                  have HV1 := Lib.hid (bTrans (bAlloc HWz.out (.cells #[.int .i64 P', .int .i64 Q'] 72)) hq)
                  clear hq
                  go_wp2_with fail
                  go_roundw
                  case rel => exact ⟨j + 1, D, by omega, rfl, by go_num, HSS, HV1.out⟩
                  case measure => simp [intOf]; omega
        · obtain rfl : d = j := by omega
          go_wp2_with fail
          go_roundw
          case rel => exact ⟨k + 1, D, by omega, rfl, by go_num, Lib.hid (HLD.out.same (fun x y => by rw [← HD.out]; exact pairs_row ls (by have := HD.out; omega) x y)), HWw.out⟩
          case measure => simp [intOf]; omega
    · obtain rfl : d = k := by omega
      have HBB : Hid (B = spreadP ⟨pw, ph, ink⟩) := Lib.hid (by
        have hx := HX.out
        have hls := HLS.out
        have hle := HLE.out.same (S' := fun x y => x ≠ y ∧ x ∈ ls ∧ y ∈ ls) (fun x y => by rw [← HD.out]; exact pairs_all ls x y)
        try dsimp only at hls
        rw [hx] at hls
        rcases HPB.out with h | ⟨h1, h2, h3, h4, h5, h6⟩
        · dsimp only at h
          rw [h] at hx
          have hm0 : m = 0 := by simpa using hx.symm
          rw [hle.zero (fun i k h => by have := HMEM.out i h.2.1; omega), hls.zero (fun i k h => by omega)]
        · refine Least.one hle hls (fun i k => farG_symm h1 h3 i k) (fun i k h => ?_) (fun i k h => Or.inl ⟨by omega, HMEM2.out i h.1 h.2.2.1, HMEM2.out k (by omega) h.2.2.2⟩)
          obtain ⟨e1, e2⟩ := HMEM.out i h.2.1
          obtain ⟨e3, e4⟩ := HMEM.out k h.2.2
          by_cases c : k < i
          · exact Or.inl ⟨e1, c, e2, e4⟩
          · exact Or.inr ⟨e3, by have := h.1; omega, e4, e2⟩)
      go_wp2_with fail
      go_ret
      exact ⟨ret_int (by rw [HP.out]; exact HBB.out), bTrans HB3.out HWr.out⟩

end Go.Proofs.Ytbopeibommnjgaa
