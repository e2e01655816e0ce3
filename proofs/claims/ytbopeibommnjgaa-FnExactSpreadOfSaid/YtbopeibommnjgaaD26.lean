/-
  Contract of the model's spread.
-/
import Derived.Test.YtbopeibommnjgaaD25
import Derived.Test.YtbopeibommnjgaaD6b
namespace Go.Proofs.Ytbopeibommnjgaa
open Go.RowKit
set_option linter.unusedVariables false
set_option linter.unusedSimpArgs false

def spreadP (p : Pic) : Int := spreadG (farG p.W p.H) (pairsG p.ink.length (fun i => decide (p.ink.getD i 0 = 1)))

def PlateB (p : Pic) : Prop := p.ink = [] ∨ (1 ≤ p.W ∧ p.W ≤ 256 ∧ 1 ≤ p.H ∧ p.H ≤ 256 ∧ (p.ink.length : Int) = p.W * p.H ∧ p.ink.length ≤ 256)

theorem cells_plateB (W H : Int) (xs : List Int) (l : Int) : PlateB (cellsF W H xs l) := by
  by_cases h : matOk W H xs = true ∧ 0 ≤ l ∧ l ≤ (xs.length : Int) ∧ sizeOk W H = true
  · unfold cellsF
    rw [if_pos h]
    obtain ⟨m1, m2, _, _⟩ := matOk_bd rfl h.1
    obtain ⟨b1, b2, b3, b4, b5, b6⟩ := matSize_bd m1
    exact Or.inr ⟨b1, b2, b3, b4, by simpa using m2, by simp; omega⟩
  · rw [cellsF_no h]; exact Or.inl rfl

theorem spread_is {p : Pic} (h : PlateB p) : Least (farG p.W p.H) (fun i k => i < p.ink.length ∧ k < i ∧ p.ink.getD i 0 = 1 ∧ p.ink.getD k 0 = 1) (spreadP p) := by
  have h2 := spread_least (far := farG p.W p.H) (n := p.ink.length) (p := fun i => decide (p.ink.getD i 0 = 1)) (fun i k hi hk => by
    rcases h with h | ⟨b1, b2, b3, b4, b5, b6⟩
    · rw [h] at hi; simp at hi
    · exact farG_pos b1 b3 b5 hi (by omega) (by omega))
  exact h2.same (fun i k => by simp)

set_option maxHeartbeats 6400000 in
theorem spec_SpreadOf (W H : Int) (ad : Option Addr) (n cap : Nat) (xs : List Int) (l : Int) (w : World) (hn : xs.length = n) (ha : Rd w ad xs) (hl : n ≤ 9223372036854775807) :
    Calls Try.prog 49 #[.agg #[.int .i64 W, .int .i64 H, .slice ad n cap], .int .i64 l] w fun e w' => e = .returned (.int .i64 (spreadP (cellsF W H xs l))) ∧ Below w.heap.size w w' := by
  have HN := Lib.hid hn
  have HA := Lib.hid (ha.alloc (.cells #[.int .i64 W, .int .i64 H, .slice ad n cap] 60))
  clear hn ha
  go_enter Try.func49, Try.ntmps49
  go_wp2_with fail
  refine (spec_CellsBelow _ _ _ _ _ xs _ _ HN.out (by exact HA.out) hl).mono ?_
  have HPB := Lib.hid (cells_plateB W H xs l)
  obtain ⟨p, hp⟩ : ∃ p, cellsF W H xs l = p := ⟨_, rfl⟩
  rw [hp] at HPB ⊢
  have HP := Lib.hid hp
  clear hp
  obtain ⟨pw, ph, ink⟩ := p
  rintro e w1 ⟨a, m, c, rfl, ho, hm, hb⟩
  dsimp only at ho
  have HX := Lib.hid ho.len
  have HLS := Lib.hid (spread_is HPB.out)
  have RD2 := Lib.hid (ho.rd.alloc (.cells #[.int .i64 pw, .int .i64 ph, .slice a m c] 41))
  have KM2 := Lib.hid (Blk.new w1 41 #[.int .i64 pw, .int .i64 ph, .slice a m c])
  have HB2 := Lib.hid (bAlloc (bTrans (Joins.below_alloc1 w _) hb) (.cells #[.int .i64 pw, .int .i64 ph, .slice a m c] 41))
  obtain ⟨w2, hw2⟩ : ∃ w2, w2 = w1.alloc (.cells #[.int .i64 pw, .int .i64 ph, .slice a m c] 41) := ⟨_, rfl⟩
  clear ho hb
  go_wp2_with fail
  rw [← hw2] at RD2 KM2 HB2 ⊢
  clear hw2
  go_loopw [6, 16] (fun b i wr => ∃ (k : Nat) (B : Int), k ≤ m ∧ b = .int .i64 B ∧ i = .int .i64 k ∧ Hid (Least (farG pw ph) (fun x y => x < k ∧ y < x ∧ ink.getD x 0 = 1 ∧ ink.getD y 0 = 1) B) ∧ Below w2.heap.size w2 wr) (fun _ i _ => m - (intOf i).toNat)
  case atStart => exact ⟨0, 0, Nat.zero_le _, rfl, rfl, Lib.hid (Least.none (fun i k h => by omega)), Below.refl _ _⟩
  case round =>
    obtain ⟨k, B, hk, rfl, rfl, HLE, hwr⟩ := hrel
    have HWr := Lib.hid hwr
    have KMr := Lib.hid (KM2.out.below' hwr)
    have RDr := Lib.hid (RD2.out.below hwr)
    clear hwr
    obtain ⟨l0, o0, o1, o2⟩ := KMr.out.c3
    by_cases hlt : k < m
    · obtain ⟨b1, b2, b3, b4, b5, b6⟩ : 1 ≤ pw ∧ pw ≤ 256 ∧ 1 ≤ ph ∧ ph ≤ 256 ∧ (m : Int) = pw * ph ∧ m ≤ 256 := by
        rcases HPB.out with h | ⟨h1, h2, h3, h4, h5, h6⟩
        · have := HX.out; simp only [] at h; rw [h] at this; simp at this; omega
        · have := HX.out; simp only [] at h5 h6; rw [this] at h5 h6; exact ⟨h1, h2, h3, h4, h5, h6⟩
      have B5 := Lib.hid b5
      clear b5
      obtain ⟨ba, oa, hae, hal, hac⟩ := RDr.out.at (by have := HX.out; omega)
      subst hae
      have g1 := hac k (by have := HX.out; omega)
      obtain ⟨V, hV⟩ : ∃ V, ink.getD k 0 = V := ⟨_, rfl⟩
      rw [hV] at g1
      have HV := Lib.hid hV
      clear hV hac
      by_cases hv1 : V = 1
      · subst hv1
        go_wp2_with fail
        go_loopw [6, 9] (fun b i wz => ∃ (j : Nat) (D : Int), j ≤ k ∧ b = .int .i64 D ∧ i = .int .i64 j ∧ Hid (Least (farG pw ph) (upTo (fun x => ink.getD x 0 = 1) k j) D) ∧ Below w2.heap.size w2 wz) (fun _ i _ => k - (intOf i).toNat)
        case atStart => exact ⟨0, B, Nat.zero_le _, rfl, rfl, Lib.hid HLE.out.open, HWr.out⟩
        case round =>
          obtain ⟨j, D, hj, rfl, rfl, HLD, hwz⟩ := hrel
          have HWz := Lib.hid hwz
          have KMz := Lib.hid (KM2.out.below' hwz)
          have RDz := Lib.hid (RD2.out.below hwz)
          clear hwz o0 o1 o2 l0 g1
          obtain ⟨l0, o0, o1, o2⟩ := KMz.out.c3
          by_cases hlt2 : j < k
          · obtain ⟨ba2, oa2, hae, hal2, hac⟩ := RDz.out.at (by have := HX.out; omega)
            cases hae
            have g2 := hac j (by have := HX.out; omega)
            obtain ⟨U, hU⟩ : ∃ U, ink.getD j 0 = U := ⟨_, rfl⟩
            rw [hU] at g2
            have HU := Lib.hid hU
            clear hU hac
            by_cases hu1 : U = 1
            · obtain ⟨E, hE⟩ : ∃ E, farG pw ph k j = E := ⟨_, rfl⟩
              have HTK := Lib.hid (HLD.out.take HV.out (by rw [HU.out]; exact hu1) (farG_pos b1 b3 B5.out hlt (by omega) (by omega)))
              rw [hE] at HTK
              have HE := Lib.hid hE
              clear hE
              by_cases hd : D = 0
              · rw [if_pos (Or.inl hd)] at HTK
                go_wp2_with fail
                refine (spec_l2Far pw ph (some ⟨ba, oa, none⟩) m c k j _ b1 b2 b3 b4 B5.out b6 hlt (by omega)).mono ?_
                rw [HE.out]
                rintro e w5 ⟨rfl, hq⟩
                go_wp2_with fail
                go_roundw
                case rel => exact ⟨j + 1, E, by omega, rfl, by go_num, HTK, bTrans HWz.out hq⟩
                case measure => simp [intOf]; omega
              · by_cases hd2 : E < D
                · rw [if_pos (Or.inr hd2)] at HTK
                  go_wp2_with fail
                  refine (spec_l2Far pw ph (some ⟨ba, oa, none⟩) m c k j _ b1 b2 b3 b4 B5.out b6 hlt (by omega)).mono ?_
                  rw [HE.out]
                  rintro e w5 ⟨rfl, hq⟩
                  have HW5 := Lib.hid (bTrans HWz.out hq)
                  have KM5 := Lib.hid (KMz.out.below' hq)
                  clear hq o0 o1 o2 l0
                  obtain ⟨l0, o0, o1, o2⟩ := KM5.out.c3
                  go_wp2_with fail
                  refine (spec_l2Far pw ph (some ⟨ba, oa, none⟩) m c k j _ b1 b2 b3 b4 B5.out b6 hlt (by omega)).mono ?_
                  rw [HE.out]
                  rintro e w6 ⟨rfl, hq⟩
                  go_wp2_with fail
                  go_roundw
                  case rel => exact ⟨j + 1, E, by omega, rfl, by go_num, HTK, bTrans HW5.out hq⟩
                  case measure => simp [intOf]; omega
                · rw [if_neg (by omega)] at HTK
                  go_wp2_with fail
                  refine (spec_l2Far pw ph (some ⟨ba, oa, none⟩) m c k j _ b1 b2 b3 b4 B5.out b6 hlt (by omega)).mono ?_
                  rw [HE.out]
                  rintro e w5 ⟨rfl, hq⟩
                  go_wp2_with fail
                  go_roundw
                  case rel => exact ⟨j + 1, D, by omega, rfl, by go_num, HTK, bTrans HWz.out hq⟩
                  case measure => simp [intOf]; omega
            · have HPS := Lib.hid (HLD.out.pass (fun h => hu1 (by rw [← HU.out]; exact h.2)))
              go_wp2_with fail
              go_roundw
              case rel => exact ⟨j + 1, D, by omega, rfl, by go_num, HPS, HWz.out⟩
              case measure => simp [intOf]; omega
          · obtain rfl : k = j := by omega
            go_wp2_with fail
            go_roundw
            case rel => exact ⟨k + 1, D, by omega, rfl, by go_num, Lib.hid HLD.out.close, HWz.out⟩
            case measure => simp [intOf]; omega
      · skip
        go_wp2_with fail
        go_loopw [6, 9] (fun b i wz => ∃ (j : Nat) (D : Int), j ≤ k ∧ b = .int .i64 D ∧ i = .int .i64 j ∧ Hid (Least (farG pw ph) (upTo (fun x => ink.getD x 0 = 1) k j) D) ∧ Below w2.heap.size w2 wz) (fun _ i _ => k - (intOf i).toNat)
        case atStart => exact ⟨0, B, Nat.zero_le _, rfl, rfl, Lib.hid HLE.out.open, HWr.out⟩
        case round =>
          obtain ⟨j, D, hj, rfl, rfl, HLD, hwz⟩ := hrel
          have HWz := Lib.hid hwz
          have KMz := Lib.hid (KM2.out.below' hwz)
          have RDz := Lib.hid (RD2.out.below hwz)
          clear hwz o0 o1 o2 l0 g1
          obtain ⟨l0, o0, o1, o2⟩ := KMz.out.c3
          by_cases hlt2 : j < k
          · obtain ⟨ba2, oa2, hae, hal2, hac⟩ := RDz.out.at (by have := HX.out; omega)
            cases hae
            have g2 := hac j (by have := HX.out; omega)
            obtain ⟨U, hU⟩ : ∃ U, ink.getD j 0 = U := ⟨_, rfl⟩
            rw [hU] at g2
            have HU := Lib.hid hU
            clear hU hac
            have HPS := Lib.hid (HLD.out.pass (fun h => hv1 (by rw [← HV.out]; exact h.1)))
            go_wp2_with fail
            go_roundw
            case rel => exact ⟨j + 1, D, by omega, rfl, by go_num, HPS, HWz.out⟩
            case measure => simp [intOf]; omega
          · obtain rfl : k = j := by omega
            go_wp2_with fail
            go_roundw
            case rel => exact ⟨k + 1, D, by omega, rfl, by go_num, Lib.hid HLD.out.close, HWz.out⟩
            case measure => simp [intOf]; omega
    · obtain rfl : m = k := by omega
      have HBB : Hid (B = spreadP ⟨pw, ph, ink⟩) := Lib.hid (by
        have hx := HX.out
        have hls := HLS.out
        try dsimp only at hls
        rw [hx] at hls
        rcases HPB.out with h | ⟨h1, h2, h3, h4, h5, h6⟩
        · dsimp only at h
          rw [h] at hx
          have hm0 : m = 0 := by simpa using hx.symm
          rw [HLE.out.zero (fun i k h => by omega), hls.zero (fun i k h => by omega)]
        · exact Least.one HLE.out hls (fun i k => farG_symm h1 h3 i k) (fun i k h => Or.inl h) (fun i k h => Or.inl h))
      go_wp2_with fail
      go_ret
      exact ⟨ret_int (by rw [HP.out]; exact HBB.out), bTrans HB2.out HWr.out⟩

end Go.Proofs.Ytbopeibommnjgaa
