/-
  Contracts of chapter 3: DoubleMatrix, BayerMatrix (program and model).
-/
import Derived.Test.YtafjpmlakpfidaaD7
namespace Go.Proofs.Ytafjpmlakpfidaa
open Go.RowKit
set_option linter.unusedVariables false
set_option linter.unusedSimpArgs false

theorem dbl_size_no {W H : Int} {n : Nat} (hn : (n : Int) = W * H) (h : ¬ 4 * n ≤ 256) : ¬ matSize (2 * W) (2 * H) = true := by
  intro hs
  obtain ⟨_, _, _, _, h5, _⟩ := matSize_bd hs
  have e : 2 * W * (2 * H) = 4 * (W * H) := by
    rw [Int.mul_assoc, Int.mul_left_comm W 2 H, ← Int.mul_assoc]; rfl
  rw [e] at h5
  omega

def bayerAll : Bool := [0, 1, 2, 3, 4].all (fun j => matOk (bayerM j).W (bayerM j).H (bayerM j).ranks && (decide ((bayerM j).ranks.length = 4 ^ j) && decide ((bayerM j).W = 2 ^ j ∧ (bayerM j).H = 2 ^ j)))

theorem bayerAll_ok : bayerAll = true := by decide +kernel

theorem bayer_ok (j : Nat) (hj : j ≤ 4) : matOk (bayerM j).W (bayerM j).H (bayerM j).ranks = true ∧ (bayerM j).ranks.length = 4 ^ j ∧ (bayerM j).W = 2 ^ j ∧ (bayerM j).H = 2 ^ j := by
  have h := bayerAll_ok
  unfold bayerAll at h
  rw [List.all_eq_true] at h
  have h2 := h j (by simp; omega)
  simpa [Bool.and_eq_true, decide_eq_true_eq] using h2

theorem bayer_len (j : Nat) (hj : j ≤ 3) : 4 * (bayerM j).ranks.length ≤ 256 := by
  rw [(bayer_ok j (by omega)).2.1]
  have : 4 ^ j ≤ 4 ^ 3 := Nat.pow_le_pow_right (by omega) hj
  omega

theorem OwnA.otherS {w : World} {B n cap : Nat} {ad : Option Addr} {xs : List Int} (h : OwnA w B ad n cap xs) {a : Addr} (ha : ∀ b, blockOf ad = some b → b ≠ a.block) (u : Value) : OwnA (w.setCell a u) B ad n cap xs := by
  rcases h with h | ⟨g, h1, h2, h⟩
  · exact .inl h
  · subst h1
    exact .inr ⟨g, rfl, h2, h.other (fun e => ha g rfl e.symm) u⟩

theorem bayerF_no {k : Int} (h : ¬ (0 ≤ k ∧ k ≤ 4)) : bayerF k = (noMat, false) := by unfold bayerF; rw [if_neg h]

theorem bayerF_yes {k : Nat} (h : k ≤ 4) : bayerF (k : Int) = (bayerM k, true) := by unfold bayerF; rw [if_pos ⟨by omega, by omega⟩]; rfl

set_option maxHeartbeats 800000 in
theorem impl_BayerMatrix (kk : Int) (w : World) : Calls Try.prog 16 #[.int .i64 kk] w (MatOut2 w (bayerF kk)) := by
  by_cases hk : 0 ≤ kk ∧ kk ≤ 4
  case neg =>
    rw [bayerF_no hk]
    go_enter Try.func16, Try.ntmps16
    go_wp2_with fail
    all_goals first | (exfalso; exact hk ⟨by omega, by omega⟩) | skip
    all_goals (
      skip
      exact bodyPost_ret (v := .tuple #[.agg #[.int .i64 0, .int .i64 0, .slice none 0 0], .bool false]) (by simp [results, Try.results16, go_sem]) rfl ⟨none, 0, 0, rfl, OwnA.none _ _, by omega, Joins.below_alloc1 _ _⟩
      )
  case pos =>
    obtain ⟨k, rfl⟩ : ∃ k : Nat, kk = (k : Int) := ⟨kk.toNat, by omega⟩
    have hk4 : k ≤ 4 := by omega
    rw [bayerF_yes hk4]
    clear hk
    go_enter Try.func16, Try.ntmps16
    go_wp2_with fail
    refine (impl_blankM 1 1 1 _ rfl rfl).mono ?_
    rintro e w2 ⟨g, rfl, hg, ho, hb⟩
    have HB2 := Lib.hid ((Joins.below_alloc1 _ _).trans (hb.mono (by simp)))
    have KR2 := Lib.hid ((Blk.new w 26 #[.int .i64 0, .int .i64 0, .slice none 0 0]).below' hb)
    have HO := Lib.hid ho
    have HG : Hid (w.heap.size + 1 ≤ g) := Lib.hid (by simpa using hg)
    clear hb ho hg
    go_wp2_with fail
    have NG := KR2.out.lt
    go_loopw [14] (fun i wr => ∃ (j : Nat) (ar : Option Addr) (nr cr : Nat), j ≤ k ∧ i = .int .i64 (j) ∧ OwnA wr (w.heap.size + 1) ar nr cr (bayerM j).ranks ∧ Hid (∀ b, blockOf ar = some b → b ≠ w2.heap.size) ∧ Blk wr (w2.heap.size) 26 #[.int .i64 (bayerM j).W, .int .i64 (bayerM j).H, .slice ar nr cr] ∧ Blk wr w.heap.size 26 #[.int .i64 0, .int .i64 0, .slice none 0 0] ∧ Below w.heap.size w wr) (fun i _ => k - (intOf i).toNat)
    case atStart => exact ⟨0, _, _, _, Nat.zero_le _, rfl, (OwnA.mk (HO.out.alloc _) HG.out), Lib.hid (by intro b hb; simp [blockOf] at hb; subst hb; have := HO.out.lt; omega), Blk.new _ _ _, KR2.out.alloc _, HB2.out.alloc HB2.out.size _⟩
    case round =>
      obtain ⟨j, ar, nr, cr, hj, rfl, ho, HNE, hb1, hb2, hw⟩ := hrel
      have HOr := Lib.hid ho
      have KB := Lib.hid hb1
      have KR := Lib.hid hb2
      have HW := Lib.hid hw
      obtain ⟨l0, o0, o1, o2⟩ := KB.out.c3
      obtain ⟨q0, q1, q2⟩ := KB.out.f3
      clear ho hb1 hb2 hw
      by_cases hlt : j < k
      · obtain ⟨m1, m2, m3, m4⟩ := matOk_bd HOr.out.len (bayer_ok j (by omega)).1
        obtain ⟨b1, b2, b3, b4, b5, b6⟩ := matSize_bd m1
        have h4 : 4 * nr ≤ 256 := by have := bayer_len j (by omega); have := HOr.out.len; omega
        have M2 := Lib.hid m2
        have M3 := Lib.hid m3
        clear m1 m2 m3 m4
        go_wp2_with fail
        refine (impl_doubled _ _ _ nr _ (bayerM j).ranks _ HOr.out.len (by exact HOr.out.rd) M2.out b1 b3 h4 M3.out).mono ?_
        rintro e w5 ⟨a5, n5, c5, rfl, ho5, hn5, hb5⟩
        have HO5 := Lib.hid ho5
        have KB5 := Lib.hid (KB.out.below' hb5)
        have KR5 := Lib.hid (KR.out.below' hb5)
        have HW5 := Lib.hid (bTrans HW.out hb5)
        have LB := Lib.hid KB.out.lt
        have LW := Lib.hid HW.out.size
        have LR := Lib.hid KR.out.lt
        have NB : Hid (∀ b, blockOf a5 = some b → b ≠ w2.heap.size) := Lib.hid (fun b hb => by have := HO5.out.bd b hb; have := LB.out; omega)
        clear ho5 hb5 o0 o1 o2 q0 q1 q2 l0
        obtain ⟨l0, o0, o1, o2⟩ := KB5.out.c3
        obtain ⟨q0, q1, q2⟩ := KB5.out.f3
        go_wp2_with fail
        go_roundw
        case rel =>
          exact ⟨j + 1, a5, n5, c5, by omega, by go_num, (((HO5.out.otherS (a := ⟨w2.heap.size, 0, none⟩) NB.out _).otherS (a := ⟨w2.heap.size, 1, none⟩) NB.out _).otherS (a := ⟨w2.heap.size, 2, none⟩) NB.out _).mono (by have := LW.out; have := LR.out; omega), NB, by exact ((KB5.out.set 0 _).set 1 _).set 2 _, ((KR5.out.other (by simp; try omega) _).other (by simp; try omega) _).other (by simp; try omega) _, ((HW5.out.setCell (by simp; try omega) _).setCell (by simp; try omega) _).setCell (by simp; try omega) _⟩
        case measure => simp [intOf]; omega
      · obtain rfl : k = j := by omega
        obtain ⟨r0, r1, r2, r3⟩ := KR.out.c3
        obtain ⟨t0, t1, t2⟩ := KR.out.f3
        have hlen : Hid (nr ≤ 1048576) := Lib.hid (by
          obtain ⟨m1, m2, _, _⟩ := matOk_bd HOr.out.len (bayer_ok k (by omega)).1
          obtain ⟨_, _, _, _, b5, _⟩ := matSize_bd m1
          omega)
        go_wp2_with fail
        exact bodyPost_ret (v := .tuple #[.agg #[.int .i64 (bayerM k).W, .int .i64 (bayerM k).H, .slice ar nr cr], .bool true]) (by simp [results, Try.results16, go_sem, r1, r2, r3]) rfl
          ⟨_, _, _, rfl, (((HOr.out.other (by simp; try omega) _).other (by simp; try omega) _).other (by simp; try omega) _).mono (by omega), hlen.out,
            ((HW.out.setCell (by first | (simp; done) | (simp; omega)) _).setCell (by first | (simp; done) | (simp; omega)) _).setCell (by first | (simp; done) | (simp; omega)) _⟩

end Go.Proofs.Ytafjpmlakpfidaa
