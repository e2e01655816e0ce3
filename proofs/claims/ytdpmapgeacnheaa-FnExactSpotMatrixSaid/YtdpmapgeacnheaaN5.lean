/-
  Contracts of chapter 6: the model's HasPoint, names and turns.
-/
import Derived.Test.YtdpmapgeacnheaaN4
namespace Go.Proofs.Ytdpmapgeacnheaa
open Go.RowKit
set_option linter.unusedVariables false
set_option linter.unusedSimpArgs false

set_option maxHeartbeats 400000 in
theorem spec_HasPoint_yes {A B n g d a b p q : Int} (L : Lat A B n g d a b p q) (x y : Int) (w : World) :
    Calls Try.prog 20 #[.agg #[.int .i64 A, .int .i64 B], .int .i64 x, .int .i64 y] w fun e w' => e = .returned (.bool (decide (HasL A B x y))) ∧ Below w.heap.size w w' := by
  have HL := Lib.hid L
  clear L
  obtain ⟨c, hc⟩ : ∃ c, decide (HasL A B x y) = c := ⟨_, rfl⟩
  have HC := Lib.hid hc
  rw [hc]
  clear hc
  go_enter Try.func20, Try.ntmps20
  go_wp2_with fail
  refine (spec_IsLattice _ _ _).mono ?_
  rw [lat_ok HL.out]
  rintro e w1 ⟨rfl, hb⟩
  have HB1 := Lib.hid (bTrans (Joins.below_alloc1 _ _) hb)
  obtain ⟨z, c0, c1⟩ := ((Blk.new w 25 #[.int .i64 A, .int .i64 B]).below' hb).c2
  clear hb
  go_wp2_with fail
  refine (spec_l5Has HL.out _ _ _).mono ?_
  rw [HC.out]
  rintro e w2 ⟨rfl, hb⟩
  have HB2 := Lib.hid (bTrans HB1.out hb)
  clear hb
  go_wp2_with fail
  go_ret
  exact ⟨rfl, HB2.out⟩

set_option maxHeartbeats 400000 in
theorem spec_HasPoint_no {A B : Int} (h : latOk A B = false) (x y : Int) (w : World) :
    Calls Try.prog 20 #[.agg #[.int .i64 A, .int .i64 B], .int .i64 x, .int .i64 y] w fun e w' => e = .returned (.bool false) ∧ Below w.heap.size w w' := by
  have HL := Lib.hid h
  clear h
  go_enter Try.func20, Try.ntmps20
  go_wp2_with fail
  refine (spec_IsLattice _ _ _).mono ?_
  rw [HL.out]
  rintro e w1 ⟨rfl, hb⟩
  have HB1 := Lib.hid (bTrans (Joins.below_alloc1 _ _) hb)
  clear hb
  go_wp2_with fail
  go_ret
  exact ⟨rfl, HB1.out⟩

theorem name_has {A B n g d a b p q x y K : Int} (L : Lat A B n g d a b p q) (hK : IsName A B x y K) {k : Int} (h0 : 0 ≤ k) (h1 : k < n) : decide (HasL A B (x - k % d) (y - k / d)) = decide (k = K) := by
  by_cases h : k = K
  · subst h
    rw [decide_eq_true (L.isName.1 hK).2.2, decide_eq_true rfl]
  · rw [decide_eq_false h, decide_eq_false]
    intro hh
    exact h (L.name_one (L.isName.2 ⟨h0, h1, hh⟩) hK)

set_option maxHeartbeats 1600000 in
theorem spec_l5Name {A B n g d a b p q : Int} (L : Lat A B n g d a b p q) (x y K : Int) (hK : IsName A B x y K) (x1 : -1000000 ≤ x) (x2 : x ≤ 1000000) (y1 : -1000000 ≤ y) (y2 : y ≤ 1000000) (w : World) :
    Calls Try.prog 54 #[.agg #[.int .i64 A, .int .i64 B], .int .i64 x, .int .i64 y] w fun e w' => e = .returned (.int .i64 K) ∧ Below w.heap.size w w' := by
  have n1 := L.n1; have n2 := L.n2; have d1 := L.w1; have d2 := L.w2; have g1 := L.g1; have g2 := L.g2
  have hw := L.wg
  have k0 := (L.isName.1 hK).1
  have k1 := (L.isName.1 hK).2.1
  obtain ⟨M, rfl⟩ : ∃ M : Nat, K = M := ⟨K.toNat, by omega⟩
  have HL := Lib.hid L
  have HK := Lib.hid hK
  clear L hK
  go_enter Try.func54, Try.ntmps54
  go_wp2_with fail
  refine (spec_l5Sides HL.out _).mono ?_
  rintro e w1 ⟨rfl, hb⟩
  have HB1 := Lib.hid (bTrans (Joins.below_alloc1 _ _) hb)
  have KB1 := Lib.hid ((Blk.new w 25 #[.int .i64 A, .int .i64 B]).below' hb)
  clear hb
  go_wp2_with fail
  go_loopw [9] (fun i wr => ∃ k : Nat, k ≤ M ∧ i = .int .i64 k ∧ Below w1.heap.size w1 wr) (fun i _ => M - (intOf i).toNat)
  case atStart => exact ⟨0, Nat.zero_le _, rfl, Below.refl _ _⟩
  case round =>
    obtain ⟨k, hk, rfl, hg⟩ := hrel
    have HG := Lib.hid hg
    have KR := Lib.hid (KB1.out.below' hg)
    clear hg
    obtain ⟨z, c0, c1⟩ := KR.out.c2
    obtain ⟨U, hU⟩ : ∃ U, (k : Int) % d = U := ⟨_, rfl⟩
    obtain ⟨V, hV⟩ : ∃ V, (k : Int) / d = V := ⟨_, rfl⟩
    obtain ⟨u1, u2, v1, v2, t1, t2⟩ := div5 HL.out (K := (k : Int)) (by omega) (by omega)
    have HN := Lib.hid (name_has HL.out HK.out (k := (k : Int)) (by omega) (by omega))
    rw [hU] at u1 u2 t1 HN
    rw [hV] at v1 v2 t2 HN
    clear hU hV
    have z1 : ¬ d = 0 := by omega
    have z2 : (d == 0) = false := by simp; omega
    have t3 : IntKind.i64.wrap U = U := IntWalk.i64_in _ (by omega)
    have t4 : IntKind.i64.wrap V = V := IntWalk.i64_in _ (by omega)
    have t5 : IntKind.i64.wrap (x - U) = x - U := IntWalk.i64_in _ (by omega)
    have t6 : IntKind.i64.wrap (y - V) = y - V := IntWalk.i64_in _ (by omega)
    have t7 : IntKind.i64.wrap (d * g) = d * g := by rw [hw]; exact IntWalk.i64_in _ (by omega)
    have hkn : (k : Int) < d * g := by omega
    go_wp2_with fail
    go_region_held3 (fun v => v.cell? ⟨w.heap.size, 0, none⟩ = some (.int .i64 A) ∧ v.cell? ⟨w.heap.size, 1, none⟩ = some (.int .i64 B))
      (first | exact ⟨c0, c1⟩ | exact ⟨(hb.cell z).trans c0, (hb.cell z).trans c1⟩)
      (first
        | (go_at_call 52; ((with_reducible refine (spec_l5Has HL.out _ _ _).mono ?_); rw [HN.out]; rintro e v1 ⟨rfl, hb⟩)))
    have HG1 := Lib.hid (bTrans HG.out.drew hb)
    clear hb
    by_cases hkM : k = M
    · have q1 : decide ((k : Int) = (M : Int)) = true := decide_eq_true (by omega)
      rw [q1]
      go_wp2_with fail
      go_ret
      exact ⟨ret_int (by omega), bTrans HB1.out HG1.out⟩
    · have q1 : decide ((k : Int) = (M : Int)) = false := decide_eq_false (by omega)
      rw [q1]
      go_wp2_with fail
      go_roundw
      case rel => exact ⟨k + 1, by omega, by go_num, HG1.out⟩
      case measure => simp [intOf]; omega

end Go.Proofs.Ytdpmapgeacnheaa
