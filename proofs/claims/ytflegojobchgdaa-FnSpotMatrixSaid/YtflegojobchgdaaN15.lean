/-
  Contracts of chapter 6: SpotRanks of the program.
-/
import Derived.Test.YtflegojobchgdaaN14
import Derived.Test.YtflegojobchgdaaK1
namespace Go.Proofs.Ytflegojobchgdaa
open Go.RowKit
set_option linter.unusedVariables false
set_option linter.unusedSimpArgs false

theorem infoCell5 : (Try.prog.info? 56).map (fun i => (i.zero, i.size, i.bytes)) = some (some (zeros 2), 2, 16) := by kernel_rfl

/-- The key of a name: how near its point is. -/
def nearK (A B d : Int) (i : Int) : Int := nearF A B (i % d) (i / d)

theorem getD_set2 {xs : List Int} {i : Nat} (v : Int) (h : i < xs.length) : (xs.set i v).getD i 0 = v := by simp [List.getD, h]
theorem getD_set3 {xs : List Int} {i j : Nat} (v : Int) (h : i ≠ j) : (xs.set i v).getD j 0 = xs.getD j 0 := by simp [List.getD, List.getElem?_set, h]

set_option maxRecDepth 100000 in
set_option maxHeartbeats 1600000 in
theorem impl_SpotRanks_yes {A B d : Int} {N : Nat} {g a b p q : Int} (L : Lat A B (N : Int) g d a b p q) (w : World) :
    Calls Try.prog 57 #[.agg #[.int .i64 A, .int .i64 B]] w fun e w' => ∃ nb : Nat, e = .returned (.slice (some ⟨nb, 0, none⟩) N N) ∧ w.heap.size ≤ nb ∧ Own w' nb N N (ranksL (nearK A B d) N) ∧ Below w.heap.size w w' := by
  have n1 := L.n1; have n2 := L.n2; have d1 := L.w1; have d2 := L.w2
  have N1 : 0 < N := by omega
  have N2 : N ≤ 288 := by omega
  have HL := Lib.hid L
  clear L
  go_enter Try.func57, Try.ntmps57
  go_wp2_with fail
  refine (impl_IsLattice _ _ _).mono ?_
  rw [lat_ok HL.out]
  rintro e w1 ⟨rfl, hb⟩
  have HB1 := Lib.hid (bTrans (Joins.below_alloc1 _ _) hb)
  have KB1 := Lib.hid ((Blk.new w 24 #[.int .i64 A, .int .i64 B]).below' hb)
  obtain ⟨z, c0, c1⟩ := KB1.out.c2
  clear hb
  go_wp2_with fail
  refine (impl_AreaOf_yes HL.out _).mono ?_
  rintro e w2 ⟨rfl, hb⟩
  have HB2 := Lib.hid (bTrans HB1.out hb)
  have KB2 := Lib.hid (KB1.out.below' hb)
  clear hb z c0 c1
  go_wp2_with (at_make; refine wp_makeT _ rfl 86 56 2 16 Try.underlying86 infoCell5 (by decide) (by decide) _ _ rfl .i64 .i64 N N N rfl rfl rfl rfl (by omega) ?_; intro w3 hr hb)
  have HB3 := Lib.hid (bTrans HB2.out hb)
  have KB3 := Lib.hid (KB2.out.below' hb)
  have HR0 := Lib.hid hr
  have zb : w.heap.size < w2.heap.size := KB2.out.lt
  have zb2 : w.heap.size ≤ w2.heap.size := by omega
  clear hr hb
  go_wp2_with fail
  go_loopw [14] (fun i wr => ∃ (k : Nat) (xs : List Int), k ≤ N ∧ i = .int .i64 k ∧ Hid (RowT wr 56 2 w2.heap.size N N xs) ∧ Hid (∀ j, j < k → xs.getD (j * 2) 0 = (j : Int) % d ∧ xs.getD (j * 2 + 1) 0 = (j : Int) / d) ∧ Hid (Blk wr w.heap.size 24 #[.int .i64 A, .int .i64 B]) ∧ Hid (Below w.heap.size w wr)) (fun i _ => N - (intOf i).toNat)
  case atStart => exact ⟨0, _, Nat.zero_le _, rfl, HR0, Lib.hid (fun j hj => by omega), KB3, HB3⟩
  case round =>
    clear HR0 KB3 HB3
    obtain ⟨k, xs, hk, rfl, HR, HX, KB, HB⟩ := hrel
    obtain ⟨z, c0, c1⟩ := KB.out.c2
    by_cases hlt : k < N
    · obtain ⟨U, hU⟩ : ∃ U, (k : Int) % d = U := ⟨_, rfl⟩
      obtain ⟨V, hV⟩ : ∃ V, (k : Int) / d = V := ⟨_, rfl⟩
      have HU := Lib.hid hU
      have HV := Lib.hid hV
      clear hU hV
      have kn : (k : Int) < (N : Int) := by omega
      go_wp2_with fail
      refine (impl_PointOf_yes HL.out (k : Int) (by omega) (by omega) _).mono ?_
      rw [HU.out, HV.out]
      rintro e w4 ⟨rfl, hb⟩
      have HB4 := Lib.hid (bTrans HB.out hb)
      have KB4 := Lib.hid (KB.out.below' hb)
      have HR4 := Lib.hid (HR.out.below hb HR.out.lt)
      clear z c0 c1 hb
      have g0 := HR4.out.cell (j := k * 2) (by omega)
      have g1 := HR4.out.cell (j := k * 2 + 1) (by omega)
      have f0 := HR4.out.frozen (k * 2)
      have f1 := HR4.out.frozen (k * 2 + 1)
      have HR5 := Lib.hid ((HR4.out.set (k * 2) U).set (k * 2 + 1) V)
      have HX5 : Hid (∀ j, j < k + 1 → ((xs.set (k * 2) U).set (k * 2 + 1) V).getD (j * 2) 0 = (j : Int) % d ∧ ((xs.set (k * 2) U).set (k * 2 + 1) V).getD (j * 2 + 1) 0 = (j : Int) / d) := Lib.hid (by
        intro j hj
        have hl := HR4.out.len
        by_cases e : j = k
        · subst e
          rw [HU.out, HV.out]
          exact ⟨by rw [getD_set3 V (by omega), getD_set2 U (by omega)], by rw [getD_set2 V (by simp; omega)]⟩
        · rw [getD_set3 V (by omega), getD_set3 U (by omega), getD_set3 V (by omega), getD_set3 U (by omega)]
          exact HX.out j (by omega))
      have KB5 := Lib.hid ((KB4.out.other (a := ⟨w2.heap.size, k * 2, none⟩) (by simp; omega) (.int .i64 U)).other (a := ⟨w2.heap.size, k * 2 + 1, none⟩) (by simp; omega) (.int .i64 V))
      have HB5 := Lib.hid ((HB4.out.setCell (p := ⟨w2.heap.size, k * 2, none⟩) (by exact zb2) (.int .i64 U)).setCell (p := ⟨w2.heap.size, k * 2 + 1, none⟩) (by exact zb2) (.int .i64 V))
      go_wp2_with fail
      go_roundw
      case rel => exact ⟨k + 1, _, by omega, by go_num, HR5, HX5, KB5, HB5⟩
      case measure => simp [intOf]; omega
    · obtain rfl : k = N := by omega
      have EG : Hid (∀ args w, (callFunc 64 args).run Try.prog w = .ok (.enter 64 args) w) := Lib.hid (enters5 _ _ _ Try.func64 (by kernel_rfl) rfl)
      have OR : Hid (∀ v, Below wr.heap.size wr v → ∀ i j : Nat, i < k → j < k → Calls Try.prog 64 (#[.agg #[.int .i64 ((i : Int) % d), .int .i64 ((i : Int) / d)], .agg #[.int .i64 ((j : Int) % d), .int .i64 ((j : Int) / d)]] ++ #[.pointer (some ⟨w.heap.size, 0, none⟩)]) v fun e v' => ∃ c : Int, e = .returned (.int .i64 c) ∧ (c < 0 ↔ nearK A B d (i : Int) < nearK A B d (j : Int)) ∧ Below v.heap.size v v') := Lib.hid (fun v hv i j hi hj => by
        have kb := KB.out.below' hv
        obtain ⟨z, c0, c1⟩ := kb.c2
        exact nearOrd HL.out _ _ _ _ w.heap.size v z c0 c1)
      have CI : Hid (∀ t, t < k → wr.cell? ⟨w2.heap.size, t * 2, none⟩ = some (.int .i64 ((t : Int) % d)) ∧ wr.cell? ⟨w2.heap.size, t * 2 + 1, none⟩ = some (.int .i64 ((t : Int) / d))) := Lib.hid (fun t ht => by
        have h1 := HR.out.cell (j := t * 2) (by omega)
        have h2 := HR.out.cell (j := t * 2 + 1) (by omega)
        rw [(HX.out t ht).1] at h1
        rw [(HX.out t ht).2] at h2
        exact ⟨h1, h2⟩)
      have ZI := Lib.hid HR.out.lt
      go_wp2_with fail
      refine (seqCell 64 #[.pointer (some ⟨w.heap.size, 0, none⟩)] w2.heap.size k (fun t => (t : Int) % d) (fun t => (t : Int) / d) (nearK A B d) _ EG.out (by omega) N1 CI.out ZI.out OR.out).mono ?_
      rintro e w5 ⟨f, blk, rfl, hbl, ho, hg, hb⟩
      have HB6 := Lib.hid (bTrans HB.out hb)
      have HO6 := Lib.hid ho
      have HG6 := Lib.hid hg
      clear hbl ho hg hb
      go_wp2_with fail
      refine (placesIn5 (nearK A B d) f blk k _ HO6.out HG6.out (by omega)).mono ?_
      rintro e w6 ⟨nb, rfl, hnb, ho, hb⟩
      have HB7 := Lib.hid (bTrans HB6.out hb)
      have HO7 := Lib.hid ho
      have HN7 := Lib.hid (Nat.le_trans HB6.out.size hnb)
      clear hnb ho hb
      go_wp2_with fail
      go_ret
      exact ⟨nb, rfl, HN7.out, HO7.out, HB7.out⟩

set_option maxHeartbeats 400000 in
theorem impl_SpotRanks_no {A B : Int} (h : latOk A B = false) (w : World) :
    Calls Try.prog 57 #[.agg #[.int .i64 A, .int .i64 B]] w fun e w' => e = .returned (.slice none 0 0) ∧ Below w.heap.size w w' := by
  have HL := Lib.hid h
  clear h
  go_enter Try.func57, Try.ntmps57
  go_wp2_with fail
  refine (impl_IsLattice _ _ _).mono ?_
  rw [HL.out]
  rintro e w1 ⟨rfl, hb⟩
  have HB1 := Lib.hid (bTrans (Joins.below_alloc1 _ _) hb)
  clear hb
  go_wp2_with fail
  go_ret
  exact ⟨rfl, HB1.out⟩

end Go.Proofs.Ytflegojobchgdaa
