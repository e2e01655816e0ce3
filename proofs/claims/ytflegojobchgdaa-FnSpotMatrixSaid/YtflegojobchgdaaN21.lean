/-
  Contracts of chapter 6: SpotMatrix of the program.
-/
import Derived.Test.YtflegojobchgdaaN17
import Derived.Test.YtflegojobchgdaaD1
import Derived.Test.YtflegojobchgdaaM3
namespace Go.Proofs.Ytflegojobchgdaa
open Go.RowKit
set_option linter.unusedVariables false
set_option linter.unusedSimpArgs false

/-- The SpotRank of the cell i, by a whole number. -/
def overK (A B d : Int) (N : Nat) (nm : Nat → Nat) (i : Int) : Int := overF A B d N nm i.toNat

theorem matSqB {d : Int} (h : matSize d d = true) : 1 ≤ d ∧ d ≤ 256 ∧ d * d ≤ 256 := by
  simp only [matSize, decide_eq_true_eq] at h; exact ⟨h.1, h.2.1, h.2.2.2.2⟩

set_option maxRecDepth 100000 in
set_option maxHeartbeats 1600000 in
theorem impl_SpotMatrix_yes {A B d : Int} {N : Nat} {g a b p q : Int} (L : Lat A B (N : Int) g d a b p q) (n : Nat) (nm : Nat → Nat) (hnm : Named A B d n nm) (hs : matSize d d = true) (hq : (n : Int) = d * d) (w : World) :
    Calls Try.prog 23 #[.agg #[.int .i64 A, .int .i64 B]] w (MatOut2 w (⟨d, d, ranksL (overK A B d N nm) n⟩, true)) := by
  obtain ⟨b1, b2, b3⟩ := matSqB hs
  have nb1 : n ≤ 256 := by omega
  have b5 : 1 * 1 ≤ d * d := Int.mul_le_mul b1 b1 (by omega) (by omega)
  have nb0 : 1 ≤ n := by omega
  have HL := Lib.hid L
  have HQ := Lib.hid hq
  have HS := Lib.hid hs
  have HNM : Aside _ := hnm
  clear L hq hs hnm b3 b5
  go_enter Try.func23, Try.ntmps23
  go_wp2_with fail
  refine (impl_PeriodOf_yes HL.out _).mono ?_
  rintro e w1 ⟨rfl, hb⟩
  have HB1 := Lib.hid (bTrans (Joins.below_alloc2 _ _ _) hb)
  have KL1 := Lib.hid (((Blk.new w 24 #[.int .i64 A, .int .i64 B]).alloc (.cells #[.int .i64 0, .int .i64 0, .slice none 0 0] 42)).below' hb)
  have KP1 := Lib.hid ((Blk.new' (g := w.heap.size + 1) (w := w.alloc (.cells #[.int .i64 A, .int .i64 B] 24)) 42 #[.int .i64 0, .int .i64 0, .slice none 0 0] (by simp)).below' hb)
  obtain ⟨z, c0, c1⟩ := KL1.out.c2
  clear hb
  go_wp2_with fail
  refine (impl_IsLattice _ _ _).mono ?_
  rw [lat_ok HL.out]
  rintro e w2 ⟨rfl, hb⟩
  have HB2 := Lib.hid (bTrans HB1.out hb)
  have KL2 := Lib.hid (KL1.out.below' hb)
  have KP2 := Lib.hid (KP1.out.below' hb)
  clear hb z c0 c1
  go_wp2_with fail
  refine (impl_isMatrixSize_yes _ _ _ HS.out).mono ?_
  rintro e w2 ⟨rfl, rfl⟩
  obtain ⟨z, c0, c1⟩ := KL2.out.c2
  go_wp2_with fail
  refine (impl_over HL.out d d n nm HNM.out b1 (by omega) b1 (by omega) HQ.out (by omega) _).mono ?_
  rintro e w3 ⟨rb, rfl, hrb, ho, hb⟩
  have HB3 := Lib.hid (bTrans HB2.out hb)
  have KP3 := Lib.hid (KP2.out.below' hb)
  have HO3 := Lib.hid ho
  clear hb z c0 c1 hrb ho
  have EG : Hid (∀ args w, (callFunc 47 args).run Try.prog w = .ok (.enter 47 args) w) := Lib.hid (enters5 _ _ _ Try.func47 (by kernel_rfl) rfl)
  have OR : Hid (∀ v, Below w3.heap.size w3 v → ∀ i k : Nat, i < n → k < n → Calls Try.prog 47 (#[.int .i64 (overF A B d N nm i), .int .i64 (overF A B d N nm k)] ++ #[]) v fun e v' => ∃ c : Int, e = .returned (.int .i64 c) ∧ (c < 0 ↔ overK A B d N nm (i : Int) < overK A B d N nm (k : Int)) ∧ Below v.heap.size v v') := Lib.hid (fun v hv i k hi hk => (cmp5 (overF A B d N nm i) (overF A B d N nm k) v).mono (fun e v' ⟨c, h1, h2, h3⟩ => ⟨c, h1, h2, by subst h3; exact Below.refl _ _⟩))
  have CI : Hid (∀ t, t < n → w3.cell? ⟨rb, t, none⟩ = some (.int .i64 (overF A B d N nm t))) := Lib.hid (fun t ht => own_c HO3.out ht)
  have ZI := Lib.hid HO3.out.lt
  go_wp2_with fail
  refine (seqNum 47 #[] rb n (overF A B d N nm) (overK A B d N nm) _ EG.out (by omega) nb0 CI.out ZI.out OR.out).mono ?_
  rintro e w5 ⟨f, blk, rfl, hbl, ho, hg, hb⟩
  have HB5 := Lib.hid (bTrans HB3.out hb)
  have KP5 := Lib.hid (KP3.out.below' hb)
  have HO5 := Lib.hid ho
  have HG5 := Lib.hid hg
  clear hbl ho hg hb
  go_wp2_with fail
  refine (placesIn5 (overK A B d N nm) f blk n _ HO5.out HG5.out (by omega)).mono ?_
  rintro e w6 ⟨nb, rfl, hnb, ho, hb⟩
  have HB6 := Lib.hid (bTrans HB5.out hb)
  have KP6 := Lib.hid (KP5.out.below' hb)
  have HO6 := Lib.hid ho
  have l5 : w.heap.size + 1 < nb := Nat.lt_of_lt_of_le KP5.out.lt hnb
  clear hnb ho hb
  obtain ⟨r0, r1, r2, r3⟩ := KP6.out.c3
  obtain ⟨q0, q1, q2⟩ := KP6.out.f3
  go_wp2_with fail
  exact bodyPost_ret (v := .tuple #[.agg #[.int .i64 d, .int .i64 d, .slice (some ⟨nb, 0, none⟩) n n], .bool true]) (by simp [results, Try.results23, go_sem, r1, r2, r3]) rfl
    ⟨_, _, _, rfl, OwnA.mk (((HO6.out.other (by simp; omega) _).other (by simp; omega) _).other (by simp; omega) _) (by omega), by omega,
      ((HB6.out.setCell (by first | (simp; done) | (simp; omega)) _).setCell (by first | (simp; done) | (simp; omega)) _).setCell (by first | (simp; done) | (simp; omega)) _⟩

set_option maxHeartbeats 800000 in
theorem impl_SpotMatrix_no1 {A B : Int} (h : latOk A B = false) (w : World) :
    Calls Try.prog 23 #[.agg #[.int .i64 A, .int .i64 B]] w (MatOut2 w (noMat, false)) := by
  have HL := Lib.hid h
  clear h
  go_enter Try.func23, Try.ntmps23
  go_wp2_with fail
  refine (impl_PeriodOf_no HL.out _).mono ?_
  rintro e w1 ⟨rfl, hb⟩
  have HB1 := Lib.hid (bTrans (Joins.below_alloc2 _ _ _) hb)
  have KL1 := Lib.hid (((Blk.new w 24 #[.int .i64 A, .int .i64 B]).alloc (.cells #[.int .i64 0, .int .i64 0, .slice none 0 0] 42)).below' hb)
  have KP1 := Lib.hid ((Blk.new' (g := w.heap.size + 1) (w := w.alloc (.cells #[.int .i64 A, .int .i64 B] 24)) 42 #[.int .i64 0, .int .i64 0, .slice none 0 0] (by simp)).below' hb)
  obtain ⟨z, c0, c1⟩ := KL1.out.c2
  clear hb
  go_wp2_with fail
  refine (impl_IsLattice _ _ _).mono ?_
  rw [HL.out]
  rintro e w2 ⟨rfl, hb⟩
  have HB2 := Lib.hid (bTrans HB1.out hb)
  have KP2 := Lib.hid (KP1.out.below' hb)
  clear hb z c0 c1
  obtain ⟨r0, r1, r2, r3⟩ := KP2.out.c3
  obtain ⟨q0, q1, q2⟩ := KP2.out.f3
  go_wp2_with fail
  exact bodyPost_ret (v := .tuple #[.agg #[.int .i64 0, .int .i64 0, .slice none 0 0], .bool false]) (by simp [results, Try.results23, go_sem, r1, r2, r3]) rfl ⟨none, 0, 0, rfl, OwnA.none _ _, by omega,
    ((HB2.out.setCell (by first | (simp; done) | (simp; omega)) _).setCell (by first | (simp; done) | (simp; omega)) _).setCell (by first | (simp; done) | (simp; omega)) _⟩

set_option maxHeartbeats 800000 in
theorem impl_SpotMatrix_no2 {A B d : Int} {N : Nat} {g a b p q : Int} (L : Lat A B (N : Int) g d a b p q) (hs : ¬ matSize d d = true) (w : World) :
    Calls Try.prog 23 #[.agg #[.int .i64 A, .int .i64 B]] w (MatOut2 w (noMat, false)) := by
  have HL := Lib.hid L
  have HS := Lib.hid hs
  clear L hs
  go_enter Try.func23, Try.ntmps23
  go_wp2_with fail
  refine (impl_PeriodOf_yes HL.out _).mono ?_
  rintro e w1 ⟨rfl, hb⟩
  have HB1 := Lib.hid (bTrans (Joins.below_alloc2 _ _ _) hb)
  have KL1 := Lib.hid (((Blk.new w 24 #[.int .i64 A, .int .i64 B]).alloc (.cells #[.int .i64 0, .int .i64 0, .slice none 0 0] 42)).below' hb)
  have KP1 := Lib.hid ((Blk.new' (g := w.heap.size + 1) (w := w.alloc (.cells #[.int .i64 A, .int .i64 B] 24)) 42 #[.int .i64 0, .int .i64 0, .slice none 0 0] (by simp)).below' hb)
  obtain ⟨z, c0, c1⟩ := KL1.out.c2
  clear hb
  go_wp2_with fail
  refine (impl_IsLattice _ _ _).mono ?_
  rw [lat_ok HL.out]
  rintro e w2 ⟨rfl, hb⟩
  have HB2 := Lib.hid (bTrans HB1.out hb)
  have KP2 := Lib.hid (KP1.out.below' hb)
  clear hb z c0 c1
  go_wp2_with fail
  refine (impl_isMatrixSize_no _ _ _ HS.out).mono ?_
  rintro e w2 ⟨rfl, rfl⟩
  obtain ⟨r0, r1, r2, r3⟩ := KP2.out.c3
  obtain ⟨q0, q1, q2⟩ := KP2.out.f3
  go_wp2_with fail
  exact bodyPost_ret (v := .tuple #[.agg #[.int .i64 0, .int .i64 0, .slice none 0 0], .bool false]) (by simp [results, Try.results23, go_sem, r1, r2, r3]) rfl ⟨none, 0, 0, rfl, OwnA.none _ _, by omega,
    ((HB2.out.setCell (by first | (simp; done) | (simp; omega)) _).setCell (by first | (simp; done) | (simp; omega)) _).setCell (by first | (simp; done) | (simp; omega)) _⟩

end Go.Proofs.Ytflegojobchgdaa
