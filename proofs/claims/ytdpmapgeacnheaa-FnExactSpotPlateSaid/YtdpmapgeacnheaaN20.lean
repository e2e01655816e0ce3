/-
  Contracts of chapter 6: SpotPlate where it answers the empty picture.
-/
import Derived.Test.YtdpmapgeacnheaaN19
namespace Go.Proofs.Ytdpmapgeacnheaa
open Go.RowKit
set_option linter.unusedVariables false
set_option linter.unusedSimpArgs false

set_option maxHeartbeats 800000 in
theorem impl_SpotPlate_no1 {A B : Int} (h : latOk A B = false) (lv W H : Int) (w : World) :
    Calls Try.prog 36 #[.agg #[.int .i64 A, .int .i64 B], .int .i64 lv, .int .i64 W, .int .i64 H] w (PicOut2 w (noPic, false)) := by
  have HL := Lib.hid h
  clear h
  go_enter Try.func36, Try.ntmps36
  go_wp2_with fail
  refine (impl_IsLattice _ _ _).mono ?_
  rw [HL.out]
  rintro e w1 ⟨rfl, hb⟩
  have HB1 := Lib.hid (bTrans (Joins.below_alloc2 _ _ _) hb)
  have KL1 := Lib.hid (((Blk.new w 25 #[.int .i64 A, .int .i64 B]).alloc (.cells #[.int .i64 0, .int .i64 0, .slice none 0 0] 41)).below' hb)
  have KP1 := Lib.hid ((Blk.new' (g := w.heap.size + 1) (w := w.alloc (.cells #[.int .i64 A, .int .i64 B] 25)) 41 #[.int .i64 0, .int .i64 0, .slice none 0 0] (by simp)).below' hb)
  clear hb
  clear KL1
  obtain ⟨r0, r1, r2, r3⟩ := KP1.out.c3
  obtain ⟨q0, q1, q2⟩ := KP1.out.f3
  go_wp2_with fail
  exact bodyPost_ret (v := .tuple #[.agg #[.int .i64 0, .int .i64 0, .slice none 0 0], .bool false]) (by simp [results, Try.results36, go_sem, r1, r2, r3]) rfl ⟨none, 0, 0, rfl, OwnA.none _ _, by omega,
    ((HB1.out.setCell (by first | (simp; done) | (simp; omega)) _).setCell (by first | (simp; done) | (simp; omega)) _).setCell (by first | (simp; done) | (simp; omega)) _⟩

set_option maxHeartbeats 800000 in
theorem impl_SpotPlate_no2 {A B d : Int} {N : Nat} {g a b p q : Int} (L : Lat A B (N : Int) g d a b p q) (lv W H : Int) (h : lv < 0) (w : World) :
    Calls Try.prog 36 #[.agg #[.int .i64 A, .int .i64 B], .int .i64 lv, .int .i64 W, .int .i64 H] w (PicOut2 w (noPic, false)) := by
  have HL := Lib.hid L
  clear L
  go_enter Try.func36, Try.ntmps36
  go_wp2_with fail
  refine (impl_IsLattice _ _ _).mono ?_
  rw [lat_ok HL.out]
  rintro e w1 ⟨rfl, hb⟩
  have HB1 := Lib.hid (bTrans (Joins.below_alloc2 _ _ _) hb)
  have KL1 := Lib.hid (((Blk.new w 25 #[.int .i64 A, .int .i64 B]).alloc (.cells #[.int .i64 0, .int .i64 0, .slice none 0 0] 41)).below' hb)
  have KP1 := Lib.hid ((Blk.new' (g := w.heap.size + 1) (w := w.alloc (.cells #[.int .i64 A, .int .i64 B] 25)) 41 #[.int .i64 0, .int .i64 0, .slice none 0 0] (by simp)).below' hb)
  clear hb
  clear KL1
  obtain ⟨r0, r1, r2, r3⟩ := KP1.out.c3
  obtain ⟨q0, q1, q2⟩ := KP1.out.f3
  go_wp2_with fail
  exact bodyPost_ret (v := .tuple #[.agg #[.int .i64 0, .int .i64 0, .slice none 0 0], .bool false]) (by simp [results, Try.results36, go_sem, r1, r2, r3]) rfl ⟨none, 0, 0, rfl, OwnA.none _ _, by omega,
    ((HB1.out.setCell (by first | (simp; done) | (simp; omega)) _).setCell (by first | (simp; done) | (simp; omega)) _).setCell (by first | (simp; done) | (simp; omega)) _⟩

set_option maxHeartbeats 800000 in
theorem impl_SpotPlate_no3 {A B d : Int} {N : Nat} {g a b p q : Int} (L : Lat A B (N : Int) g d a b p q) (lv W H : Int) (h0 : 0 ≤ lv) (h : (N : Int) < lv) (w : World) :
    Calls Try.prog 36 #[.agg #[.int .i64 A, .int .i64 B], .int .i64 lv, .int .i64 W, .int .i64 H] w (PicOut2 w (noPic, false)) := by
  have HL := Lib.hid L
  clear L
  go_enter Try.func36, Try.ntmps36
  go_wp2_with fail
  refine (impl_IsLattice _ _ _).mono ?_
  rw [lat_ok HL.out]
  rintro e w1 ⟨rfl, hb⟩
  have HB1 := Lib.hid (bTrans (Joins.below_alloc2 _ _ _) hb)
  have KL1 := Lib.hid (((Blk.new w 25 #[.int .i64 A, .int .i64 B]).alloc (.cells #[.int .i64 0, .int .i64 0, .slice none 0 0] 41)).below' hb)
  have KP1 := Lib.hid ((Blk.new' (g := w.heap.size + 1) (w := w.alloc (.cells #[.int .i64 A, .int .i64 B] 25)) 41 #[.int .i64 0, .int .i64 0, .slice none 0 0] (by simp)).below' hb)
  clear hb
  obtain ⟨z, c0, c1⟩ := KL1.out.c2
  go_wp2_with fail
  try any_goals (exfalso; omega)
  refine (impl_AreaOf_yes HL.out _).mono ?_
  rintro e w2 ⟨rfl, hb⟩
  have HB2 := Lib.hid (bTrans HB1.out hb)
  have KP2 := Lib.hid (KP1.out.below' hb)
  clear hb z c0 c1
  obtain ⟨r0, r1, r2, r3⟩ := KP2.out.c3
  obtain ⟨q0, q1, q2⟩ := KP2.out.f3
  go_wp2_with fail
  exact bodyPost_ret (v := .tuple #[.agg #[.int .i64 0, .int .i64 0, .slice none 0 0], .bool false]) (by simp [results, Try.results36, go_sem, r1, r2, r3]) rfl ⟨none, 0, 0, rfl, OwnA.none _ _, by omega,
    ((HB2.out.setCell (by first | (simp; done) | (simp; omega)) _).setCell (by first | (simp; done) | (simp; omega)) _).setCell (by first | (simp; done) | (simp; omega)) _⟩

set_option maxHeartbeats 800000 in
theorem impl_SpotPlate_no4 {A B d : Int} {N : Nat} {g a b p q : Int} (L : Lat A B (N : Int) g d a b p q) (lv W H : Int) (h0 : 0 ≤ lv) (h1 : lv ≤ (N : Int)) (h : sizeOk W H = false) (w : World) :
    Calls Try.prog 36 #[.agg #[.int .i64 A, .int .i64 B], .int .i64 lv, .int .i64 W, .int .i64 H] w (PicOut2 w (noPic, false)) := by
  have HS := Lib.hid h
  clear h
  have HL := Lib.hid L
  clear L
  go_enter Try.func36, Try.ntmps36
  go_wp2_with fail
  refine (impl_IsLattice _ _ _).mono ?_
  rw [lat_ok HL.out]
  rintro e w1 ⟨rfl, hb⟩
  have HB1 := Lib.hid (bTrans (Joins.below_alloc2 _ _ _) hb)
  have KL1 := Lib.hid (((Blk.new w 25 #[.int .i64 A, .int .i64 B]).alloc (.cells #[.int .i64 0, .int .i64 0, .slice none 0 0] 41)).below' hb)
  have KP1 := Lib.hid ((Blk.new' (g := w.heap.size + 1) (w := w.alloc (.cells #[.int .i64 A, .int .i64 B] 25)) 41 #[.int .i64 0, .int .i64 0, .slice none 0 0] (by simp)).below' hb)
  clear hb
  obtain ⟨z, c0, c1⟩ := KL1.out.c2
  go_wp2_with fail
  try any_goals (exfalso; omega)
  refine (impl_AreaOf_yes HL.out _).mono ?_
  rintro e w2 ⟨rfl, hb⟩
  have HB2 := Lib.hid (bTrans HB1.out hb)
  have KP2 := Lib.hid (KP1.out.below' hb)
  clear hb z c0 c1
  go_wp2_with fail
  refine (impl_isSize _ _ _).mono ?_
  rw [HS.out]
  rintro e w2 ⟨rfl, rfl⟩
  obtain ⟨r0, r1, r2, r3⟩ := KP2.out.c3
  obtain ⟨q0, q1, q2⟩ := KP2.out.f3
  go_wp2_with fail
  exact bodyPost_ret (v := .tuple #[.agg #[.int .i64 0, .int .i64 0, .slice none 0 0], .bool false]) (by simp [results, Try.results36, go_sem, r1, r2, r3]) rfl ⟨none, 0, 0, rfl, OwnA.none _ _, by omega,
    ((HB2.out.setCell (by first | (simp; done) | (simp; omega)) _).setCell (by first | (simp; done) | (simp; omega)) _).setCell (by first | (simp; done) | (simp; omega)) _⟩

set_option maxHeartbeats 800000 in
theorem spec_SpotPlate_no1 {A B : Int} (h : latOk A B = false) (lv W H : Int) (w : World) :
    Calls Try.prog 35 #[.agg #[.int .i64 A, .int .i64 B], .int .i64 lv, .int .i64 W, .int .i64 H] w (PicOut2 w (noPic, false)) := by
  have HL := Lib.hid h
  clear h
  go_enter Try.func35, Try.ntmps35
  go_wp2_with fail
  refine (spec_IsLattice _ _ _).mono ?_
  rw [HL.out]
  rintro e w1 ⟨rfl, hb⟩
  have HB1 := Lib.hid (bTrans (Joins.below_alloc2 _ _ _) hb)
  have KL1 := Lib.hid (((Blk.new w 25 #[.int .i64 A, .int .i64 B]).alloc (.cells #[.int .i64 0, .int .i64 0, .slice none 0 0] 41)).below' hb)
  have KP1 := Lib.hid ((Blk.new' (g := w.heap.size + 1) (w := w.alloc (.cells #[.int .i64 A, .int .i64 B] 25)) 41 #[.int .i64 0, .int .i64 0, .slice none 0 0] (by simp)).below' hb)
  clear hb
  clear KL1
  obtain ⟨r0, r1, r2, r3⟩ := KP1.out.c3
  obtain ⟨q0, q1, q2⟩ := KP1.out.f3
  go_wp2_with fail
  exact bodyPost_ret (v := .tuple #[.agg #[.int .i64 0, .int .i64 0, .slice none 0 0], .bool false]) (by simp [results, Try.results35, go_sem, r1, r2, r3]) rfl ⟨none, 0, 0, rfl, OwnA.none _ _, by omega,
    ((HB1.out.setCell (by first | (simp; done) | (simp; omega)) _).setCell (by first | (simp; done) | (simp; omega)) _).setCell (by first | (simp; done) | (simp; omega)) _⟩

set_option maxHeartbeats 800000 in
theorem spec_SpotPlate_no2 {A B d : Int} {N : Nat} {g a b p q : Int} (L : Lat A B (N : Int) g d a b p q) (lv W H : Int) (h : ¬ (0 ≤ lv ∧ lv ≤ (N : Int))) (w : World) :
    Calls Try.prog 35 #[.agg #[.int .i64 A, .int .i64 B], .int .i64 lv, .int .i64 W, .int .i64 H] w (PicOut2 w (noPic, false)) := by
  have HS := Lib.hid h
  clear h
  have HL := Lib.hid L
  clear L
  go_enter Try.func35, Try.ntmps35
  go_wp2_with fail
  refine (spec_IsLattice _ _ _).mono ?_
  rw [lat_ok HL.out]
  rintro e w1 ⟨rfl, hb⟩
  have HB1 := Lib.hid (bTrans (Joins.below_alloc2 _ _ _) hb)
  have KL1 := Lib.hid (((Blk.new w 25 #[.int .i64 A, .int .i64 B]).alloc (.cells #[.int .i64 0, .int .i64 0, .slice none 0 0] 41)).below' hb)
  have KP1 := Lib.hid ((Blk.new' (g := w.heap.size + 1) (w := w.alloc (.cells #[.int .i64 A, .int .i64 B] 25)) 41 #[.int .i64 0, .int .i64 0, .slice none 0 0] (by simp)).below' hb)
  clear hb
  obtain ⟨z, c0, c1⟩ := KL1.out.c2
  go_wp2_with fail
  try any_goals (exfalso; omega)
  refine (spec_l5Area HL.out _).mono ?_
  rintro e w2 ⟨rfl, hb⟩
  have HB2 := Lib.hid (bTrans HB1.out hb)
  have KP2 := Lib.hid (KP1.out.below' hb)
  clear hb z c0 c1
  go_wp2_with fail
  refine (in5 _ _ _ _).mono ?_
  rw [decide_eq_false HS.out]
  rintro e w2 ⟨rfl, rfl⟩
  obtain ⟨r0, r1, r2, r3⟩ := KP2.out.c3
  obtain ⟨q0, q1, q2⟩ := KP2.out.f3
  go_wp2_with fail
  exact bodyPost_ret (v := .tuple #[.agg #[.int .i64 0, .int .i64 0, .slice none 0 0], .bool false]) (by simp [results, Try.results35, go_sem, r1, r2, r3]) rfl ⟨none, 0, 0, rfl, OwnA.none _ _, by omega,
    ((HB2.out.setCell (by first | (simp; done) | (simp; omega)) _).setCell (by first | (simp; done) | (simp; omega)) _).setCell (by first | (simp; done) | (simp; omega)) _⟩

set_option maxHeartbeats 800000 in
theorem spec_SpotPlate_no4 {A B d : Int} {N : Nat} {g a b p q : Int} (L : Lat A B (N : Int) g d a b p q) (lv W H : Int) (h0 : 0 ≤ lv) (h1 : lv ≤ (N : Int)) (h : ¬ sizeOk W H = true) (w : World) :
    Calls Try.prog 35 #[.agg #[.int .i64 A, .int .i64 B], .int .i64 lv, .int .i64 W, .int .i64 H] w (PicOut2 w (noPic, false)) := by
  have HS := Lib.hid h
  clear h
  have HL := Lib.hid L
  clear L
  go_enter Try.func35, Try.ntmps35
  go_wp2_with fail
  refine (spec_IsLattice _ _ _).mono ?_
  rw [lat_ok HL.out]
  rintro e w1 ⟨rfl, hb⟩
  have HB1 := Lib.hid (bTrans (Joins.below_alloc2 _ _ _) hb)
  have KL1 := Lib.hid (((Blk.new w 25 #[.int .i64 A, .int .i64 B]).alloc (.cells #[.int .i64 0, .int .i64 0, .slice none 0 0] 41)).below' hb)
  have KP1 := Lib.hid ((Blk.new' (g := w.heap.size + 1) (w := w.alloc (.cells #[.int .i64 A, .int .i64 B] 25)) 41 #[.int .i64 0, .int .i64 0, .slice none 0 0] (by simp)).below' hb)
  clear hb
  obtain ⟨z, c0, c1⟩ := KL1.out.c2
  go_wp2_with fail
  try any_goals (exfalso; omega)
  refine (spec_l5Area HL.out _).mono ?_
  rintro e w2 ⟨rfl, hb⟩
  have HB2 := Lib.hid (bTrans HB1.out hb)
  have KP2 := Lib.hid (KP1.out.below' hb)
  clear hb z c0 c1
  go_wp2_with fail
  refine (in5 _ _ _ _).mono ?_
  rw [decide_eq_true (show 0 ≤ lv ∧ lv ≤ (N : Int) from ⟨h0, h1⟩)]
  rintro e w2 ⟨rfl, rfl⟩
  go_wp2_with fail
  refine (spec_l1Size_no _ _ _ HS.out).mono ?_
  rintro e w2 ⟨rfl, rfl⟩
  obtain ⟨r0, r1, r2, r3⟩ := KP2.out.c3
  obtain ⟨q0, q1, q2⟩ := KP2.out.f3
  go_wp2_with fail
  exact bodyPost_ret (v := .tuple #[.agg #[.int .i64 0, .int .i64 0, .slice none 0 0], .bool false]) (by simp [results, Try.results35, go_sem, r1, r2, r3]) rfl ⟨none, 0, 0, rfl, OwnA.none _ _, by omega,
    ((HB2.out.setCell (by first | (simp; done) | (simp; omega)) _).setCell (by first | (simp; done) | (simp; omega)) _).setCell (by first | (simp; done) | (simp; omega)) _⟩

/-- What both answer. -/
theorem plate_both (A B lv W H : Int) : ∃ F : Pic × Bool, (∀ w, Calls Try.prog 35 #[.agg #[.int .i64 A, .int .i64 B], .int .i64 lv, .int .i64 W, .int .i64 H] w (PicOut2 w F)) ∧ (∀ w, Calls Try.prog 36 #[.agg #[.int .i64 A, .int .i64 B], .int .i64 lv, .int .i64 W, .int .i64 H] w (PicOut2 w F)) := by
  by_cases hok : latOk A B = true
  · obtain ⟨n, g, d, a, b, p, q, L⟩ := lat_of hok
    have n1 := L.n1; have n2 := L.n2
    obtain ⟨N, rfl⟩ : ∃ N : Nat, n = N := ⟨n.toNat, by omega⟩
    by_cases hl : 0 ≤ lv ∧ lv ≤ (N : Int)
    · by_cases hs : sizeOk W H = true
      · obtain ⟨m, hq⟩ : ∃ m : Nat, (m : Int) = W * H := ⟨_, (toNat_mul hs).1⟩
        obtain ⟨nm, hnm⟩ := named_ex L W m
        exact ⟨_, fun w => spec_SpotPlate_yes L lv W H m nm hnm hl.1 hl.2 hs hq w, fun w => impl_SpotPlate_yes L lv W H m nm hnm hl.1 hl.2 hs hq w⟩
      · exact ⟨_, fun w => spec_SpotPlate_no4 L lv W H hl.1 hl.2 hs w, fun w => impl_SpotPlate_no4 L lv W H hl.1 hl.2 (by simpa using hs) w⟩
    · refine ⟨_, fun w => spec_SpotPlate_no2 L lv W H hl w, fun w => ?_⟩
      by_cases h0 : lv < 0
      · exact impl_SpotPlate_no2 L lv W H h0 w
      · exact impl_SpotPlate_no3 L lv W H (by omega) (by omega) w
  · have ho : latOk A B = false := by simpa using hok
    exact ⟨_, fun w => spec_SpotPlate_no1 ho lv W H w, fun w => impl_SpotPlate_no1 ho lv W H w⟩

end Go.Proofs.Ytdpmapgeacnheaa
