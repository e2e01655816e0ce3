/-
  The exact laws of IsPicture and IsPlate.
-/
import Derived.Test.YtdckgmeoepmboaaSize
import Derived.Deep.RegionHeld3
namespace Go.Proofs.Ytdckgmeoepmboaa
open Go.RowKit
set_option linter.unusedVariables false
set_option linter.unusedSimpArgs false

set_option maxHeartbeats 1000000 in
theorem e_IsPicture_no (W H : Int) (ad : Option Addr) (n cap : Nat) (w : World) (h1 : 1048576 < (n : Int)) (h3 : n ≤ 9223372036854775807) :
    Calls Try.prog 7 #[.agg #[.int .i64 W, .int .i64 H, .slice ad n cap]] w fun e w' => e = .returned (.bool true) ∧ Below w.heap.size w w' := by
  go_enter Try.func7, Try.ntmps7
  go_wp2_with fail
  refine (szPic_no _ _ _ _ _ _ _ h1 (by omega) (by omega) h3).mono ?_
  rintro e w1 ⟨rfl, hb⟩
  have HB := Lib.hid hb
  clear hb
  go_wp2_with fail
  go_ret
  exact ⟨rfl, (Joins.below_alloc1 _ _).trans (HB.out.mono (by simp))⟩

set_option maxHeartbeats 1000000 in
theorem e_IsPicture_ok (W H : Int) (ad : Option Addr) (n cap : Nat) (xs : List Int) (w : World) (hn : xs.length = n) (ha : Rd w ad xs) (h1 : (n : Int) ≤ 1048576) :
    Calls Try.prog 7 #[.agg #[.int .i64 W, .int .i64 H, .slice ad n cap]] w fun e w' => e = .returned (.bool true) ∧ Below w.heap.size w w' := by
  have HN := Lib.hid hn
  have HA := Lib.hid ha
  clear hn ha
  go_enter Try.func7, Try.ntmps7
  go_wp2_with fail
  refine (szPic_ok _ _ _ _ _ _ _ h1 (by omega)).mono ?_
  rintro e w1 ⟨rfl, hb⟩
  have hB1 := (Joins.below_alloc1 w _).trans (hb.mono (by simp))
  have bx : Box3 w1 w.heap.size (.int .i64 W) (.int .i64 H) (.slice ad n cap) := Box3.below ⟨by simp, by go_simp, by go_simp, by go_simp⟩ hb (by simp)
  obtain ⟨hl, c0, c1, c2⟩ := id bx
  have BX := Lib.hid bx
  have HB1 := Lib.hid hB1
  clear hb hB1 bx
  go_wp2_with fail
  refine (toPic _ _ _ _ _ xs _ HN.out (HA.out.below HB1.out) (by omega)).mono ?_
  rintro e w2 ⟨g1, rfl, hg1, ho1, hb⟩
  have HB2 := Lib.hid (HB1.out.trans (hb.mono HB1.out.size))
  have HO1 := Lib.hid ho1
  have BX2 := Lib.hid (BX.out.below hb hl)
  obtain ⟨l2, d0, d1, d2⟩ := id BX2.out
  clear hb ho1
  go_wp2_with fail
  refine (spec_IsPicture _ _ _ _ _ xs _ HN.out HO1.out.rd (by omega)).mono ?_
  rintro e w3 ⟨rfl, hb⟩
  have HB3 := Lib.hid (HB2.out.trans (hb.mono HB2.out.size))
  have BX3 := Lib.hid (BX2.out.below hb l2)
  obtain ⟨l3, e0, e1, e2⟩ := id BX3.out
  clear hb
  go_wp2_with fail
  refine (toPic _ _ _ _ _ xs _ HN.out (HA.out.below HB3.out) (by omega)).mono ?_
  rintro e w4 ⟨g2, rfl, hg2, ho2, hb⟩
  have HB4 := Lib.hid (HB3.out.trans (hb.mono HB3.out.size))
  have HO2 := Lib.hid ho2
  have BX4 := Lib.hid (BX3.out.below hb l3)
  obtain ⟨l4, f0, f1, f2⟩ := id BX4.out
  clear hb ho2
  go_wp2_with fail
  refine (impl_IsPicture _ _ _ _ _ xs _ HN.out (HO2.out.rd.below (Joins.below_alloc1 _ _)) (by omega)).mono ?_
  rintro e w5 ⟨rfl, hb⟩
  have HB5 := Lib.hid ((HB4.out.alloc HB4.out.size _).trans (hb.mono (by have := HB4.out.size; simp; omega)))
  have HO5 := Lib.hid ((HO2.out.alloc _).below hb (by have := HO2.out.lt; simp; omega))
  have BX5 := Lib.hid ((BX4.out.below (Joins.below_alloc1 _ _) l4).below hb (by simp; omega))
  have BY5 := Lib.hid (Box3.below (g := w4.heap.size) (a := .int .i64 W) (b := .int .i64 H) (c := .slice (some ⟨g2, 0, none⟩) n n) ⟨by simp, by go_simp, by go_simp, by go_simp⟩ hb (by simp))
  obtain ⟨l5, p0, p1, p2⟩ := id BX5.out
  obtain ⟨m5, q0, q1, q2⟩ := id BY5.out
  clear hb
  have hq : (picOk W H xs 255 != picOk W H xs 255) = false := by simp
  go_wp2_with fail
  clear c0 c1 c2 d0 d1 d2 e0 e1 e2 f0 f1 f2 hl l2 l3 l4 hq
  have HS : Hid (Own w5 g2 n n xs ∧ Below w.heap.size w w5) := ⟨HO5.out, HB5.out⟩
  clear HB1 HB2 HB3 HB4 BX BX2 BX3 BX4
  go_region_held3 (fun v => v.cell? ⟨w.heap.size, 0, none⟩ = some (.int .i64 W) ∧ v.cell? ⟨w.heap.size, 1, none⟩ = some (.int .i64 H) ∧ v.cell? ⟨w.heap.size, 2, none⟩ = some (.slice ad n cap) ∧ v.cell? ⟨w4.heap.size, 0, none⟩ = some (.int .i64 W) ∧ v.cell? ⟨w4.heap.size, 1, none⟩ = some (.int .i64 H) ∧ v.cell? ⟨w4.heap.size, 2, none⟩ = some (.slice (some ⟨g2, 0, none⟩) n n))
    (first | exact ⟨p0, p1, p2, q0, q1, q2⟩ | exact ⟨(hb.cell l5).trans p0, (hb.cell l5).trans p1, (hb.cell l5).trans p2, (hb.cell m5).trans q0, (hb.cell m5).trans q1, (hb.cell m5).trans q2⟩ | exact ⟨(hb7.cell (Nat.lt_of_lt_of_le l5 hb.size)).trans ((hb.cell l5).trans p0), (hb7.cell (Nat.lt_of_lt_of_le l5 hb.size)).trans ((hb.cell l5).trans p1), (hb7.cell (Nat.lt_of_lt_of_le l5 hb.size)).trans ((hb.cell l5).trans p2), (hb7.cell (Nat.lt_of_lt_of_le m5 hb.size)).trans ((hb.cell m5).trans q0), (hb7.cell (Nat.lt_of_lt_of_le m5 hb.size)).trans ((hb.cell m5).trans q1), (hb7.cell (Nat.lt_of_lt_of_le m5 hb.size)).trans ((hb.cell m5).trans q2)⟩)
    (first
      | (go_at_call 36; refine (toPic _ _ _ _ _ xs _ HN.out (by exact (HA.out.below HB5.out).of_heap rfl) (by omega)).mono ?_; rintro e w6 ⟨g3, rfl, hg3, ho3, hb⟩)
      | (go_at_call 38; refine (eqPic _ _ _ _ _ _ _ _ _ _ xs xs _ HN.out HN.out (by exact (HO5.out.of_block (hb.block g2 HO5.out.lt)).rd.of_heap rfl) (by exact ho3.rd.of_heap rfl) (by omega) (by omega)).mono ?_; rintro e w7 ⟨rfl, hb7⟩))
  have HB7 := Lib.hid (HB5.out.drew.trans ((hb.mono HB5.out.size).trans (hb7.mono (Nat.le_trans HB5.out.size hb.size))))
  clear hb hb7 p0 p1 p2 q0 q1 q2
  go_wp2_with fail
  go_ret
  exact ⟨rfl, HB7.out⟩

end Go.Proofs.Ytdckgmeoepmboaa
