/-
  Contracts of chapter 4: ScreenLevel (program and model).
-/
import Derived.Test.YtgepjfdnlnemjaaD13
namespace Go.Proofs.Ytgepjfdnlnemjaa
open Go.RowKit
set_option linter.unusedVariables false
set_option linter.unusedSimpArgs false

theorem lt_al {w : World} {o : Obj} {b : Nat} (h : b < w.heap.size) : b < (w.alloc o).drew.heap.size := by
  show b < (w.alloc o).heap.size
  simp; omega

theorem rd_one {w : World} {v : Int} {T : Nat} : Rd (w.alloc (.cells #[.int .i64 v] T)) (some ⟨w.heap.size, 0, none⟩) [v] := by
  intro k hk
  simp at hk
  subst hk
  exact ⟨w.heap.size, 0, rfl, by simp, (Blk.new w T #[.int .i64 v]).cell 0⟩

set_option maxRecDepth 100000 in
set_option maxHeartbeats 1600000 in
theorem impl_ScreenLevel (W H : Int) (ad : Option Addr) (n cap : Nat) (xs : List Int) (l tw th : Int) (w : World) (hn : xs.length = n) (ha : Rd w ad xs) (hl : n ≤ 9223372036854775807) :
    Calls Try.prog 14 #[.agg #[.int .i64 W, .int .i64 H, .slice ad n cap], .int .i64 l, .int .i64 tw, .int .i64 th] w (PicOut2 w (screenLevelF W H xs l tw th)) := by
  have HN := Lib.hid hn
  have HA := Lib.hid ha
  clear hn ha
  by_cases hp : matOk W H xs = true
  case neg =>
    have hp2 : matOk W H xs = false := by simpa using hp
    rw [screenLevelF_no (fun h => hp h.1)]
    clear hp
    go_enter Try.func14, Try.ntmps14
    go_wp2_with fail
    refine (impl_IsMatrix _ _ _ _ _ xs _ HN.out (by exact (HA.out.alloc _).alloc _) hl).mono ?_
    rintro e w1 ⟨rfl, hb⟩
    have HB1 := Lib.hid ((Joins.below_alloc2 _ _ _).trans (hb.mono (by simp; omega)))
    have KP1 := Lib.hid (((Blk.new w 25 #[.int .i64 W, .int .i64 H, .slice ad n cap]).alloc _).below' hb)
    have KR1 : Hid (Blk w1 (w.heap.size + 1) 30 #[.int .i64 0, .int .i64 0, .slice none 0 0]) := by
      have h := (Blk.new (w.alloc (.cells #[.int .i64 W, .int .i64 H, .slice ad n cap] 25)) 30 #[.int .i64 0, .int .i64 0, .slice none 0 0]).below' hb
      exact Lib.hid (by simpa using h)
    obtain ⟨l1, c0, c1, c2⟩ := KP1.out.c3
    obtain ⟨m1, d0, d1, d2⟩ := KR1.out.c3
    obtain ⟨f0, f1, f2⟩ := KR1.out.f3
    clear hb
    rw [hp2]
    go_wp2_with fail
    exact bodyPost_ret (v := .tuple #[.agg #[.int .i64 0, .int .i64 0, .slice none 0 0], .bool false]) (by simp [results, Try.results14, go_sem, d0, d1, d2]) rfl ⟨none, 0, 0, rfl, OwnA.none _ _, by omega,
      ((HB1.out.setCell (by first | (simp; done) | (simp; omega)) _).setCell (by first | (simp; done) | (simp; omega)) _).setCell (by first | (simp; done) | (simp; omega)) _⟩
  case pos =>
    by_cases hv : 0 ≤ l ∧ l ≤ (n : Int)
    case neg =>
      rw [screenLevelF_no (fun h => hv (by have := HN.out; exact ⟨h.2.1, by omega⟩))]
      have HV := Lib.hid hv
      clear hv
      go_enter Try.func14, Try.ntmps14
      go_wp2_with fail
      refine (impl_IsMatrix _ _ _ _ _ xs _ HN.out (by exact (HA.out.alloc _).alloc _) hl).mono ?_
      rintro e w1 ⟨rfl, hb⟩
      have HB1 := Lib.hid ((Joins.below_alloc2 _ _ _).trans (hb.mono (by simp; omega)))
      have KP1 := Lib.hid (((Blk.new w 25 #[.int .i64 W, .int .i64 H, .slice ad n cap]).alloc _).below' hb)
      have KR1 : Hid (Blk w1 (w.heap.size + 1) 30 #[.int .i64 0, .int .i64 0, .slice none 0 0]) := by
        have h := (Blk.new (w.alloc (.cells #[.int .i64 W, .int .i64 H, .slice ad n cap] 25)) 30 #[.int .i64 0, .int .i64 0, .slice none 0 0]).below' hb
        exact Lib.hid (by simpa using h)
      obtain ⟨l1, c0, c1, c2⟩ := KP1.out.c3
      obtain ⟨m1, d0, d1, d2⟩ := KR1.out.c3
      obtain ⟨f0, f1, f2⟩ := KR1.out.f3
      clear hb
      rw [hp]
      go_wp2_with fail
      refine (impl_isLevel_no _ _ _ _ _ _ _ HV.out).mono ?_
      rintro e w1 ⟨rfl, hb⟩
      have HB1 := Lib.hid (HB1.out.trans (hb.mono HB1.out.size))
      have KP1 := Lib.hid (KP1.out.below' hb)
      have KR1 := Lib.hid (KR1.out.below' hb)
      clear hb c0 c1 c2 d0 d1 d2 f0 f1 f2
      obtain ⟨l1, c0, c1, c2⟩ := KP1.out.c3
      obtain ⟨m1, d0, d1, d2⟩ := KR1.out.c3
      obtain ⟨f0, f1, f2⟩ := KR1.out.f3
      go_wp2_with fail
      exact bodyPost_ret (v := .tuple #[.agg #[.int .i64 0, .int .i64 0, .slice none 0 0], .bool false]) (by simp [results, Try.results14, go_sem, d0, d1, d2]) rfl ⟨none, 0, 0, rfl, OwnA.none _ _, by omega,
        ((HB1.out.setCell (by first | (simp; done) | (simp; omega)) _).setCell (by first | (simp; done) | (simp; omega)) _).setCell (by first | (simp; done) | (simp; omega)) _⟩
    case pos =>
      obtain ⟨hv1, hv2⟩ := hv
      by_cases ht : sizeOk tw th = true
      case neg =>
        rw [screenLevelF_no (fun h => ht h.2.2.2)]
        go_enter Try.func14, Try.ntmps14
        go_wp2_with fail
        refine (impl_IsMatrix _ _ _ _ _ xs _ HN.out (by exact (HA.out.alloc _).alloc _) hl).mono ?_
        rintro e w1 ⟨rfl, hb⟩
        have HB1 := Lib.hid ((Joins.below_alloc2 _ _ _).trans (hb.mono (by simp; omega)))
        have KP1 := Lib.hid (((Blk.new w 25 #[.int .i64 W, .int .i64 H, .slice ad n cap]).alloc _).below' hb)
        have KR1 : Hid (Blk w1 (w.heap.size + 1) 30 #[.int .i64 0, .int .i64 0, .slice none 0 0]) := by
          have h := (Blk.new (w.alloc (.cells #[.int .i64 W, .int .i64 H, .slice ad n cap] 25)) 30 #[.int .i64 0, .int .i64 0, .slice none 0 0]).below' hb
          exact Lib.hid (by simpa using h)
        obtain ⟨l1, c0, c1, c2⟩ := KP1.out.c3
        obtain ⟨m1, d0, d1, d2⟩ := KR1.out.c3
        obtain ⟨f0, f1, f2⟩ := KR1.out.f3
        clear hb
        rw [hp]
        go_wp2_with fail
        refine (impl_isLevel_yes _ _ _ _ _ _ _ hv1 hv2).mono ?_
        rintro e w1 ⟨rfl, hb⟩
        have HB1 := Lib.hid (HB1.out.trans (hb.mono HB1.out.size))
        have KP1 := Lib.hid (KP1.out.below' hb)
        have KR1 := Lib.hid (KR1.out.below' hb)
        clear hb c0 c1 c2 d0 d1 d2 f0 f1 f2
        obtain ⟨l1, c0, c1, c2⟩ := KP1.out.c3
        obtain ⟨m1, d0, d1, d2⟩ := KR1.out.c3
        obtain ⟨f0, f1, f2⟩ := KR1.out.f3
        go_wp2_with fail
        refine (impl_isSize_no _ _ _ ht).mono ?_
        rintro e w2 ⟨rfl, rfl⟩
        go_wp2_with fail
        exact bodyPost_ret (v := .tuple #[.agg #[.int .i64 0, .int .i64 0, .slice none 0 0], .bool false]) (by simp [results, Try.results14, go_sem, d0, d1, d2]) rfl ⟨none, 0, 0, rfl, OwnA.none _ _, by omega,
          ((HB1.out.setCell (by first | (simp; done) | (simp; omega)) _).setCell (by first | (simp; done) | (simp; omega)) _).setCell (by first | (simp; done) | (simp; omega)) _⟩
      case pos =>
        obtain ⟨m, hm⟩ : ∃ m : Nat, (m : Int) = tw * th := ⟨_, (toNat_mul ht).1⟩
        obtain ⟨t1, t2, t3, t4, t5, t6⟩ := sizeOk_bd ht
        have hm1 : 1 ≤ m := by omega
        have hm2 : m ≤ 1024 := by omega
        rw [screenLevelF_yes HN.out hm hp hv1 hv2 ht]
        have HM := Lib.hid hm
        have HT := Lib.hid ht
        have HP := Lib.hid hp
        have HWR : Hid (IntKind.i64.wrap (tw * th) = (m : Int)) := Lib.hid (by rw [IntWalk.i64_in _ (by omega), hm])
        clear ht hm
        go_enter Try.func14, Try.ntmps14
        go_wp2_with fail
        refine (impl_IsMatrix _ _ _ _ _ xs _ HN.out (by exact (HA.out.alloc _).alloc _) hl).mono ?_
        rintro e w1 ⟨rfl, hb⟩
        have HB1 := Lib.hid ((Joins.below_alloc2 _ _ _).trans (hb.mono (by simp; omega)))
        have KP1 := Lib.hid (((Blk.new w 25 #[.int .i64 W, .int .i64 H, .slice ad n cap]).alloc _).below' hb)
        have KR1 : Hid (Blk w1 (w.heap.size + 1) 30 #[.int .i64 0, .int .i64 0, .slice none 0 0]) := by
          have h := (Blk.new (w.alloc (.cells #[.int .i64 W, .int .i64 H, .slice ad n cap] 25)) 30 #[.int .i64 0, .int .i64 0, .slice none 0 0]).below' hb
          exact Lib.hid (by simpa using h)
        obtain ⟨l1, c0, c1, c2⟩ := KP1.out.c3
        obtain ⟨m1, d0, d1, d2⟩ := KR1.out.c3
        obtain ⟨f0, f1, f2⟩ := KR1.out.f3
        clear hb
        rw [hp]
        clear hp
        go_wp2_with fail
        refine (impl_isLevel_yes _ _ _ _ _ _ _ hv1 hv2).mono ?_
        rintro e w1 ⟨rfl, hb⟩
        have HB1 := Lib.hid (HB1.out.trans (hb.mono HB1.out.size))
        have KP1 := Lib.hid (KP1.out.below' hb)
        have KR1 := Lib.hid (KR1.out.below' hb)
        clear hb c0 c1 c2 d0 d1 d2 f0 f1 f2
        obtain ⟨l1, c0, c1, c2⟩ := KP1.out.c3
        obtain ⟨m1, d0, d1, d2⟩ := KR1.out.c3
        obtain ⟨f0, f1, f2⟩ := KR1.out.f3
        go_wp2_with fail
        refine (impl_isSize_yes _ _ _ HT.out).mono ?_
        rintro e w2 ⟨rfl, rfl⟩
        go_wp2_with fail
        have hwr := HWR.out
        have NP : w.heap.size + 1 ≠ w.heap.size := by omega
        have L0 : w1.drew.heap.size = w1.heap.size := rfl
        have HL0 := Lib.hid L0
        clear L0
        go_region_held3 (fun v => v.cell? ⟨w.heap.size, 0, none⟩ = some (.int .i64 W) ∧ v.cell? ⟨w.heap.size, 1, none⟩ = some (.int .i64 H) ∧ v.cell? ⟨w.heap.size, 2, none⟩ = some (.slice ad n cap))
          (first | exact ⟨c0, c1, c2⟩ | exact ⟨cell_al c0, cell_al c1, cell_al c2⟩ | exact ⟨y0, y1, y2⟩ | exact ⟨z0, z1, z2⟩ | exact ⟨cell_far z0 NP, cell_far z1 NP, cell_far z2 NP⟩ | exact ⟨cell_far (cell_far (cell_far z0 NP) NP) NP, cell_far (cell_far (cell_far z1 NP) NP) NP, cell_far (cell_far (cell_far z2 NP) NP) NP⟩)
          (first
            | (go_at_call 51; ((with_reducible refine (impl_Repeat _ _ l m _ rd_one.drew hm1 hm2).mono ?_); rintro e v1 ⟨gr, rfl, hgr, hor, hq1⟩; have y0 := (hq1.cell (lt_al l1)).trans (cell_al c0); have y1 := (hq1.cell (lt_al l1)).trans (cell_al c1); have y2 := (hq1.cell (lt_al l1)).trans (cell_al c2)))
            | (go_at_call 50; ((with_reducible refine (impl_screened W H ad n cap xs _ m m (List.replicate m l) tw th _ HN.out (by exact (((HA.out.below HB1.out).alloc _).drew).below hq1) HP.out List.length_replicate (by exact hor.rd) HT.out HM.out).mono ?_); rintro e v2 ⟨a2, n2, c2', rfl, ho2, hn2, hq2⟩; have z0 := (hq2.cell (Nat.lt_of_lt_of_le (lt_al l1) hq1.size)).trans y0; have z1 := (hq2.cell (Nat.lt_of_lt_of_le (lt_al l1) hq1.size)).trans y1; have z2 := (hq2.cell (Nat.lt_of_lt_of_le (lt_al l1) hq1.size)).trans y2; have KR5 := Lib.hid ((((KR1.out.alloc _).drew).below' hq1).below' hq2); obtain ⟨m5, r1, r2, r3⟩ := KR5.out.c3; obtain ⟨q0, q1, q2⟩ := KR5.out.f3)))
        have HB5 := Lib.hid (bTrans (bTrans (bAlloc HB1.out _).drew hq1) hq2)
        have LR : w.heap.size + 1 < v1.heap.size := Nat.lt_of_lt_of_le (lt_al m1) hq1.size
        have HO5 := Lib.hid ho2
        clear hq1 hq2 ho2 y0 y1 y2 z0 z1 z2 hwr hor
        go_wp2_with fail
        exact bodyPost_ret (v := .tuple #[.agg #[.int .i64 tw, .int .i64 th, .slice a2 n2 c2'], .bool true]) (by simp [results, Try.results14, go_sem, m5, r1, r2, r3]) rfl
          ⟨_, _, _, rfl, (((HO5.out.other (by exact LR) _).other (by exact LR) _).other (by exact LR) _).mono (by omega), hn2, ((HB5.out.setCell (by simp) _).setCell (by simp) _).setCell (by simp) _⟩

end Go.Proofs.Ytgepjfdnlnemjaa
