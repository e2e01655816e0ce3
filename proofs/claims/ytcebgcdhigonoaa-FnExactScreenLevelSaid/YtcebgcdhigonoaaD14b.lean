/-
  Contracts of chapter 4: ScreenLevel (model).
-/
import Derived.Test.YtcebgcdhigonoaaD12
namespace Go.Proofs.Ytcebgcdhigonoaa
open Go.RowKit
set_option linter.unusedVariables false
set_option linter.unusedSimpArgs false

set_option maxHeartbeats 1600000 in
theorem spec_ScreenLevel (W H : Int) (ad : Option Addr) (n cap : Nat) (xs : List Int) (l tw th : Int) (w : World) (hn : xs.length = n) (ha : Rd w ad xs) (hl : n ≤ 9223372036854775807) :
    Calls Try.prog 19 #[.agg #[.int .i64 W, .int .i64 H, .slice ad n cap], .int .i64 l, .int .i64 tw, .int .i64 th] w (PicOut2 w (screenLevelF W H xs l tw th)) := by
  have HN := Lib.hid hn
  have HA := Lib.hid ha
  clear hn ha
  by_cases hp : matOk W H xs = true
  case neg =>
    have hp2 : matOk W H xs = false := by simpa using hp
    rw [screenLevelF_no (fun h => hp h.1)]
    clear hp
    go_enter Try.func19, Try.ntmps19
    go_wp2_with fail
    refine (spec_IsMatrix _ _ _ _ _ xs _ HN.out (by exact (HA.out.alloc _).alloc _) hl).mono ?_
    rintro e w1 ⟨rfl, hb⟩
    have HB1 := Lib.hid ((Joins.below_alloc2 _ _ _).trans (hb.mono (by simp; omega)))
    have KP1 := Lib.hid (((Blk.new w 27 #[.int .i64 W, .int .i64 H, .slice ad n cap]).alloc _).below' hb)
    have KR1 : Hid (Blk w1 (w.heap.size + 1) 32 #[.int .i64 0, .int .i64 0, .slice none 0 0]) := by
      have h := (Blk.new (w.alloc (.cells #[.int .i64 W, .int .i64 H, .slice ad n cap] 27)) 32 #[.int .i64 0, .int .i64 0, .slice none 0 0]).below' hb
      exact Lib.hid (by simpa using h)
    obtain ⟨l1, c0, c1, c2⟩ := KP1.out.c3
    obtain ⟨m1, d0, d1, d2⟩ := KR1.out.c3
    obtain ⟨f0, f1, f2⟩ := KR1.out.f3
    clear hb
    rw [hp2]
    go_wp2_with fail
    exact bodyPost_ret (v := .tuple #[.agg #[.int .i64 0, .int .i64 0, .slice none 0 0], .bool false]) (by simp [results, Try.results19, go_sem, d0, d1, d2]) rfl ⟨none, 0, 0, rfl, OwnA.none _ _, by omega,
      ((HB1.out.setCell (by first | (simp; done) | (simp; omega)) _).setCell (by first | (simp; done) | (simp; omega)) _).setCell (by first | (simp; done) | (simp; omega)) _⟩
  case pos =>
    by_cases hv : 0 ≤ l ∧ l ≤ (n : Int)
    case neg =>
      rw [screenLevelF_no (fun h => hv (by have := HN.out; exact ⟨h.2.1, by omega⟩))]
      have HV := Lib.hid hv
      clear hv
      go_enter Try.func19, Try.ntmps19
      go_wp2_with fail
      refine (spec_IsMatrix _ _ _ _ _ xs _ HN.out (by exact (HA.out.alloc _).alloc _) hl).mono ?_
      rintro e w1 ⟨rfl, hb⟩
      have HB1 := Lib.hid ((Joins.below_alloc2 _ _ _).trans (hb.mono (by simp; omega)))
      have KP1 := Lib.hid (((Blk.new w 27 #[.int .i64 W, .int .i64 H, .slice ad n cap]).alloc _).below' hb)
      have KR1 : Hid (Blk w1 (w.heap.size + 1) 32 #[.int .i64 0, .int .i64 0, .slice none 0 0]) := by
        have h := (Blk.new (w.alloc (.cells #[.int .i64 W, .int .i64 H, .slice ad n cap] 27)) 32 #[.int .i64 0, .int .i64 0, .slice none 0 0]).below' hb
        exact Lib.hid (by simpa using h)
      obtain ⟨l1, c0, c1, c2⟩ := KP1.out.c3
      obtain ⟨m1, d0, d1, d2⟩ := KR1.out.c3
      obtain ⟨f0, f1, f2⟩ := KR1.out.f3
      clear hb
      rw [hp]
      go_wp2_with fail
      refine (spec_l1In_no _ _ _ _ HV.out).mono ?_
      rintro e w2 ⟨rfl, rfl⟩
      go_wp2_with fail
      exact bodyPost_ret (v := .tuple #[.agg #[.int .i64 0, .int .i64 0, .slice none 0 0], .bool false]) (by simp [results, Try.results19, go_sem, d0, d1, d2]) rfl ⟨none, 0, 0, rfl, OwnA.none _ _, by omega,
        ((HB1.out.setCell (by first | (simp; done) | (simp; omega)) _).setCell (by first | (simp; done) | (simp; omega)) _).setCell (by first | (simp; done) | (simp; omega)) _⟩
    case pos =>
      obtain ⟨hv1, hv2⟩ := hv
      by_cases ht : sizeOk tw th = true
      case neg =>
        rw [screenLevelF_no (fun h => ht h.2.2.2)]
        go_enter Try.func19, Try.ntmps19
        go_wp2_with fail
        refine (spec_IsMatrix _ _ _ _ _ xs _ HN.out (by exact (HA.out.alloc _).alloc _) hl).mono ?_
        rintro e w1 ⟨rfl, hb⟩
        have HB1 := Lib.hid ((Joins.below_alloc2 _ _ _).trans (hb.mono (by simp; omega)))
        have KP1 := Lib.hid (((Blk.new w 27 #[.int .i64 W, .int .i64 H, .slice ad n cap]).alloc _).below' hb)
        have KR1 : Hid (Blk w1 (w.heap.size + 1) 32 #[.int .i64 0, .int .i64 0, .slice none 0 0]) := by
          have h := (Blk.new (w.alloc (.cells #[.int .i64 W, .int .i64 H, .slice ad n cap] 27)) 32 #[.int .i64 0, .int .i64 0, .slice none 0 0]).below' hb
          exact Lib.hid (by simpa using h)
        obtain ⟨l1, c0, c1, c2⟩ := KP1.out.c3
        obtain ⟨m1, d0, d1, d2⟩ := KR1.out.c3
        obtain ⟨f0, f1, f2⟩ := KR1.out.f3
        clear hb
        rw [hp]
        go_wp2_with fail
        refine (spec_l1In_yes _ _ _ _ hv1 hv2).mono ?_
        rintro e w2 ⟨rfl, rfl⟩
        go_wp2_with fail
        refine (spec_l1Size_no _ _ _ ht).mono ?_
        rintro e w2 ⟨rfl, rfl⟩
        go_wp2_with fail
        exact bodyPost_ret (v := .tuple #[.agg #[.int .i64 0, .int .i64 0, .slice none 0 0], .bool false]) (by simp [results, Try.results19, go_sem, d0, d1, d2]) rfl ⟨none, 0, 0, rfl, OwnA.none _ _, by omega,
          ((HB1.out.setCell (by first | (simp; done) | (simp; omega)) _).setCell (by first | (simp; done) | (simp; omega)) _).setCell (by first | (simp; done) | (simp; omega)) _⟩
      case pos =>
        obtain ⟨m, hm⟩ : ∃ m : Nat, (m : Int) = tw * th := ⟨_, (toNat_mul ht).1⟩
        obtain ⟨t1, t2, t3, t4, t5, t6⟩ := sizeOk_bd ht
        have hm1 : 1 ≤ m := by omega
        have hm2 : m ≤ 1024 := by omega
        rw [screenLevelF_yes HN.out hm hp hv1 hv2 ht]
        obtain ⟨hs, hq, hi, hd⟩ := matOk_bd HN.out hp
        obtain ⟨b1, b2, b3, b4, b5, b6⟩ := matSize_bd hs
        have HQ := Lib.hid hq
        have HI := Lib.hid hi
        have HD := Lib.hid hd
        have HS := Lib.hid hs
        have hn1 : 1 ≤ n := by omega
        have hn2 : n ≤ 256 := by omega
        clear hq hi hs hd
        have HM := Lib.hid hm
        have HT := Lib.hid ht
        clear ht hm
        go_enter Try.func19, Try.ntmps19
        go_wp2_with fail
        refine (spec_IsMatrix _ _ _ _ _ xs _ HN.out (by exact (HA.out.alloc _).alloc _) hl).mono ?_
        rintro e w1 ⟨rfl, hb⟩
        have HB1 := Lib.hid ((Joins.below_alloc2 _ _ _).trans (hb.mono (by simp; omega)))
        have KP1 := Lib.hid (((Blk.new w 27 #[.int .i64 W, .int .i64 H, .slice ad n cap]).alloc _).below' hb)
        have KR1 : Hid (Blk w1 (w.heap.size + 1) 32 #[.int .i64 0, .int .i64 0, .slice none 0 0]) := by
          have h := (Blk.new (w.alloc (.cells #[.int .i64 W, .int .i64 H, .slice ad n cap] 27)) 32 #[.int .i64 0, .int .i64 0, .slice none 0 0]).below' hb
          exact Lib.hid (by simpa using h)
        obtain ⟨l1, c0, c1, c2⟩ := KP1.out.c3
        obtain ⟨m1, d0, d1, d2⟩ := KR1.out.c3
        obtain ⟨f0, f1, f2⟩ := KR1.out.f3
        clear hb
        rw [hp]
        go_wp2_with fail
        refine (spec_l1In_yes _ _ _ _ hv1 hv2).mono ?_
        rintro e w2 ⟨rfl, rfl⟩
        go_wp2_with fail
        refine (spec_l1Size_yes _ _ _ HT.out).mono ?_
        rintro e w2 ⟨rfl, rfl⟩
        go_wp2_with fail
        refine (spec_l1Empty tw th m _ HT.out HM.out).mono ?_
        rintro e w2 ⟨g, rfl, hg, ho, hb⟩
        have HB2 := Lib.hid (HB1.out.trans (hb.mono HB1.out.size))
        have KP2 := Lib.hid (KP1.out.below' hb)
        have KR2 := Lib.hid (KR1.out.below' hb)
        have HO := Lib.hid ho
        have HG : Hid (w1.heap.size ≤ g) := Lib.hid hg
        clear hb hg ho c0 c1 c2 d0 d1 d2 f0 f1 f2
        obtain ⟨l2, c0, c1, c2⟩ := KP2.out.c3
        go_wp2_with fail
        go_loopw [36] (fun i wr => ∃ k : Nat, k ≤ m ∧ i = .int .i64 k ∧ Own wr g m m (filled (gen m (dotG W H xs (List.replicate m l) tw)) (List.replicate m 0) k) ∧ (w2.alloc (.cells #[.int .i64 tw, .int .i64 th, .slice (some ⟨g, 0, none⟩) m m] 32)).grownBy wr (some g)) (fun i _ => m - (intOf i).toNat)
        case atStart => exact ⟨0, Nat.zero_le _, rfl, by rw [filled_zero]; exact HO.out.alloc _, grown_refl _ _⟩
        case round =>
          obtain ⟨k, hk, rfl, ho, hg⟩ := hrel
          have HBr := Lib.hid ((HB2.out.alloc HB2.out.size _).grown hg (by have := HB2.out.size; simp; omega) (by intro k hk; cases hk; have := HG.out; omega))
          have KO := Lib.hid ((Blk.new w2 32 #[.int .i64 tw, .int .i64 th, .slice (some ⟨g, 0, none⟩) m m]).grown hg (by have := HO.out.lt; simp; omega))
          obtain ⟨l0, o0, o1, o2⟩ := KO.out.c3
          have KP := Lib.hid ((KP2.out.alloc _).grown hg (by have := HG.out; have := KP1.out.lt; simp; omega))
          obtain ⟨l9, p0, p1, p2⟩ := KP.out.c3
          by_cases hlt : k < m
          · have g2 : wr.cell? ⟨g, k, none⟩ = some (.int .i64 ((filled (gen m (dotG W H xs (List.replicate m l) tw)) (List.replicate m 0) k).getD k 0)) := ho.cell hlt
            have g3 : wr.frozen? ⟨g, k, none⟩ = false := ho.frozen k
            have gl := ho.lt
            have HO4 := Lib.hid ho
            clear ho
            have hW0 : (tw == 0) = false := by simp; omega
            have hW1 : ¬ tw = 0 := by omega
            obtain ⟨X, Y, x0, x1, y0, y1, tX, tY, wY, HXY⟩ := tm_facts k tw t1 (by omega)
            have HV : Hid ((gen m (dotG W H xs (List.replicate m l) tw)).getD k 0 = if rankOf W H xs X Y < l then 1 else 0) := Lib.hid (by rw [gen_get _ _ _ hlt, HXY.out.1, HXY.out.2]; (unfold dotG; rw [List.getElem?_replicate, if_pos hlt]; rfl))
            by_cases hb : rankOf W H xs X Y < l
            · go_wp2_with fail
              go_region_held3 (fun v => v.cell? ⟨w.heap.size, 0, none⟩ = some (.int .i64 W) ∧ v.cell? ⟨w.heap.size, 1, none⟩ = some (.int .i64 H) ∧ v.cell? ⟨w.heap.size, 2, none⟩ = some (.slice ad n cap))
                (first | exact ⟨p0, p1, p2⟩ | exact ⟨(hq1.cell l9).trans p0, (hq1.cell l9).trans p1, (hq1.cell l9).trans p2⟩)
                (first
                  | (go_at_call 58; ((with_reducible refine (spec_l2Rank W H ad n cap xs X Y _ HN.out (by exact (HA.out.below HBr.out).of_heap rfl) HQ.out b1 b3 hn2 b2 b4).mono ?_); rintro e v1 ⟨rfl, hq1⟩; have y3 := (hq1.cell l0).trans o2; have t2' := (hq1.cell gl).trans g2; have t3' := (hq1.frozen gl).trans g3)))
              have hv : (gen m (dotG W H xs (List.replicate m l) tw)).getD k 0 = 1 := by rw [HV.out, if_pos hb]
              have hs := ((HO4.out.drewN 1).below hq1 gl).set k 1
              rw [filled_succ (gen m (dotG W H xs (List.replicate m l) tw)) _ k _ (by rw [gen_len]; exact hlt) (by simp; omega) hv] at hs
              have HSt := Lib.hid hs
              have HG5 := Lib.hid (grown_trans hg (grown_of_below (row := some g) (below_undrew hq1)))
              clear hs hv hg
              go_wp2_with fail
              go_roundw
              case rel => exact ⟨k + 1, by omega, by go_num, HSt.out, grown_set HG5.out _⟩
              case measure => simp [intOf]; omega
            · go_wp2_with fail
              go_region_held3 (fun v => v.cell? ⟨w.heap.size, 0, none⟩ = some (.int .i64 W) ∧ v.cell? ⟨w.heap.size, 1, none⟩ = some (.int .i64 H) ∧ v.cell? ⟨w.heap.size, 2, none⟩ = some (.slice ad n cap))
                (first | exact ⟨p0, p1, p2⟩ | exact ⟨(hq1.cell l9).trans p0, (hq1.cell l9).trans p1, (hq1.cell l9).trans p2⟩)
                (first
                  | (go_at_call 58; ((with_reducible refine (spec_l2Rank W H ad n cap xs X Y _ HN.out (by exact (HA.out.below HBr.out).of_heap rfl) HQ.out b1 b3 hn2 b2 b4).mono ?_); rintro e v1 ⟨rfl, hq1⟩; have y3 := (hq1.cell l0).trans o2; have t2' := (hq1.cell gl).trans g2; have t3' := (hq1.frozen gl).trans g3)))
              have hs := filled_skip (gen m (dotG W H xs (List.replicate m l) tw)) (List.replicate m 0) k (by rw [gen_len]; exact hlt) (by simp; omega) (by rw [HV.out, if_neg (by omega)]; simp [List.getD, hlt])
              have HSt : Hid (Own v1 g m m (filled (gen m (dotG W H xs (List.replicate m l) tw)) (List.replicate m 0) (k + 1))) := Lib.hid (by rw [← hs]; exact (HO4.out.drewN 1).below hq1 gl)
              have HG5 := Lib.hid (grown_trans hg (grown_of_below (row := some g) (below_undrew hq1)))
              clear hs hg
              go_wp2_with fail
              go_roundw
              case rel => exact ⟨k + 1, by omega, by go_num, HSt.out, HG5.out⟩
              case measure => simp [intOf]; omega
          · obtain rfl : m = k := by omega
            have KR := Lib.hid ((KR2.out.alloc _).grown hg (by have := HG.out; have := KR2.out.lt; simp; omega))
            obtain ⟨r0, r1, r2, r3⟩ := KR.out.c3
            obtain ⟨q0, q1, q2⟩ := KR.out.f3
            rw [filled_at (gen m (dotG W H xs (List.replicate m l) tw)) _ m (by rw [gen_len]) (by simp)] at ho
            have HO3 := Lib.hid ho
            clear ho
            go_wp2_with fail
            exact bodyPost_ret (v := .tuple #[.agg #[.int .i64 tw, .int .i64 th, .slice (some ⟨g, 0, none⟩) m m], .bool true]) (by simp [results, Try.results19, go_sem, r1, r2, r3]) rfl
              ⟨_, _, _, rfl, OwnA.mk (((HO3.out.other (by have := HG.out; simp; omega) _).other (by have := HG.out; simp; omega) _).other (by have := HG.out; simp; omega) _) (by have := HG.out; omega), by omega,
                ((HBr.out.setCell (by first | (simp; done) | (simp; omega)) _).setCell (by first | (simp; done) | (simp; omega)) _).setCell (by first | (simp; done) | (simp; omega)) _⟩

end Go.Proofs.Ytcebgcdhigonoaa
