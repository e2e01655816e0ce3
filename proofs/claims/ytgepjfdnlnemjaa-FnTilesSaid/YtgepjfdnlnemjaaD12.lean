/-
  Contracts of chapter 4: screened, ScreenLevel, ScreenPicture (program and model).
-/
import Derived.Test.YtgepjfdnlnemjaaD11b
namespace Go.Proofs.Ytgepjfdnlnemjaa
open Go.RowKit
set_option linter.unusedVariables false
set_option linter.unusedSimpArgs false

theorem tm_facts (k : Nat) (tw : Int) (h : 1 ≤ tw) (hk : k ≤ 1024) : ∃ X Y : Int, 0 ≤ X ∧ X < tw ∧ 0 ≤ Y ∧ Y ≤ (k : Int) ∧ (k : Int).tmod tw = X ∧ (k : Int).tdiv tw = Y ∧ IntKind.i64.wrap Y = Y ∧ Hid (X = (k : Int) % tw ∧ Y = (k : Int) / tw) := by
  have e1 : 0 ≤ (k : Int) % tw := Int.emod_nonneg _ (by omega)
  have e2 : (k : Int) % tw < tw := Int.emod_lt_of_pos _ (by omega)
  have e3 : 0 ≤ (k : Int) / tw := Int.ediv_nonneg (by omega) (by omega)
  have e4 : (k : Int) / tw ≤ k := Int.ediv_le_self _ (by omega)
  exact ⟨(k : Int) % tw, (k : Int) / tw, e1, e2, e3, e4, Int.tmod_eq_emod_of_nonneg (by omega), Int.tdiv_eq_ediv_of_nonneg (by omega), IntWalk.i64_in _ (by omega), Lib.hid ⟨rfl, rfl⟩⟩

set_option maxRecDepth 100000 in
set_option maxHeartbeats 1600000 in
theorem impl_screened (W H : Int) (ad : Option Addr) (n cap : Nat) (xs : List Int) (al : Option Addr) (m c : Nat) (ls : List Int) (tw th : Int) (w : World)
    (hn : xs.length = n) (ha : Rd w ad xs) (mk : matOk W H xs = true) (hm : ls.length = m) (hal : Rd w al ls) (hs : sizeOk tw th = true) (hq : (m : Int) = tw * th) :
    Calls Try.prog 50 #[.agg #[.int .i64 W, .int .i64 H, .slice ad n cap], .slice al m c, .int .i64 tw] w (PicOut w ⟨tw, th, gen m (dotG W H xs ls tw)⟩) := by
  have HN := Lib.hid hn
  have HA := Lib.hid ha
  clear hn ha
  obtain ⟨ks, kq, ki, kd⟩ := matOk_bd HN.out mk
  obtain ⟨b1, b2, b3, b4, b5, b6⟩ := matSize_bd ks
  have HQ := Lib.hid kq
  have hn2 : n ≤ 256 := by omega
  clear ks kq ki kd mk
  obtain ⟨t1, t2, t3, t4, t5, t6⟩ := sizeOk_bd hs
  have HD : Hid ((m : Int) / tw = th) := Lib.hid (by rw [hq]; exact Int.mul_ediv_cancel_left _ (by omega))
  obtain ⟨d0, d1⟩ : 0 ≤ (m : Int) / tw ∧ (m : Int) / tw ≤ 64 := by rw [HD.out]; omega
  have HM := Lib.hid hq
  have HS := Lib.hid hs
  have HL := Lib.hid hm
  have HAL := Lib.hid hal
  have hm1 : 1 ≤ m := by omega
  have hm2 : m ≤ 1024 := by omega
  clear hq hs hm hal t5 t6
  go_enter Try.func50, Try.ntmps50
  go_wp2_with fail
  have hD := HD.out
  rw [hD]
  clear hD d0 d1
  refine (impl_blank tw th m _ HS.out HM.out).mono ?_
  rintro e w2 ⟨g, rfl, hg, ho, hb⟩
  have HB2 := Lib.hid ((Joins.below_alloc2 _ _ _).trans (hb.mono (by simp; omega)))
  have KP2 := Lib.hid (((Blk.new w 25 #[.int .i64 W, .int .i64 H, .slice ad n cap]).alloc _).below' hb)
  have KR2 : Hid (Blk w2 (w.heap.size + 1) 30 #[.int .i64 0, .int .i64 0, .slice none 0 0]) := by
    have h := (Blk.new (w.alloc (.cells #[.int .i64 W, .int .i64 H, .slice ad n cap] 25)) 30 #[.int .i64 0, .int .i64 0, .slice none 0 0]).below' hb
    exact Lib.hid (by simpa using h)
  have HO := Lib.hid ho
  have HG : Hid (w.heap.size + 1 + 1 ≤ g) := Lib.hid (by simpa using hg)
  clear hb ho hg
  go_wp2_with fail
  go_loopw [18] (fun i wr => ∃ k : Nat, k ≤ m ∧ i = .int .i64 k ∧ Own wr g m m (filled (gen m (dotG W H xs ls tw)) (List.replicate m 0) k) ∧ (w2.alloc (.cells #[.int .i64 tw, .int .i64 th, .slice (some ⟨g, 0, none⟩) m m] 30)).grownBy wr (some g)) (fun i _ => m - (intOf i).toNat)
  case atStart => exact ⟨0, Nat.zero_le _, rfl, by rw [filled_zero]; exact HO.out.alloc _, grown_refl _ _⟩
  case round =>
    obtain ⟨k, hk, rfl, ho, hg⟩ := hrel
    have HBr := Lib.hid ((HB2.out.alloc HB2.out.size _).grown hg (by have := HB2.out.size; simp; omega) (by intro k hk; cases hk; have := HG.out; omega))
    have KO := Lib.hid ((Blk.new w2 30 #[.int .i64 tw, .int .i64 th, .slice (some ⟨g, 0, none⟩) m m]).grown hg (by have := HO.out.lt; simp; omega))
    obtain ⟨l0, o0, o1, o2⟩ := KO.out.c3
    have KP := Lib.hid ((KP2.out.alloc _).grown hg (by have := HG.out; simp; omega))
    obtain ⟨l9, p0, p1, p2⟩ := KP.out.c3
    by_cases hlt : k < m
    · obtain ⟨ba, oa, hae, hal, hac⟩ := (HAL.out.below HBr.out).at (by have := HL.out; omega)
      have h1 := hac k (by have := HL.out; omega)
      subst hae
      clear hac
      have g2 : wr.cell? ⟨g, k, none⟩ = some (.int .i64 ((filled (gen m (dotG W H xs (ls) tw)) (List.replicate m 0) k).getD k 0)) := ho.cell hlt
      have g3 : wr.frozen? ⟨g, k, none⟩ = false := ho.frozen k
      have gl := ho.lt
      have HO4 := Lib.hid ho
      clear ho
      have hW0 : (tw == 0) = false := by simp; omega
      have hW1 : ¬ tw = 0 := by omega
      obtain ⟨X, Y, x0, x1, y0, y1, tX, tY, wY, HXY⟩ := tm_facts k tw t1 (by omega)
      have HV : Hid ((gen m (dotG W H xs (ls) tw)).getD k 0 = if rankOf W H xs X Y < ls[k]?.getD 0 then 1 else 0) := Lib.hid (by rw [gen_get _ _ _ hlt, HXY.out.1, HXY.out.2]; rfl)
      by_cases hb : rankOf W H xs X Y < ls[k]?.getD 0
      · go_wp2_with fail
        go_region_held3 (fun v => v.cell? ⟨w.heap.size, 0, none⟩ = some (.int .i64 W) ∧ v.cell? ⟨w.heap.size, 1, none⟩ = some (.int .i64 H) ∧ v.cell? ⟨w.heap.size, 2, none⟩ = some (.slice ad n cap))
          (first | exact ⟨p0, p1, p2⟩ | exact ⟨(hq1.cell l9).trans p0, (hq1.cell l9).trans p1, (hq1.cell l9).trans p2⟩)
          (first
            | (go_at_call 85; ((with_reducible refine (impl_wrappedRank W H ad n cap xs X Y _ HN.out (by exact (HA.out.below HBr.out).of_heap rfl) HQ.out b1 b3 hn2 b2 b4).mono ?_); rintro e v1 ⟨rfl, hq1⟩; have y3 := (hq1.cell l0).trans o2; have t2' := (hq1.cell gl).trans g2; have t3' := (hq1.frozen gl).trans g3)))
        have hv : (gen m (dotG W H xs (ls) tw)).getD k 0 = 1 := by rw [HV.out, if_pos hb]
        have hs := ((HO4.out.drewN 1).below hq1 gl).set k 1
        rw [filled_succ (gen m (dotG W H xs (ls) tw)) _ k _ (by rw [gen_len]; exact hlt) (by simp; omega) hv] at hs
        have HSt := Lib.hid hs
        have HG5 := Lib.hid (grown_trans hg (grown_of_below (row := some g) (below_undrew hq1)))
        clear hs hv hg
        go_wp2_with fail
        go_roundw
        case rel => exact ⟨k + 1, by omega, by go_num, HSt.out, grown_set HG5.out _⟩
        case measure => simp [intOf]; omega
      · go_wp2_with fail
        go_region_held3 (fun v => v.cell? ⟨w.heap.size, 0, none⟩ = some (.int .i64 W) ∧ v.cell? ⟨w.heap.size, 1, none⟩ = some (.int .i64 H) ∧ v.cell? ⟨w.heap.size, 2, none⟩ = some (.slice ad n cap))
          (first | exact ⟨p0, p1, p2⟩ | exact ⟨(hq1.cell l9).trans p0, (hq1.cell l9).trans p1, (hq1.cell l9).trans p2⟩)
          (first
            | (go_at_call 85; ((with_reducible refine (impl_wrappedRank W H ad n cap xs X Y _ HN.out (by exact (HA.out.below HBr.out).of_heap rfl) HQ.out b1 b3 hn2 b2 b4).mono ?_); rintro e v1 ⟨rfl, hq1⟩; have y3 := (hq1.cell l0).trans o2; have t2' := (hq1.cell gl).trans g2; have t3' := (hq1.frozen gl).trans g3)))
        have hs := filled_skip (gen m (dotG W H xs (ls) tw)) (List.replicate m 0) k (by rw [gen_len]; exact hlt) (by simp; omega) (by rw [HV.out, if_neg (by omega)]; simp [List.getD, hlt])
        have HSt : Hid (Own v1 g m m (filled (gen m (dotG W H xs (ls) tw)) (List.replicate m 0) (k + 1))) := Lib.hid (by rw [← hs]; exact (HO4.out.drewN 1).below hq1 gl)
        have HG5 := Lib.hid (grown_trans hg (grown_of_below (row := some g) (below_undrew hq1)))
        clear hs hg
        go_wp2_with fail
        go_roundw
        case rel => exact ⟨k + 1, by omega, by go_num, HSt.out, HG5.out⟩
        case measure => simp [intOf]; omega
    · obtain rfl : m = k := by omega
      have KR := Lib.hid ((KR2.out.alloc _).grown hg (by have := HG.out; have := KR2.out.lt; simp; omega))
      obtain ⟨r0, r1, r2, r3⟩ := KR.out.c3
      obtain ⟨q0, q1, q2⟩ := KR.out.f3
      rw [filled_at (gen m (dotG W H xs ls tw)) _ m (by rw [gen_len]) (by simp)] at ho
      have HO3 := Lib.hid ho
      clear ho
      go_wp2_with fail
      exact bodyPost_ret (v := .agg #[.int .i64 tw, .int .i64 th, .slice (some ⟨g, 0, none⟩) m m]) (by simp [results, Try.results50, go_sem, r1, r2, r3]) rfl
        ⟨_, _, _, rfl, OwnA.mk (((HO3.out.other (by have := HG.out; simp; omega) _).other (by have := HG.out; simp; omega) _).other (by have := HG.out; simp; omega) _) (by have := HG.out; omega), by omega,
          ((HBr.out.setCell (by first | (simp; done) | (simp; omega)) _).setCell (by first | (simp; done) | (simp; omega)) _).setCell (by first | (simp; done) | (simp; omega)) _⟩

end Go.Proofs.Ytgepjfdnlnemjaa
