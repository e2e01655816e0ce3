/-
  Contracts of the model's spiral.
-/
import Derived.Test.YtgepjfdnlnemjaaD7b
import Derived.Test.YtgepjfdnlnemjaaM5
namespace Go.Proofs.Ytgepjfdnlnemjaa
open Go.RowKit
set_option linter.unusedVariables false
set_option linter.unusedSimpArgs false

set_option maxHeartbeats 6400000 in
theorem spec_SpiralMatrix (ss : Int) (w : World) : Calls Try.prog 80 #[.int .i64 ss] w (MatOut2 w (spiralF ss)) := by
  by_cases hs : 1 ≤ ss ∧ ss ≤ 16
  case neg =>
    rw [spiralF_no hs]
    go_enter Try.func80, Try.ntmps80
    go_wp2_with fail
    refine (spec_l1In_no _ _ _ _ hs).mono ?_
    rintro e w2 ⟨rfl, rfl⟩
    go_wp2_with fail
    exact bodyPost_ret (v := .tuple #[.agg #[.int .i64 0, .int .i64 0, .slice none 0 0], .bool false]) (by simp [results, Try.results80, go_sem]) rfl ⟨none, 0, 0, rfl, OwnA.none _ _, by omega, Joins.below_alloc1 _ _⟩
  case pos =>
    obtain ⟨s, rfl⟩ : ∃ s : Nat, ss = (s : Int) := ⟨ss.toNat, by omega⟩
    have s1 : 1 ≤ s := by omega
    have s2 : s ≤ 16 := by omega
    rw [spiralF_yes s1 s2]
    obtain ⟨n, hn⟩ : ∃ n : Nat, n = s * s := ⟨_, rfl⟩
    have HN := Lib.hid hn
    have HQ : Hid ((n : Int) = (s : Int) * (s : Int)) := Lib.hid (by rw [hn]; simp)
    have hn2 : n ≤ 256 := by rw [hn]; exact Nat.mul_le_mul s2 s2
    have hn1 : 1 ≤ n := by rw [hn]; exact Nat.mul_le_mul s1 s1
    have HF := Lib.hid (sp_facts s s1 s2)
    have hb0 : 1 ≤ (s : Int) * (s : Int) ∧ (s : Int) * (s : Int) ≤ 256 := by have := HQ.out; omega
    obtain ⟨hb1, hb2⟩ := hb0
    rw [← HN.out]
    clear hn
    go_enter Try.func80, Try.ntmps80
    go_wp2_with fail
    refine (spec_l1In_yes _ _ _ _ hs.1 hs.2).mono ?_
    rintro e w2 ⟨rfl, rfl⟩
    clear hs
    go_wp2_with fail
    go_loopw [5] (fun i wr => ∃ (k : Nat) (ad' : Option Addr) (cap' : Nat), k ≤ n ∧ i = .int .i64 k ∧ OwnA wr (w.heap.size + 1 + 1) ad' k cap' (gen k ((fun _ => (-1 : Int)))) ∧ Blk wr (w.heap.size + 1) 25 #[.int .i64 ((s : Int)), .int .i64 ((s : Int)), .slice ad' k cap'] ∧ Below (w.heap.size + 1) (w.alloc (.cells #[.int .i64 0, .int .i64 0, .slice none 0 0] 25)) wr) (fun i _ => n - (intOf i).toNat)
    case atStart => exact ⟨0, none, 0, Nat.zero_le _, rfl, OwnA.none _ _, by first | exact Blk.new _ _ _ | exact Blk.new' _ _ (by simp), by first | exact Joins.below_alloc1 _ _ | exact (Below.refl _ _).alloc (by simp) _⟩
    case round =>
      obtain ⟨k, ad', cap', hk, rfl, ho, hb', hw'⟩ := hrel
      have HO := Lib.hid ho
      have KB := Lib.hid hb'
      have HW := Lib.hid hw'
      obtain ⟨l0, o0, o1, o2⟩ := KB.out.c3
      clear ho hb' hw'
      by_cases hlt : k < n
      · have hlt2 : (k : Int) < (s : Int) * (s : Int) := by have := HQ.out; omega
        go_wp2_with (at_builtin; refine wp_append _ rfl (.tmp 29) (.tmp 30) rfl (w.heap.size + 1 + 1) k cap' ad' _ rfl (HO.out.alloc _) wr.heap.size ((-1 : Int)) rfl (by go_simp) (by omega) (by have := KB.out.lt; simp; omega) ?_; intro ad2 cap2 w5 ho5 hg5; have KB5 := Lib.hid (app_blk HO.out hg5 KB.out (by omega)); obtain ⟨l5, p0, p1, p2⟩ := KB5.out.c3; obtain ⟨f0, f1, f2⟩ := KB5.out.f3)
        have HW5 := Lib.hid (app_below HO.out hg5 HW.out (by omega) (by have := KB.out.lt; omega))
        have HO5 := Lib.hid ho5
        clear ho5 hg5
        go_roundw
        case rel => exact ⟨k + 1, ad2, cap2, by omega, by go_num, (by rw [← gen_snoc]; exact HO5.out.other (by simp) _), by first | exact KB5.out.set 2 _ | (have h := KB5.out.set 2 (.slice ad2 (k + 1) cap2); simpa using h), HW5.out.setCell (by simp) _⟩
        case measure => simp [intOf]; omega
      · have hlt2 : ¬ (k : Int) < (s : Int) * (s : Int) := by have := HQ.out; omega
        obtain rfl : n = k := by omega
        obtain ⟨g, hge, HG, HO3⟩ : ∃ g, ad' = some ⟨g, 0, none⟩ ∧ Hid (w.heap.size + 1 + 1 ≤ g) ∧ Hid (Own wr g n cap' (spState s 0).r) := by
          rcases HO.out with ⟨_, h, _⟩ | ⟨g, h1, h2, h3⟩
          · omega
          · refine ⟨g, h1, h2, ?_⟩
            have e : (spState s 0).r = gen n (fun _ => (-1 : Int)) := by
              simp only [spState, spInit]
              rw [← HN.out]
              refine gen_ext n _ _ (by simp) (fun i hi => ?_)
              simp [List.getD, hi]
            rw [e]; exact h3
        subst hge
        clear HO
        obtain ⟨w5, rfl⟩ : ∃ w5 : World, w5 = wr := ⟨_, rfl⟩
        have N1 : g ≠ w.heap.size + 1 := by have := HG.out; omega
        go_wp2_with fail
        go_loopw [6, 7, 8, 9, 36] (fun x y dx dy i wr => ∃ (k : Nat) (t : Sp), k ≤ n ∧ i = .int .i64 k ∧ x = .int .i64 t.x ∧ y = .int .i64 t.y ∧ dx = .int .i64 t.dx ∧ dy = .int .i64 t.dy ∧ Hid (t = spState s k) ∧ Own wr g n cap' t.r ∧ w5.grownBy wr (some g)) (fun _ _ _ _ i _ => n - (intOf i).toNat)
        case atStart => exact ⟨0, spState s 0, Nat.zero_le _, rfl, rfl, rfl, rfl, rfl, rfl, HO3.out, grown_refl _ _⟩
        case round =>
          obtain ⟨k, t, hk, rfl, rfl, rfl, rfl, rfl, HT, ho, hg⟩ := hrel
          have KBk := Lib.hid (KB.out.grown hg (by intro e; have := Option.some.inj e; have := HG.out; omega))
          have HO4 := Lib.hid ho
          have HG4 := Lib.hid hg
          clear o0 o1 o2 l0 ho hg
          obtain ⟨l0, o0, o1, o2⟩ := KBk.out.c3
          by_cases hlt : k < n
          · obtain ⟨x0, x1, y0, y1, dx0, dx1, dy0, dy1, dne⟩ := spOk_bd (s := s) (t := t) (by rw [HT.out]; exact HF.out.1 k (by have := HN.out; omega))
            obtain ⟨i0, i1⟩ := row_bd x0 x1 y0 y1
            have i2 : (t.y * (s : Int) + t.x).toNat < n := by have := HQ.out; omega
            have i3 : t.y * (s : Int) + t.x < (n : Int) := by have := HQ.out; omega
            have g2 := HO4.out.cell i2
            have g3 := HO4.out.frozen (t.y * (s : Int) + t.x).toNat
            have HDN := Lib.hid dne
            clear dne i1
            by_cases hu : 0 ≤ t.x + t.dx ∧ t.x + t.dx ≤ (s : Int) - 1
            · by_cases hv : 0 ≤ t.y + t.dy ∧ t.y + t.dy ≤ (s : Int) - 1
              · obtain ⟨j0, j1⟩ := row_bd (x := t.x + t.dx) (y := t.y + t.dy) (W := (s : Int)) (H := (s : Int)) hu.1 (by omega) hv.1 (by omega)
                have j2 : ((t.y + t.dy) * (s : Int) + (t.x + t.dx)).toNat < n := by have := HQ.out; omega
                have j3 : (t.y + t.dy) * (s : Int) + (t.x + t.dx) < (n : Int) := by have := HQ.out; omega
                have g4 := HO4.out.cell j2
                have hne : (t.y * (s : Int) + t.x).toNat ≠ ((t.y + t.dy) * (s : Int) + (t.x + t.dx)).toNat := by
                  have e : (t.y + t.dy) * (s : Int) = t.y * (s : Int) + t.dy * (s : Int) := Int.add_mul _ _ _
                  have := HDN.out
                  omega
                have hrd : (t.r.set (t.y * (s : Int) + t.x).toNat (k : Int)).getD ((t.y + t.dy) * (s : Int) + (t.x + t.dx)).toNat 0 = t.r.getD ((t.y + t.dy) * (s : Int) + (t.x + t.dx)).toNat 0 := by
                  rw [getD_set _ _ _ _ (by rw [HO4.out.len]; exact i2), if_neg hne]
                have HTR := Lib.hid (spTurn_r hu hv hrd)
                clear hrd j1
                by_cases hr : 0 ≤ t.r.getD ((t.y + t.dy) * (s : Int) + (t.x + t.dx)).toNat 0
                · have HTT := Lib.hid (HTR.out.trans (decide_eq_true hr))
                  simp only [List.getD] at hr
                  go_wp2_with fail
                  refine (spec_l1In_yes _ _ _ _ hu.1 hu.2).mono ?_
                  rintro e w9 ⟨rfl, rfl⟩
                  go_wp2_with fail
                  refine (spec_l1In_yes _ _ _ _ hv.1 hv.2).mono ?_
                  rintro e w9 ⟨rfl, rfl⟩
                  go_wp2_with fail
                  go_roundw
                  case rel =>
                    have E := spStep_turn HTT.out
                    refine ⟨k + 1, spStep s k t, by omega, by go_num, ?_, ?_, ?_, ?_, ?_, ?_, grown_set HG4.out _⟩
                    · rw [E]; go_num
                    · rw [E]
                    · rw [E]
                    · rw [E]
                    · rw [HT.out]; rfl
                    · rw [E]; exact HO4.out.set _ _
                  case measure => simp [intOf]; omega
                · have HTT := Lib.hid (HTR.out.trans (decide_eq_false hr))
                  simp only [List.getD] at hr
                  go_wp2_with fail
                  refine (spec_l1In_yes _ _ _ _ hu.1 hu.2).mono ?_
                  rintro e w9 ⟨rfl, rfl⟩
                  go_wp2_with fail
                  refine (spec_l1In_yes _ _ _ _ hv.1 hv.2).mono ?_
                  rintro e w9 ⟨rfl, rfl⟩
                  go_wp2_with fail
                  go_roundw
                  case rel =>
                    have E := spStep_on HTT.out
                    refine ⟨k + 1, spStep s k t, by omega, by go_num, ?_, ?_, ?_, ?_, ?_, ?_, grown_set HG4.out _⟩
                    · rw [E]
                    · rw [E]
                    · rw [E]
                    · rw [E]
                    · rw [HT.out]; rfl
                    · rw [E]; exact HO4.out.set _ _
                  case measure => simp [intOf]; omega
              · have HTT := Lib.hid (spTurn_v (r := t.r.set (t.y * (s : Int) + t.x).toNat (k : Int)) (u := t.x + t.dx) hv)
                go_wp2_with fail
                refine (spec_l1In_yes _ _ _ _ hu.1 hu.2).mono ?_
                rintro e w9 ⟨rfl, rfl⟩
                go_wp2_with fail
                refine (spec_l1In_no _ _ _ _ hv).mono ?_
                rintro e w9 ⟨rfl, rfl⟩
                go_wp2_with fail
                go_roundw
                case rel =>
                  have E := spStep_turn HTT.out
                  refine ⟨k + 1, spStep s k t, by omega, by go_num, ?_, ?_, ?_, ?_, ?_, ?_, grown_set HG4.out _⟩
                  · rw [E]; go_num
                  · rw [E]
                  · rw [E]
                  · rw [E]
                  · rw [HT.out]; rfl
                  · rw [E]; exact HO4.out.set _ _
                case measure => simp [intOf]; omega
            · have HTT := Lib.hid (spTurn_u (r := t.r.set (t.y * (s : Int) + t.x).toNat (k : Int)) (v := t.y + t.dy) hu)
              go_wp2_with fail
              refine (spec_l1In_no _ _ _ _ hu).mono ?_
              rintro e w9 ⟨rfl, rfl⟩
              go_wp2_with fail
              go_roundw
              case rel =>
                have E := spStep_turn HTT.out
                refine ⟨k + 1, spStep s k t, by omega, by go_num, ?_, ?_, ?_, ?_, ?_, ?_, grown_set HG4.out _⟩
                · rw [E]; go_num
                · rw [E]
                · rw [E]
                · rw [E]
                · rw [HT.out]; rfl
                · rw [E]; exact HO4.out.set _ _
              case measure => simp [intOf]; omega
          · obtain rfl : n = k := by omega
            have HB5 := Lib.hid ((Joins.below_alloc1 w (.cells #[.int .i64 0, .int .i64 0, .slice none 0 0] 25)).trans (HW.out.mono (by simp)))
            have HBr := Lib.hid (HB5.out.grown HG4.out HB5.out.size (fun b hb => by cases hb; have := HG.out; omega))
            have KR := Lib.hid (((Blk.new w 25 #[.int .i64 0, .int .i64 0, .slice none 0 0]).below HW.out (by simp)).grown HG4.out (by intro e; have := Option.some.inj e; have := HG.out; omega))
            have HO5 : Hid (Own wr g n cap' (spState s n).r) := Lib.hid (by rw [← HT.out]; exact HO4.out)
            obtain ⟨r0, r1, r2, r3⟩ := KR.out.c3
            obtain ⟨q0, q1, q2⟩ := KR.out.f3
            go_wp2_with fail
            exact bodyPost_ret (v := .tuple #[.agg #[.int .i64 s, .int .i64 s, .slice (some ⟨g, 0, none⟩) n cap'], .bool true]) (by simp [results, Try.results80, go_sem, r1, r2, r3]) rfl
              ⟨_, _, _, rfl, OwnA.mk (((HO5.out.other (by have := HG.out; simp; omega) _).other (by have := HG.out; simp; omega) _).other (by have := HG.out; simp; omega) _) (by have := HG.out; omega), by omega,
                ((HBr.out.setCell (by simp) _).setCell (by simp) _).setCell (by simp) _⟩

end Go.Proofs.Ytgepjfdnlnemjaa
