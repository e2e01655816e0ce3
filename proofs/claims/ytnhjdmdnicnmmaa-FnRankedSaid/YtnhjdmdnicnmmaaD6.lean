/-
  Contracts of chapter 3: levels, CellsBelow (program and model).
-/
import Derived.Test.YtnhjdmdnicnmmaaD5
import Derived.Test.YtnhjdmdnicnmmaaC3
namespace Go.Proofs.Ytnhjdmdnicnmmaa
open Go.RowKit
set_option linter.unusedVariables false
set_option linter.unusedSimpArgs false

set_option maxHeartbeats 400000 in
theorem impl_isLevel (W H : Int) (ad : Option Addr) (n cap : Nat) (l : Int) (w : World) :
    Calls Try.prog 38 #[.agg #[.int .i64 W, .int .i64 H, .slice ad n cap], .int .i64 l] w fun e w' => e = .returned (.bool (decide (0 ≤ l ∧ l ≤ (n : Int)))) ∧ Below w.heap.size w w' := by
  go_enter Try.func38, Try.ntmps38
  go_wp2
  all_goals (go_ret; exact ⟨ret_bool (by first | (simp [*]; done) | (simp [*]; omega) | (simp; intros; omega)), Joins.below_alloc1 _ _⟩)

theorem impl_isLevel_yes (W H : Int) (ad : Option Addr) (n cap : Nat) (l : Int) (w : World) (h1 : 0 ≤ l) (h2 : l ≤ (n : Int)) :
    Calls Try.prog 38 #[.agg #[.int .i64 W, .int .i64 H, .slice ad n cap], .int .i64 l] w fun e w' => e = .returned (.bool true) ∧ Below w.heap.size w w' :=
  (impl_isLevel W H ad n cap l w).mono fun e w' ⟨he, hw⟩ => ⟨by rw [he]; exact ret_bool (by simp [h1, h2]), hw⟩

theorem impl_isLevel_no (W H : Int) (ad : Option Addr) (n cap : Nat) (l : Int) (w : World) (h : ¬ (0 ≤ l ∧ l ≤ (n : Int))) :
    Calls Try.prog 38 #[.agg #[.int .i64 W, .int .i64 H, .slice ad n cap], .int .i64 l] w fun e w' => e = .returned (.bool false) ∧ Below w.heap.size w w' :=
  (impl_isLevel W H ad n cap l w).mono fun e w' ⟨he, hw⟩ => ⟨by rw [he]; exact ret_bool (by simpa using h), hw⟩

theorem filled_skip (ys xs : List Int) (k : Nat) (hk : k < ys.length) (hx : k < xs.length) (hv : ys.getD k 0 = xs.getD k 0) : filled ys xs k = filled ys xs (k + 1) := by
  rw [← filled_succ ys xs k _ hk hx rfl, hv]
  apply List.ext_getElem?
  intro i
  rw [List.getElem?_set]
  by_cases h : k = i
  · subst h
    have e : (filled ys xs k)[k]? = some (xs.getD k 0) := by
      simp only [filled]
      rw [List.getElem?_append_right (by simp; omega), List.getElem?_drop]
      simp only [List.length_take]
      rw [Nat.min_eq_left (by omega), Nat.sub_self, Nat.add_zero]
      simp [List.getD, hx]
    have e2 : k < (filled ys xs k).length := (List.getElem?_eq_some_iff.1 e).1
    rw [if_pos rfl, if_pos e2, e]
  · rw [if_neg h]

set_option maxHeartbeats 800000 in
theorem impl_CellsBelow (W H : Int) (ad : Option Addr) (n cap : Nat) (xs : List Int) (l : Int) (w : World) (hn : xs.length = n) (ha : Rd w ad xs) (hl : n ≤ 9223372036854775807) :
    Calls Try.prog 11 #[.agg #[.int .i64 W, .int .i64 H, .slice ad n cap], .int .i64 l] w (PicOut w (cellsF W H xs l)) := by
  have HN := Lib.hid hn
  have HA := Lib.hid ha
  clear hn ha
  by_cases hp : matOk W H xs = true
  case neg =>
    have hp2 : matOk W H xs = false := by simpa using hp
    rw [cellsF_no (fun h => hp h.1)]
    clear hp
    go_enter Try.func11, Try.ntmps11
    go_wp2_with fail
    refine (impl_IsMatrix _ _ _ _ _ xs _ HN.out (by exact (HA.out.alloc _).alloc _) hl).mono ?_
    rintro e w1 ⟨rfl, hb⟩
    have HB1 := Lib.hid ((Joins.below_alloc2 _ _ _).trans (hb.mono (by simp; omega)))
    have KP1 := Lib.hid (((Blk.new w 28 #[.int .i64 W, .int .i64 H, .slice ad n cap]).alloc _).below' hb)
    have KR1 : Hid (Blk w1 (w.heap.size + 1) 25 #[.int .i64 0, .int .i64 0, .slice none 0 0]) := by
      have h := (Blk.new (w.alloc (.cells #[.int .i64 W, .int .i64 H, .slice ad n cap] 28)) 25 #[.int .i64 0, .int .i64 0, .slice none 0 0]).below' hb
      exact Lib.hid (by simpa using h)
    obtain ⟨l1, c0, c1, c2⟩ := KP1.out.c3
    obtain ⟨m1, d0, d1, d2⟩ := KR1.out.c3
    obtain ⟨f0, f1, f2⟩ := KR1.out.f3
    clear hb
    rw [hp2]
    go_wp2_with fail
    exact bodyPost_ret (v := .agg #[.int .i64 0, .int .i64 0, .slice none 0 0]) (by simp [results, Try.results11, go_sem, d0, d1, d2]) rfl ⟨none, 0, 0, rfl, OwnA.none _ _, by omega,
      ((HB1.out.setCell (by first | (simp; done) | (simp; omega)) _).setCell (by first | (simp; done) | (simp; omega)) _).setCell (by first | (simp; done) | (simp; omega)) _⟩
  case pos =>
    by_cases hv : 0 ≤ l ∧ l ≤ (n : Int)
    case neg =>
      rw [cellsF_no (fun h => hv (by have := HN.out; exact ⟨h.2.1, by omega⟩))]
      have HV := Lib.hid hv
      clear hv
      go_enter Try.func11, Try.ntmps11
      go_wp2_with fail
      refine (impl_IsMatrix _ _ _ _ _ xs _ HN.out (by exact (HA.out.alloc _).alloc _) hl).mono ?_
      rintro e w1 ⟨rfl, hb⟩
      have HB1 := Lib.hid ((Joins.below_alloc2 _ _ _).trans (hb.mono (by simp; omega)))
      have KP1 := Lib.hid (((Blk.new w 28 #[.int .i64 W, .int .i64 H, .slice ad n cap]).alloc _).below' hb)
      have KR1 : Hid (Blk w1 (w.heap.size + 1) 25 #[.int .i64 0, .int .i64 0, .slice none 0 0]) := by
        have h := (Blk.new (w.alloc (.cells #[.int .i64 W, .int .i64 H, .slice ad n cap] 28)) 25 #[.int .i64 0, .int .i64 0, .slice none 0 0]).below' hb
        exact Lib.hid (by simpa using h)
      obtain ⟨l1, c0, c1, c2⟩ := KP1.out.c3
      obtain ⟨m1, d0, d1, d2⟩ := KR1.out.c3
      obtain ⟨f0, f1, f2⟩ := KR1.out.f3
      clear hb
      rw [hp]
      go_wp2_with fail
      refine (impl_isLevel_no _ _ _ _ _ _ _ HV.out).mono ?_
      rintro e w1 ⟨rfl, hb⟩
      have HB1 := Lib.hid (HB1.out.trans (hb.mono HB1.out.size))
      have KP1 := Lib.hid (KP1.out.below' hb)
      have KR1 := Lib.hid (KR1.out.below' hb)
      clear hb c0 c1 c2 d0 d1 d2 f0 f1 f2
      obtain ⟨l1, c0, c1, c2⟩ := KP1.out.c3
      obtain ⟨m1, d0, d1, d2⟩ := KR1.out.c3
      obtain ⟨f0, f1, f2⟩ := KR1.out.f3
      go_wp2_with fail
      exact bodyPost_ret (v := .agg #[.int .i64 0, .int .i64 0, .slice none 0 0]) (by simp [results, Try.results11, go_sem, d0, d1, d2]) rfl ⟨none, 0, 0, rfl, OwnA.none _ _, by omega,
        ((HB1.out.setCell (by first | (simp; done) | (simp; omega)) _).setCell (by first | (simp; done) | (simp; omega)) _).setCell (by first | (simp; done) | (simp; omega)) _⟩
    case pos =>
      obtain ⟨hv1, hv2⟩ := hv
      by_cases ht : sizeOk W H = true
      case neg =>
        rw [cellsF_no (fun h => ht h.2.2.2)]
        go_enter Try.func11, Try.ntmps11
        go_wp2_with fail
        refine (impl_IsMatrix _ _ _ _ _ xs _ HN.out (by exact (HA.out.alloc _).alloc _) hl).mono ?_
        rintro e w1 ⟨rfl, hb⟩
        have HB1 := Lib.hid ((Joins.below_alloc2 _ _ _).trans (hb.mono (by simp; omega)))
        have KP1 := Lib.hid (((Blk.new w 28 #[.int .i64 W, .int .i64 H, .slice ad n cap]).alloc _).below' hb)
        have KR1 : Hid (Blk w1 (w.heap.size + 1) 25 #[.int .i64 0, .int .i64 0, .slice none 0 0]) := by
          have h := (Blk.new (w.alloc (.cells #[.int .i64 W, .int .i64 H, .slice ad n cap] 28)) 25 #[.int .i64 0, .int .i64 0, .slice none 0 0]).below' hb
          exact Lib.hid (by simpa using h)
        obtain ⟨l1, c0, c1, c2⟩ := KP1.out.c3
        obtain ⟨m1, d0, d1, d2⟩ := KR1.out.c3
        obtain ⟨f0, f1, f2⟩ := KR1.out.f3
        clear hb
        rw [hp]
        go_wp2_with fail
        refine (impl_isLevel_yes _ _ _ _ _ _ _ hv1 hv2).mono ?_
        rintro e w1 ⟨rfl, hb⟩
        have HB1 := Lib.hid (HB1.out.trans (hb.mono HB1.out.size))
        have KP1 := Lib.hid (KP1.out.below' hb)
        have KR1 := Lib.hid (KR1.out.below' hb)
        clear hb c0 c1 c2 d0 d1 d2 f0 f1 f2
        obtain ⟨l1, c0, c1, c2⟩ := KP1.out.c3
        obtain ⟨m1, d0, d1, d2⟩ := KR1.out.c3
        obtain ⟨f0, f1, f2⟩ := KR1.out.f3
        go_wp2_with fail
        refine (impl_isSize_no _ _ _ ht).mono ?_
        rintro e w2 ⟨rfl, rfl⟩
        go_wp2_with fail
        exact bodyPost_ret (v := .agg #[.int .i64 0, .int .i64 0, .slice none 0 0]) (by simp [results, Try.results11, go_sem, d0, d1, d2]) rfl ⟨none, 0, 0, rfl, OwnA.none _ _, by omega,
          ((HB1.out.setCell (by first | (simp; done) | (simp; omega)) _).setCell (by first | (simp; done) | (simp; omega)) _).setCell (by first | (simp; done) | (simp; omega)) _⟩
      case pos =>
        rw [cellsF_yes HN.out hp hv1 hv2 ht]
        obtain ⟨hs, hq, hi, hd⟩ := matOk_bd HN.out hp
        obtain ⟨b1, b2, b3, b4, b5, b6⟩ := matSize_bd hs
        have HQ := Lib.hid hq
        have HI := Lib.hid hi
        have HD := Lib.hid hd
        have HS := Lib.hid hs
        have hn1 : 1 ≤ n := by omega
        have hn2 : n ≤ 256 := by omega
        clear hq hi hs hd
        have HT := Lib.hid ht
        clear ht
        go_enter Try.func11, Try.ntmps11
        go_wp2_with fail
        refine (impl_IsMatrix _ _ _ _ _ xs _ HN.out (by exact (HA.out.alloc _).alloc _) hl).mono ?_
        rintro e w1 ⟨rfl, hb⟩
        have HB1 := Lib.hid ((Joins.below_alloc2 _ _ _).trans (hb.mono (by simp; omega)))
        have KP1 := Lib.hid (((Blk.new w 28 #[.int .i64 W, .int .i64 H, .slice ad n cap]).alloc _).below' hb)
        have KR1 : Hid (Blk w1 (w.heap.size + 1) 25 #[.int .i64 0, .int .i64 0, .slice none 0 0]) := by
          have h := (Blk.new (w.alloc (.cells #[.int .i64 W, .int .i64 H, .slice ad n cap] 28)) 25 #[.int .i64 0, .int .i64 0, .slice none 0 0]).below' hb
          exact Lib.hid (by simpa using h)
        obtain ⟨l1, c0, c1, c2⟩ := KP1.out.c3
        obtain ⟨m1, d0, d1, d2⟩ := KR1.out.c3
        obtain ⟨f0, f1, f2⟩ := KR1.out.f3
        clear hb
        rw [hp]
        go_wp2_with fail
        refine (impl_isLevel_yes _ _ _ _ _ _ _ hv1 hv2).mono ?_
        rintro e w1 ⟨rfl, hb⟩
        have HB1 := Lib.hid (HB1.out.trans (hb.mono HB1.out.size))
        have KP1 := Lib.hid (KP1.out.below' hb)
        have KR1 := Lib.hid (KR1.out.below' hb)
        clear hb c0 c1 c2 d0 d1 d2 f0 f1 f2
        obtain ⟨l1, c0, c1, c2⟩ := KP1.out.c3
        obtain ⟨m1, d0, d1, d2⟩ := KR1.out.c3
        obtain ⟨f0, f1, f2⟩ := KR1.out.f3
        go_wp2_with fail
        refine (impl_isSize_yes _ _ _ HT.out).mono ?_
        rintro e w2 ⟨rfl, rfl⟩
        go_wp2_with fail
        refine (impl_blank W H n _ HT.out HQ.out).mono ?_
        rintro e w2 ⟨g, rfl, hg, ho, hb⟩
        have HB2 := Lib.hid (HB1.out.trans (hb.mono HB1.out.size))
        have KP2 := Lib.hid (KP1.out.below' hb)
        have KR2 := Lib.hid (KR1.out.below' hb)
        have HO := Lib.hid ho
        have HG : Hid (w1.heap.size ≤ g) := Lib.hid hg
        clear hb hg ho c0 c1 c2 d0 d1 d2 f0 f1 f2
        obtain ⟨l2, c0, c1, c2⟩ := KP2.out.c3
        go_wp2_with fail
        go_loopw [34] (fun i wr => ∃ k : Nat, k ≤ n ∧ i = .int .i64 k ∧ Own wr g n n (filled (xs.map (cellsG l)) (List.replicate n 0) k) ∧ (w2.alloc (.cells #[.int .i64 W, .int .i64 H, .slice (some ⟨g, 0, none⟩) n n] 25)).grownBy wr (some g)) (fun i _ => n - (intOf i).toNat)
        case atStart => exact ⟨0, Nat.zero_le _, rfl, by rw [filled_zero]; exact HO.out.alloc _, grown_refl _ _⟩
        case round =>
          obtain ⟨k, hk, rfl, ho, hg⟩ := hrel
          have HBr := Lib.hid ((HB2.out.alloc HB2.out.size _).grown hg (by have := HB2.out.size; simp; omega) (by intro k hk; cases hk; have := HG.out; omega))
          have KO := Lib.hid ((Blk.new w2 25 #[.int .i64 W, .int .i64 H, .slice (some ⟨g, 0, none⟩) n n]).grown hg (by have := HO.out.lt; simp; omega))
          obtain ⟨l0, o0, o1, o2⟩ := KO.out.c3
          have KP := Lib.hid ((KP2.out.alloc _).grown hg (by have := HG.out; have := KP1.out.lt; simp; omega))
          obtain ⟨l9, p0, p1, p2⟩ := KP.out.c3
          by_cases hlt : k < n
          · obtain ⟨ba, oa, hae, hal, hac⟩ := (HA.out.below HBr.out).at (by have := HN.out; omega)
            have h1 := hac (k) (by have := HN.out; omega)
            subst hae
            clear hac
            by_cases hb : xs[k]?.getD 0 < l
            · have g2 : wr.cell? ⟨g, k, none⟩ = some (.int .i64 ((filled (xs.map (cellsG l)) (List.replicate n 0) k).getD k 0)) := ho.cell hlt
              have g3 : wr.frozen? ⟨g, k, none⟩ = false := ho.frozen k
              have hs := ho.set k (1)
              rw [filled_succ (xs.map (cellsG l)) _ k _ (by have := HN.out; simp; omega) (by simp; omega) ((map_get _ _ _ (by have := HN.out; omega)).trans (if_pos hb))] at hs
              have HSt := Lib.hid hs
              clear hs ho
              go_wp2_with fail
              go_roundw
              case rel => exact ⟨k + 1, by omega, by go_num, by simpa using HSt.out, grown_set hg _⟩
              case measure => simp [intOf]; omega
            · have hs := filled_skip (xs.map (cellsG l)) (List.replicate n 0) k (by have := HN.out; simp; omega) (by simp; omega) (by rw [map_get _ _ _ (by have := HN.out; omega)]; simp [cellsG, hb, List.getD, hlt])
              have HSt : Hid (Own wr g n n (filled (xs.map (cellsG l)) (List.replicate n 0) (k + 1))) := Lib.hid (by rw [← hs]; exact ho)
              clear hs ho
              go_wp2_with fail
              go_roundw
              case rel => exact ⟨k + 1, by omega, by go_num, HSt.out, hg⟩
              case measure => simp [intOf]; omega
          · obtain rfl : n = k := by omega
            have KR := Lib.hid ((KR2.out.alloc _).grown hg (by have := HG.out; have := KR2.out.lt; simp; omega))
            obtain ⟨r0, r1, r2, r3⟩ := KR.out.c3
            obtain ⟨q0, q1, q2⟩ := KR.out.f3
            rw [filled_at (xs.map (cellsG l)) _ n (by simp [HN.out]) (by simp)] at ho
            have HO3 := Lib.hid ho
            clear ho
            go_wp2_with fail
            exact bodyPost_ret (v := .agg #[.int .i64 W, .int .i64 H, .slice (some ⟨g, 0, none⟩) n n]) (by simp [results, Try.results11, go_sem, r1, r2, r3]) rfl
              ⟨_, _, _, rfl, OwnA.mk (((HO3.out.other (by have := HG.out; simp; omega) _).other (by have := HG.out; simp; omega) _).other (by have := HG.out; simp; omega) _) (by have := HG.out; omega), by omega,
                ((HBr.out.setCell (by first | (simp; done) | (simp; omega)) _).setCell (by first | (simp; done) | (simp; omega)) _).setCell (by first | (simp; done) | (simp; omega)) _⟩

end Go.Proofs.Ytnhjdmdnicnmmaa
