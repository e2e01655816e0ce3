/-
  Contracts of chapter 7: seeds, in the program and in the model.
-/
import Derived.Test.YtmkpmdnipakmgaaM40
import Derived.Test.YtmkpmdnipakmgaaC3
namespace Go.Proofs.Ytmkpmdnipakmgaa
open Go.RowKit
set_option linter.unusedVariables false
set_option linter.unusedSimpArgs false

theorem set_self {xs : List Int} {i : Nat} {v : Int} (h : i < xs.length ∧ xs.getD i 0 = v) : xs.set i v = xs := by
  apply List.ext_getElem?
  intro k
  rw [List.getElem?_set]
  by_cases e : i = k
  · subst e
    rw [if_pos rfl, if_pos h.1, List.getElem?_eq_getElem h.1]
    have h2 := h.2
    simp only [List.getD, List.getElem?_eq_getElem h.1, Option.getD_some] at h2
    rw [h2]
  · rw [if_neg e]

theorem filled_next (ys : List Int) (n k : Nat) (h : k < n) (hy : ys.length = n) : k < (filled ys (List.replicate n 0) k).length ∧ (filled ys (List.replicate n 0) k).getD k 0 = 0 := by
  have hl : (ys.take k).length = k := by rw [List.length_take]; omega
  unfold filled
  refine ⟨by simp; omega, ?_⟩
  rw [List.getD, List.getElem?_append_right (by omega), hl, Nat.sub_self, List.getElem?_drop]
  simp [h]

set_option maxHeartbeats 1600000 in
theorem spec_SeedField (W H e : Int) (w : World) :
    Calls Try.prog 37 #[.int .i64 W, .int .i64 H, .int .i64 e] w (PicOut2 w (seedF W H e)) := by
  by_cases hs : sizeOk W H = true
  case neg =>
    have E : seedF W H e = (noPic, false) := by unfold seedF; rw [if_neg (fun h => hs h.1)]
    rw [E]
    have HS := Lib.hid hs
    clear hs E
    go_enter Try.func37, Try.ntmps37
    go_wp2_with fail
    refine (spec_l1Size_no _ _ _ HS.out).mono ?_
    rintro e2 w1 ⟨rfl, rfl⟩
    have KR1 := Lib.hid (Blk.new w 27 #[.int .i64 0, .int .i64 0, .slice none 0 0])
    have HB1 := Lib.hid (Joins.below_alloc1 w (.cells #[.int .i64 0, .int .i64 0, .slice none 0 0] 27))
    obtain ⟨r0, r1, r2, r3⟩ := KR1.out.c3
    obtain ⟨q0, q1, q2⟩ := KR1.out.f3
    go_wp2_with fail
    exact bodyPost_ret (v := .tuple #[.agg #[.int .i64 0, .int .i64 0, .slice none 0 0], .bool false]) (by simp [results, Try.results37, go_sem]) rfl ⟨none, 0, 0, rfl, OwnA.none _ _, by omega,
      by first | exact HB1.out | exact ((HB1.out.setCell (by first | (simp; done) | (simp; omega)) _).setCell (by first | (simp; done) | (simp; omega)) _).setCell (by first | (simp; done) | (simp; omega)) _⟩
  case pos =>
    obtain ⟨b1, b2, b3, b4, b5, b6⟩ := sizeOk_bd hs
    obtain ⟨n, hn⟩ : ∃ n : Nat, (n : Int) = W * H := ⟨(W * H).toNat, by omega⟩
    have u1 : IntKind.i64.wrap (W * H) = (n : Int) := by rw [hn]; exact IntWalk.i64_in _ (by omega)
    have hn1 : 1 ≤ n := by omega
    have HQ := Lib.hid hn
    by_cases hm : n ≤ 256
    case neg =>
      have E : seedF W H e = (noPic, false) := by unfold seedF; rw [if_neg (fun h => hm (by have := h.2.1; omega))]
      rw [E]
      have HS := Lib.hid hs
      have hm2 : 256 < (n : Int) := by omega
      clear hs E hm hn b5 b6
      go_enter Try.func37, Try.ntmps37
      go_wp2_with fail
      refine (spec_l1Size_yes _ _ _ HS.out).mono ?_
      rintro e2 w1 ⟨rfl, rfl⟩
      have KR1 := Lib.hid (Blk.new w 27 #[.int .i64 0, .int .i64 0, .slice none 0 0])
      have HB1 := Lib.hid (Joins.below_alloc1 w (.cells #[.int .i64 0, .int .i64 0, .slice none 0 0] 27))
      obtain ⟨r0, r1, r2, r3⟩ := KR1.out.c3
      obtain ⟨q0, q1, q2⟩ := KR1.out.f3
      go_wp2_with fail
      exact bodyPost_ret (v := .tuple #[.agg #[.int .i64 0, .int .i64 0, .slice none 0 0], .bool false]) (by simp [results, Try.results37, go_sem]) rfl ⟨none, 0, 0, rfl, OwnA.none _ _, by omega,
        by first | exact HB1.out | exact ((HB1.out.setCell (by first | (simp; done) | (simp; omega)) _).setCell (by first | (simp; done) | (simp; omega)) _).setCell (by first | (simp; done) | (simp; omega)) _⟩
    case pos =>
      have hm2 : (n : Int) ≤ 256 := by omega
      by_cases he : 1 ≤ e ∧ e ≤ 100
      case neg =>
        have E : seedF W H e = (noPic, false) := by unfold seedF; rw [if_neg (fun h => he h.2.2)]
        rw [E]
        have HS := Lib.hid hs
        have HE := Lib.hid he
        clear hs E hn b5 b6 hm he
        go_enter Try.func37, Try.ntmps37
        go_wp2_with fail
        refine (spec_l1Size_yes _ _ _ HS.out).mono ?_
        rintro e2 w1 ⟨rfl, rfl⟩
        go_wp2_with fail
        refine (spec_l1In_no _ _ _ _ HE.out).mono ?_
        rintro e2 w1 ⟨rfl, rfl⟩
        have KR1 := Lib.hid (Blk.new w 27 #[.int .i64 0, .int .i64 0, .slice none 0 0])
        have HB1 := Lib.hid (Joins.below_alloc1 w (.cells #[.int .i64 0, .int .i64 0, .slice none 0 0] 27))
        obtain ⟨r0, r1, r2, r3⟩ := KR1.out.c3
        obtain ⟨q0, q1, q2⟩ := KR1.out.f3
        go_wp2_with fail
        exact bodyPost_ret (v := .tuple #[.agg #[.int .i64 0, .int .i64 0, .slice none 0 0], .bool false]) (by simp [results, Try.results37, go_sem]) rfl ⟨none, 0, 0, rfl, OwnA.none _ _, by omega,
          by first | exact HB1.out | exact ((HB1.out.setCell (by first | (simp; done) | (simp; omega)) _).setCell (by first | (simp; done) | (simp; omega)) _).setCell (by first | (simp; done) | (simp; omega)) _⟩
      case pos =>
        have E : seedF W H e = (⟨W, H, gen n (fun i => if (i : Int) * 7 % e = 0 then 1 else 0)⟩, true) := by
          unfold seedF
          rw [if_pos ⟨hs, by omega, he.1, he.2⟩, show (W * H).toNat = n by omega]
        rw [E]
        obtain ⟨e1, e2⟩ := he
        have HS := Lib.hid hs
        clear hs E hn b5 b6 hm
        go_enter Try.func37, Try.ntmps37
        go_wp2_with fail
        refine (spec_l1Size_yes _ _ _ HS.out).mono ?_
        rintro e3 w1 ⟨rfl, rfl⟩
        go_wp2_with fail
        refine (spec_l1In_yes _ _ _ _ e1 e2).mono ?_
        rintro e3 w1 ⟨rfl, rfl⟩
        go_wp2_with fail
        refine (spec_l1Empty W H n _ HS.out HQ.out).mono ?_
        rintro e3 w2 ⟨g, rfl, hg, ho, hb⟩
        have KR := Lib.hid (((Blk.new w 27 #[.int .i64 0, .int .i64 0, .slice none 0 0]).below' hb).alloc (.cells #[.int .i64 W, .int .i64 H, .slice (some ⟨g, 0, none⟩) n n] 27))
        have KO := Lib.hid (Blk.new w2 27 #[.int .i64 W, .int .i64 H, .slice (some ⟨g, 0, none⟩) n n])
        have HO := Lib.hid (ho.alloc (.cells #[.int .i64 W, .int .i64 H, .slice (some ⟨g, 0, none⟩) n n] 27))
        have HB := Lib.hid (bAlloc (bTrans (Joins.below_alloc1 w _) hb) (.cells #[.int .i64 W, .int .i64 H, .slice (some ⟨g, 0, none⟩) n n] 27))
        have HG : Hid (w.heap.size < g ∧ g < w2.heap.size) := Lib.hid ⟨by simp at hg; omega, ho.lt⟩
        clear hg ho hb
        obtain ⟨w3, hw3⟩ : ∃ w3, w3 = w2.alloc (.cells #[.int .i64 W, .int .i64 H, .slice (some ⟨g, 0, none⟩) n n] 27) := ⟨_, rfl⟩
        obtain ⟨l0, o0, o1, o2⟩ := KO.out.c3
        go_wp2_with fail
        rw [← hw3] at KR KO HO HB l0 o0 o1 o2 ⊢
        clear hw3 l0 o0 o1 o2
        go_loopw [32] (fun i wr => ∃ k : Nat, k ≤ n ∧ i = .int .i64 k ∧ Hid (Own wr g n n (filled (gen n (fun i => if (i : Int) * 7 % e = 0 then 1 else 0)) (List.replicate n 0) k)) ∧ Hid (w3.grownBy wr (some g))) (fun i _ => n - (intOf i).toNat)
        case atStart => exact ⟨0, Nat.zero_le _, rfl, Lib.hid (by rw [filled_zero]; exact HO.out), Lib.hid (grown_refl _ _)⟩
        case round =>
          obtain ⟨k, hk, rfl, HK, HGR⟩ := hrel
          have KOr := Lib.hid (KO.out.grown HGR.out (by have := HG.out; intro e; have := Option.some.inj e; omega))
          obtain ⟨l0, o0, o1, o2⟩ := KOr.out.c3
          by_cases hlt : k < n
          · have u2 : IntKind.i64.wrap ((k : Int) * 7) = (k : Int) * 7 := IntWalk.i64_in _ (by omega)
            have z1 : ¬ e = 0 := by omega
            have z2 : (e == 0) = false := by simp; omega
            have u3 : ((k : Int) * 7).tmod e = (k : Int) * 7 % e := Int.tmod_eq_emod_of_nonneg (by omega)
            have m0 : 0 ≤ (k : Int) * 7 % e := Int.emod_nonneg _ z1
            have m1 : (k : Int) * 7 % e < e := Int.emod_lt_of_pos _ (by omega)
            have hs := filled_succ (gen n (fun i => if (i : Int) * 7 % e = 0 then 1 else 0)) (List.replicate n 0) k _ (by rw [gen_len]; exact hlt) (by simp; omega) (gen_get _ _ _ hlt)
            have h2c := HK.out.cell hlt
            have h3c := HK.out.frozen k
            have hx := filled_next (gen n (fun i => if (i : Int) * 7 % e = 0 then 1 else 0)) n k hlt (gen_len _ _)
            obtain ⟨R, hR⟩ : ∃ R, (k : Int) * 7 % e = R := ⟨_, rfl⟩
            rw [hR] at u3 m0 m1 hs
            have u4 : IntKind.i64.wrap R = R := IntWalk.i64_in _ (by omega)
            have FR := Lib.hid hR
            clear hR
            by_cases hz : R = 0
            · subst hz
              rw [if_pos rfl] at hs
              have HS2 := Lib.hid hs
              have HN2 := Lib.hid (HK.out.set k 1)
              clear hs hx
              go_wp2_with fail
              go_roundw
              case rel => exact ⟨k + 1, by omega, by go_num, Lib.hid (by rw [← HS2.out]; exact HN2.out), Lib.hid (grown_set HGR.out _)⟩
              case measure => simp [intOf]; omega
            · rw [if_neg hz] at hs
              have HS2 : Hid (filled (gen n (fun i => if (i : Int) * 7 % e = 0 then 1 else 0)) (List.replicate n 0) (k + 1) = filled (gen n (fun i => if (i : Int) * 7 % e = 0 then 1 else 0)) (List.replicate n 0) k) := Lib.hid (by rw [← hs, set_self hx])
              clear hs hx h2c h3c
              go_wp2_with fail
              go_roundw
              case rel => exact ⟨k + 1, by omega, by go_num, Lib.hid (by rw [HS2.out]; exact HK.out), HGR⟩
              case measure => simp [intOf]; omega
          · obtain rfl : k = n := by omega
            have HF : Hid (Own wr g k k (gen k (fun i => if (i : Int) * 7 % e = 0 then 1 else 0))) := Lib.hid (by have h := HK.out; rwa [filled_at _ _ _ (gen_len _ _) (by simp)] at h)
            have KRr := Lib.hid (KR.out.grown HGR.out (by have := HG.out; intro e; have := Option.some.inj e; omega))
            have HBr := Lib.hid (HB.out.grown HGR.out HB.out.size (by intro q hq; cases hq; have := HG.out; omega))
            obtain ⟨z0, r0, r1, r2⟩ := KRr.out.c3
            obtain ⟨f0, f1, f2⟩ := KRr.out.f3
            go_wp2_with fail
            exact bodyPost_ret (v := .tuple #[.agg #[.int .i64 W, .int .i64 H, .slice (some ⟨g, 0, none⟩) k k], .bool true]) (by simp [results, Try.results37, go_sem, r0, r1, r2]) rfl
              ⟨_, _, _, rfl, OwnA.mk (((HF.out.other (by have := HG.out; simp; omega) _).other (by have := HG.out; simp; omega) _).other (by have := HG.out; simp; omega) _) (by have := HG.out; omega), by omega,
                ((HBr.out.setCell (by first | (simp; done) | (simp; omega)) _).setCell (by first | (simp; done) | (simp; omega)) _).setCell (by first | (simp; done) | (simp; omega)) _⟩

set_option maxHeartbeats 1600000 in
theorem impl_SeedField (W H e : Int) (w : World) :
    Calls Try.prog 38 #[.int .i64 W, .int .i64 H, .int .i64 e] w (PicOut2 w (seedF W H e)) := by
  by_cases hs : sizeOk W H = true
  case neg =>
    have E : seedF W H e = (noPic, false) := by unfold seedF; rw [if_neg (fun h => hs h.1)]
    rw [E]
    have HS := Lib.hid hs
    clear hs E
    go_enter Try.func38, Try.ntmps38
    go_wp2_with fail
    refine (impl_isSize_no _ _ _ HS.out).mono ?_
    rintro e2 w1 ⟨rfl, rfl⟩
    have KR1 := Lib.hid (Blk.new w 27 #[.int .i64 0, .int .i64 0, .slice none 0 0])
    have HB1 := Lib.hid (Joins.below_alloc1 w (.cells #[.int .i64 0, .int .i64 0, .slice none 0 0] 27))
    obtain ⟨r0, r1, r2, r3⟩ := KR1.out.c3
    obtain ⟨q0, q1, q2⟩ := KR1.out.f3
    go_wp2_with fail
    exact bodyPost_ret (v := .tuple #[.agg #[.int .i64 0, .int .i64 0, .slice none 0 0], .bool false]) (by simp [results, Try.results38, go_sem]) rfl ⟨none, 0, 0, rfl, OwnA.none _ _, by omega,
      by first | exact HB1.out | exact ((HB1.out.setCell (by first | (simp; done) | (simp; omega)) _).setCell (by first | (simp; done) | (simp; omega)) _).setCell (by first | (simp; done) | (simp; omega)) _⟩
  case pos =>
    obtain ⟨b1, b2, b3, b4, b5, b6⟩ := sizeOk_bd hs
    obtain ⟨n, hn⟩ : ∃ n : Nat, (n : Int) = W * H := ⟨(W * H).toNat, by omega⟩
    have u1 : IntKind.i64.wrap (W * H) = (n : Int) := by rw [hn]; exact IntWalk.i64_in _ (by omega)
    have hn1 : 1 ≤ n := by omega
    have HQ := Lib.hid hn
    by_cases hm : n ≤ 256
    case neg =>
      have E : seedF W H e = (noPic, false) := by unfold seedF; rw [if_neg (fun h => hm (by have := h.2.1; omega))]
      rw [E]
      have HS := Lib.hid hs
      have hm2 : 256 < (n : Int) := by omega
      clear hs E hm hn b5 b6
      go_enter Try.func38, Try.ntmps38
      go_wp2_with fail
      refine (impl_isSize_yes _ _ _ HS.out).mono ?_
      rintro e2 w1 ⟨rfl, rfl⟩
      have KR1 := Lib.hid (Blk.new w 27 #[.int .i64 0, .int .i64 0, .slice none 0 0])
      have HB1 := Lib.hid (Joins.below_alloc1 w (.cells #[.int .i64 0, .int .i64 0, .slice none 0 0] 27))
      obtain ⟨r0, r1, r2, r3⟩ := KR1.out.c3
      obtain ⟨q0, q1, q2⟩ := KR1.out.f3
      go_wp2_with fail
      exact bodyPost_ret (v := .tuple #[.agg #[.int .i64 0, .int .i64 0, .slice none 0 0], .bool false]) (by simp [results, Try.results38, go_sem]) rfl ⟨none, 0, 0, rfl, OwnA.none _ _, by omega,
        by first | exact HB1.out | exact ((HB1.out.setCell (by first | (simp; done) | (simp; omega)) _).setCell (by first | (simp; done) | (simp; omega)) _).setCell (by first | (simp; done) | (simp; omega)) _⟩
    case pos =>
      have hm2 : (n : Int) ≤ 256 := by omega
      by_cases he : 1 ≤ e ∧ e ≤ 100
      case neg =>
        have E : seedF W H e = (noPic, false) := by unfold seedF; rw [if_neg (fun h => he h.2.2)]
        rw [E]
        have HS := Lib.hid hs
        have HE := Lib.hid he
        clear hs E hn b5 b6 hm he
        by_cases h0 : e < 1
        · clear HE
          go_enter Try.func38, Try.ntmps38
          go_wp2_with fail
          refine (impl_isSize_yes _ _ _ HS.out).mono ?_
          rintro e2 w1 ⟨rfl, rfl⟩
          have KR1 := Lib.hid (Blk.new w 27 #[.int .i64 0, .int .i64 0, .slice none 0 0])
          have HB1 := Lib.hid (Joins.below_alloc1 w (.cells #[.int .i64 0, .int .i64 0, .slice none 0 0] 27))
          obtain ⟨r0, r1, r2, r3⟩ := KR1.out.c3
          obtain ⟨q0, q1, q2⟩ := KR1.out.f3
          go_wp2_with fail
          exact bodyPost_ret (v := .tuple #[.agg #[.int .i64 0, .int .i64 0, .slice none 0 0], .bool false]) (by simp [results, Try.results38, go_sem]) rfl ⟨none, 0, 0, rfl, OwnA.none _ _, by omega,
            by first | exact HB1.out | exact ((HB1.out.setCell (by first | (simp; done) | (simp; omega)) _).setCell (by first | (simp; done) | (simp; omega)) _).setCell (by first | (simp; done) | (simp; omega)) _⟩
        · have h1 : 1 ≤ e := by omega
          have h2 : 100 < e := by have := HE.out; omega
          clear HE h0
          go_enter Try.func38, Try.ntmps38
          go_wp2_with fail
          refine (impl_isSize_yes _ _ _ HS.out).mono ?_
          rintro e2 w1 ⟨rfl, rfl⟩
          have KR1 := Lib.hid (Blk.new w 27 #[.int .i64 0, .int .i64 0, .slice none 0 0])
          have HB1 := Lib.hid (Joins.below_alloc1 w (.cells #[.int .i64 0, .int .i64 0, .slice none 0 0] 27))
          obtain ⟨r0, r1, r2, r3⟩ := KR1.out.c3
          obtain ⟨q0, q1, q2⟩ := KR1.out.f3
          go_wp2_with fail
          exact bodyPost_ret (v := .tuple #[.agg #[.int .i64 0, .int .i64 0, .slice none 0 0], .bool false]) (by simp [results, Try.results38, go_sem]) rfl ⟨none, 0, 0, rfl, OwnA.none _ _, by omega,
            by first | exact HB1.out | exact ((HB1.out.setCell (by first | (simp; done) | (simp; omega)) _).setCell (by first | (simp; done) | (simp; omega)) _).setCell (by first | (simp; done) | (simp; omega)) _⟩
      case pos =>
        have E : seedF W H e = (⟨W, H, gen n (fun i => if (i : Int) * 7 % e = 0 then 1 else 0)⟩, true) := by
          unfold seedF
          rw [if_pos ⟨hs, by omega, he.1, he.2⟩, show (W * H).toNat = n by omega]
        rw [E]
        obtain ⟨e1, e2⟩ := he
        have HS := Lib.hid hs
        clear hs E hn b5 b6 hm
        go_enter Try.func38, Try.ntmps38
        go_wp2_with fail
        refine (impl_isSize_yes _ _ _ HS.out).mono ?_
        rintro e3 w1 ⟨rfl, rfl⟩
        go_wp2_with fail
        all_goals (try (exfalso; omega))
        refine (impl_blank W H n _ HS.out HQ.out).mono ?_
        rintro e3 w2 ⟨g, rfl, hg, ho, hb⟩
        have KR := Lib.hid (((Blk.new w 27 #[.int .i64 0, .int .i64 0, .slice none 0 0]).below' hb).alloc (.cells #[.int .i64 W, .int .i64 H, .slice (some ⟨g, 0, none⟩) n n] 27))
        have KO := Lib.hid (Blk.new w2 27 #[.int .i64 W, .int .i64 H, .slice (some ⟨g, 0, none⟩) n n])
        have HO := Lib.hid (ho.alloc (.cells #[.int .i64 W, .int .i64 H, .slice (some ⟨g, 0, none⟩) n n] 27))
        have HB := Lib.hid (bAlloc (bTrans (Joins.below_alloc1 w _) hb) (.cells #[.int .i64 W, .int .i64 H, .slice (some ⟨g, 0, none⟩) n n] 27))
        have HG : Hid (w.heap.size < g ∧ g < w2.heap.size) := Lib.hid ⟨by simp at hg; omega, ho.lt⟩
        clear hg ho hb
        obtain ⟨w3, hw3⟩ : ∃ w3, w3 = w2.alloc (.cells #[.int .i64 W, .int .i64 H, .slice (some ⟨g, 0, none⟩) n n] 27) := ⟨_, rfl⟩
        obtain ⟨l0, o0, o1, o2⟩ := KO.out.c3
        go_wp2_with fail
        rw [← hw3] at KR KO HO HB l0 o0 o1 o2 ⊢
        clear hw3 l0 o0 o1 o2
        go_loopw [35] (fun i wr => ∃ k : Nat, k ≤ n ∧ i = .int .i64 k ∧ Hid (Own wr g n n (filled (gen n (fun i => if (i : Int) * 7 % e = 0 then 1 else 0)) (List.replicate n 0) k)) ∧ Hid (w3.grownBy wr (some g))) (fun i _ => n - (intOf i).toNat)
        case atStart => exact ⟨0, Nat.zero_le _, rfl, Lib.hid (by rw [filled_zero]; exact HO.out), Lib.hid (grown_refl _ _)⟩
        case round =>
          obtain ⟨k, hk, rfl, HK, HGR⟩ := hrel
          have KOr := Lib.hid (KO.out.grown HGR.out (by have := HG.out; intro e; have := Option.some.inj e; omega))
          obtain ⟨l0, o0, o1, o2⟩ := KOr.out.c3
          by_cases hlt : k < n
          · have u2 : IntKind.i64.wrap ((k : Int) * 7) = (k : Int) * 7 := IntWalk.i64_in _ (by omega)
            have z1 : ¬ e = 0 := by omega
            have z2 : (e == 0) = false := by simp; omega
            have u3 : ((k : Int) * 7).tmod e = (k : Int) * 7 % e := Int.tmod_eq_emod_of_nonneg (by omega)
            have m0 : 0 ≤ (k : Int) * 7 % e := Int.emod_nonneg _ z1
            have m1 : (k : Int) * 7 % e < e := Int.emod_lt_of_pos _ (by omega)
            have hs := filled_succ (gen n (fun i => if (i : Int) * 7 % e = 0 then 1 else 0)) (List.replicate n 0) k _ (by rw [gen_len]; exact hlt) (by simp; omega) (gen_get _ _ _ hlt)
            have h2c := HK.out.cell hlt
            have h3c := HK.out.frozen k
            have hx := filled_next (gen n (fun i => if (i : Int) * 7 % e = 0 then 1 else 0)) n k hlt (gen_len _ _)
            obtain ⟨R, hR⟩ : ∃ R, (k : Int) * 7 % e = R := ⟨_, rfl⟩
            rw [hR] at u3 m0 m1 hs
            have u4 : IntKind.i64.wrap R = R := IntWalk.i64_in _ (by omega)
            have FR := Lib.hid hR
            clear hR
            by_cases hz : R = 0
            · subst hz
              rw [if_pos rfl] at hs
              have HS2 := Lib.hid hs
              have HN2 := Lib.hid (HK.out.set k 1)
              clear hs hx
              go_wp2_with fail
              go_roundw
              case rel => exact ⟨k + 1, by omega, by go_num, Lib.hid (by rw [← HS2.out]; exact HN2.out), Lib.hid (grown_set HGR.out _)⟩
              case measure => simp [intOf]; omega
            · rw [if_neg hz] at hs
              have HS2 : Hid (filled (gen n (fun i => if (i : Int) * 7 % e = 0 then 1 else 0)) (List.replicate n 0) (k + 1) = filled (gen n (fun i => if (i : Int) * 7 % e = 0 then 1 else 0)) (List.replicate n 0) k) := Lib.hid (by rw [← hs, set_self hx])
              clear hs hx h2c h3c
              go_wp2_with fail
              go_roundw
              case rel => exact ⟨k + 1, by omega, by go_num, Lib.hid (by rw [HS2.out]; exact HK.out), HGR⟩
              case measure => simp [intOf]; omega
          · obtain rfl : k = n := by omega
            have HF : Hid (Own wr g k k (gen k (fun i => if (i : Int) * 7 % e = 0 then 1 else 0))) := Lib.hid (by have h := HK.out; rwa [filled_at _ _ _ (gen_len _ _) (by simp)] at h)
            have KRr := Lib.hid (KR.out.grown HGR.out (by have := HG.out; intro e; have := Option.some.inj e; omega))
            have HBr := Lib.hid (HB.out.grown HGR.out HB.out.size (by intro q hq; cases hq; have := HG.out; omega))
            obtain ⟨z0, r0, r1, r2⟩ := KRr.out.c3
            obtain ⟨f0, f1, f2⟩ := KRr.out.f3
            go_wp2_with fail
            exact bodyPost_ret (v := .tuple #[.agg #[.int .i64 W, .int .i64 H, .slice (some ⟨g, 0, none⟩) k k], .bool true]) (by simp [results, Try.results38, go_sem, r0, r1, r2]) rfl
              ⟨_, _, _, rfl, OwnA.mk (((HF.out.other (by have := HG.out; simp; omega) _).other (by have := HG.out; simp; omega) _).other (by have := HG.out; simp; omega) _) (by have := HG.out; omega), by omega,
                ((HBr.out.setCell (by first | (simp; done) | (simp; omega)) _).setCell (by first | (simp; done) | (simp; omega)) _).setCell (by first | (simp; done) | (simp; omega)) _⟩

end Go.Proofs.Ytmkpmdnipakmgaa
