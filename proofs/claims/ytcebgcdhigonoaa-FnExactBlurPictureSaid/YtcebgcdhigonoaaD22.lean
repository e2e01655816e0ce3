/-
  Contracts of chapter 4: BlurPicture (model).
-/
import Derived.Test.YtcebgcdhigonoaaM17
import Derived.Test.YtcebgcdhigonoaaD11b
import Derived.Test.YtcebgcdhigonoaaC4
namespace Go.Proofs.Ytcebgcdhigonoaa
open Go.RowKit
set_option linter.unusedVariables false
set_option linter.unusedSimpArgs false

set_option maxRecDepth 100000 in
set_option maxHeartbeats 6400000 in
theorem spec_BlurPicture (W H : Int) (ad : Option Addr) (n cap : Nat) (xs : List Int) (tw th : Int) (w : World) (hn : xs.length = n) (ha : Rd w ad xs) (hl : n ≤ 9223372036854775807) :
    Calls Try.prog 36 #[.agg #[.int .i64 W, .int .i64 H, .slice ad n cap], .int .i64 tw, .int .i64 th] w (PicOut2 w (blurF W H xs tw th)) := by
  have HN := Lib.hid hn
  have HA := Lib.hid ha
  clear hn ha
  by_cases hp : picOk W H xs 1 = true
  case neg =>
    have hp2 : picOk W H xs 1 = false := by simpa using hp
    rw [blurF_no (fun h => hp h.1)]
    clear hp
    go_enter Try.func36, Try.ntmps36
    go_wp2_with fail
    refine (spec_IsPlate _ _ _ _ _ xs _ HN.out (by exact (HA.out.alloc _).alloc _) hl).mono ?_
    rintro e w1 ⟨rfl, hb⟩
    have HB1 := Lib.hid ((Joins.below_alloc2 _ _ _).trans (hb.mono (by simp; omega)))
    have KP1 := Lib.hid (((Blk.new w 32 #[.int .i64 W, .int .i64 H, .slice ad n cap]).alloc _).below' hb)
    have KR1 : Hid (Blk w1 (w.heap.size + 1) 32 #[.int .i64 0, .int .i64 0, .slice none 0 0]) := by
      have h := (Blk.new (w.alloc (.cells #[.int .i64 W, .int .i64 H, .slice ad n cap] 32)) 32 #[.int .i64 0, .int .i64 0, .slice none 0 0]).below' hb
      exact Lib.hid (by simpa using h)
    obtain ⟨l1, c0, c1, c2⟩ := KP1.out.c3
    obtain ⟨m1, d0, d1, d2⟩ := KR1.out.c3
    obtain ⟨f0, f1, f2⟩ := KR1.out.f3
    clear hb
    rw [hp2]
    go_wp2_with fail
    exact bodyPost_ret (v := .tuple #[.agg #[.int .i64 0, .int .i64 0, .slice none 0 0], .bool false]) (by simp [results, Try.results36, go_sem, d0, d1, d2]) rfl ⟨none, 0, 0, rfl, OwnA.none _ _, by omega,
      ((HB1.out.setCell (by first | (simp; done) | (simp; omega)) _).setCell (by first | (simp; done) | (simp; omega)) _).setCell (by first | (simp; done) | (simp; omega)) _⟩
  case pos =>
    by_cases h1 : 1 ≤ tw ∧ tw ≤ 16
    case neg =>
      rw [blurF_no (fun h => h1 ⟨h.2.1, h.2.2.1⟩)]
      have HV := Lib.hid h1
      clear h1
      go_enter Try.func36, Try.ntmps36
      go_wp2_with fail
      refine (spec_IsPlate _ _ _ _ _ xs _ HN.out (by exact (HA.out.alloc _).alloc _) hl).mono ?_
      rintro e w1 ⟨rfl, hb⟩
      have HB1 := Lib.hid ((Joins.below_alloc2 _ _ _).trans (hb.mono (by simp; omega)))
      have KP1 := Lib.hid (((Blk.new w 32 #[.int .i64 W, .int .i64 H, .slice ad n cap]).alloc _).below' hb)
      have KR1 : Hid (Blk w1 (w.heap.size + 1) 32 #[.int .i64 0, .int .i64 0, .slice none 0 0]) := by
        have h := (Blk.new (w.alloc (.cells #[.int .i64 W, .int .i64 H, .slice ad n cap] 32)) 32 #[.int .i64 0, .int .i64 0, .slice none 0 0]).below' hb
        exact Lib.hid (by simpa using h)
      obtain ⟨l1, c0, c1, c2⟩ := KP1.out.c3
      obtain ⟨m1, d0, d1, d2⟩ := KR1.out.c3
      obtain ⟨f0, f1, f2⟩ := KR1.out.f3
      clear hb
      rw [hp]
      go_wp2_with fail
      refine (spec_l1In_no _ _ _ _ HV.out).mono ?_
      rintro e w2 ⟨rfl, rfl⟩
      go_wp2_with fail
      exact bodyPost_ret (v := .tuple #[.agg #[.int .i64 0, .int .i64 0, .slice none 0 0], .bool false]) (by simp [results, Try.results36, go_sem, d0, d1, d2]) rfl ⟨none, 0, 0, rfl, OwnA.none _ _, by omega,
        ((HB1.out.setCell (by first | (simp; done) | (simp; omega)) _).setCell (by first | (simp; done) | (simp; omega)) _).setCell (by first | (simp; done) | (simp; omega)) _⟩
    case pos =>
      obtain ⟨t1, t2⟩ := h1
      by_cases h2 : 1 ≤ th ∧ th ≤ 16
      case neg =>
        rw [blurF_no (fun h => h2 ⟨h.2.2.2.1, h.2.2.2.2⟩)]
        have HV := Lib.hid h2
        clear h2
        go_enter Try.func36, Try.ntmps36
        go_wp2_with fail
        refine (spec_IsPlate _ _ _ _ _ xs _ HN.out (by exact (HA.out.alloc _).alloc _) hl).mono ?_
        rintro e w1 ⟨rfl, hb⟩
        have HB1 := Lib.hid ((Joins.below_alloc2 _ _ _).trans (hb.mono (by simp; omega)))
        have KP1 := Lib.hid (((Blk.new w 32 #[.int .i64 W, .int .i64 H, .slice ad n cap]).alloc _).below' hb)
        have KR1 : Hid (Blk w1 (w.heap.size + 1) 32 #[.int .i64 0, .int .i64 0, .slice none 0 0]) := by
          have h := (Blk.new (w.alloc (.cells #[.int .i64 W, .int .i64 H, .slice ad n cap] 32)) 32 #[.int .i64 0, .int .i64 0, .slice none 0 0]).below' hb
          exact Lib.hid (by simpa using h)
        obtain ⟨l1, c0, c1, c2⟩ := KP1.out.c3
        obtain ⟨m1, d0, d1, d2⟩ := KR1.out.c3
        obtain ⟨f0, f1, f2⟩ := KR1.out.f3
        clear hb
        rw [hp]
        go_wp2_with fail
        refine (spec_l1In_yes _ _ _ _ t1 t2).mono ?_
        rintro e w2 ⟨rfl, rfl⟩
        go_wp2_with fail
        refine (spec_l1In_no _ _ _ _ HV.out).mono ?_
        rintro e w2 ⟨rfl, rfl⟩
        go_wp2_with fail
        exact bodyPost_ret (v := .tuple #[.agg #[.int .i64 0, .int .i64 0, .slice none 0 0], .bool false]) (by simp [results, Try.results36, go_sem, d0, d1, d2]) rfl ⟨none, 0, 0, rfl, OwnA.none _ _, by omega,
          ((HB1.out.setCell (by first | (simp; done) | (simp; omega)) _).setCell (by first | (simp; done) | (simp; omega)) _).setCell (by first | (simp; done) | (simp; omega)) _⟩
      case pos =>
        obtain ⟨t3, t4⟩ := h2
        obtain ⟨hs, hq, hi⟩ := picOk_bd HN.out hp
        obtain ⟨b1, b2, b3, b4, b5, b6⟩ := sizeOk_bd hs
        have HQ := Lib.hid hq
        have HI := Lib.hid hi
        have HS := Lib.hid hs
        have hn1 : 1 ≤ n := by omega
        have hn2 : n ≤ 1024 := by omega
        clear hq hi hs
        obtain ⟨W, rfl⟩ : ∃ k : Nat, W = (k : Int) := ⟨W.toNat, by omega⟩
        obtain ⟨H, rfl⟩ : ∃ k : Nat, H = (k : Int) := ⟨H.toNat, by omega⟩
        obtain ⟨tw, rfl⟩ : ∃ k : Nat, tw = (k : Int) := ⟨tw.toNat, by omega⟩
        obtain ⟨th, rfl⟩ : ∃ k : Nat, th = (k : Int) := ⟨th.toNat, by omega⟩
        rw [blurF_yes HN.out hp (by omega) (by omega) (by omega) (by omega)]
        have HNW : Hid (n = W * H) := Lib.hid (by have := HQ.out; have e : ((W : Int) * (H : Int)) = ((W * H : Nat) : Int) := by simp
                                                  omega)
        have HP := Lib.hid hp
        have HHi : H ≤ 64 := by omega
        clear b5 b6
        go_enter Try.func36, Try.ntmps36
        go_wp2_with fail
        refine (spec_IsPlate _ _ _ _ _ xs _ HN.out (by exact (HA.out.alloc _).alloc _) hl).mono ?_
        rintro e w1 ⟨rfl, hb⟩
        have HB1 := Lib.hid ((Joins.below_alloc2 _ _ _).trans (hb.mono (by simp; omega)))
        have KP1 := Lib.hid (((Blk.new w 32 #[.int .i64 W, .int .i64 H, .slice ad n cap]).alloc _).below' hb)
        have KR1 : Hid (Blk w1 (w.heap.size + 1) 32 #[.int .i64 0, .int .i64 0, .slice none 0 0]) := by
          have h := (Blk.new (w.alloc (.cells #[.int .i64 W, .int .i64 H, .slice ad n cap] 32)) 32 #[.int .i64 0, .int .i64 0, .slice none 0 0]).below' hb
          exact Lib.hid (by simpa using h)
        obtain ⟨l1, c0, c1, c2⟩ := KP1.out.c3
        obtain ⟨m1, d0, d1, d2⟩ := KR1.out.c3
        obtain ⟨f0, f1, f2⟩ := KR1.out.f3
        clear hb
        rw [hp]
        clear hp
        go_wp2_with fail
        refine (spec_l1In_yes _ _ _ _ t1 t2).mono ?_
        rintro e w2 ⟨rfl, rfl⟩
        go_wp2_with fail
        refine (spec_l1In_yes _ _ _ _ t3 t4).mono ?_
        rintro e w2 ⟨rfl, rfl⟩
        go_wp2_with fail
        obtain ⟨F, hF⟩ : ∃ F : List Int, F = gen n (blurG W H xs tw th) := ⟨_, rfl⟩
        have HF := Lib.hid hF
        have HFL : Hid (F.length = n) := Lib.hid (by rw [hF]; exact gen_len _ _)
        clear hF
        refine (spec_l1Empty W H n _ HS.out HQ.out).mono ?_
        rintro e w2 ⟨g, rfl, hg, ho, hb⟩
        have HB2 := Lib.hid hb
        have HO := Lib.hid ho
        have HG := Lib.hid hg
        have KP2 := Lib.hid (KP1.out.below' hb)
        clear hb ho hg c0 c1 c2 d0 d1 d2 f0 f1 f2 l1 m1
        obtain ⟨l9, p0, p1, p2⟩ := KP2.out.c3
        go_wp2_with fail
        go_loopw [36] (fun i wr => ∃ k : Nat, k ≤ n ∧ i = .int .i64 k ∧ Own wr g n n (filled F (List.replicate n 0) k) ∧ Blk wr w2.heap.size 32 #[.int .i64 W, .int .i64 H, .slice (some ⟨g, 0, none⟩) n n] ∧ Below w1.heap.size w1 wr) (fun i _ => n - (intOf i).toNat)
        case atStart => exact ⟨0, Nat.zero_le _, rfl, by rw [filled_zero]; exact HO.out.alloc _, Blk.new _ _ _, bAlloc HB2.out _⟩
        case round =>
          clear p0 p1 p2 l9
          obtain ⟨k, hk, rfl, ho, hbx, hnx⟩ := hrel
          have HW := Lib.hid hnx
          have HO2 := Lib.hid ho
          have KB := Lib.hid hbx
          have HBk := Lib.hid (bTrans HB1.out hnx)
          have KPk := Lib.hid (KP1.out.below' hnx)
          obtain ⟨l9, p0, p1, p2⟩ := KPk.out.c3
          obtain ⟨l0, o0, o1, o2⟩ := KB.out.c3
          clear ho hbx hnx
          by_cases hlt : k < n
          · obtain ⟨P, hP⟩ : ∃ P, P = tw * th := ⟨_, rfl⟩
            have hP1 : 1 ≤ P := by rw [hP]; exact Nat.mul_le_mul (show 1 ≤ tw by omega) (show 1 ≤ th by omega)
            have hP2 : P ≤ 256 := by rw [hP]; exact Nat.mul_le_mul (show tw ≤ 16 by omega) (show th ≤ 16 by omega)
            have eP : (tw : Int) * (th : Int) = (P : Int) := by rw [hP]; simp
            have EP := Lib.hid eP
            have hPP := Lib.hid hP
            have mul0 : 0 ≤ (tw : Int) * (th : Int) := by rw [eP]; omega
            have mul1 : (tw : Int) * (th : Int) ≤ 256 := by rw [eP]; omega
            clear hP eP
            go_wp2_with fail
            go_loopw [10, 11] (fun s jv wr => ∃ j : Nat, j ≤ P ∧ jv = .int .i64 j ∧ s = .int .i64 (blurS W H xs tw k j) ∧ Own wr g n n (filled F (List.replicate n 0) k) ∧ Blk wr w2.heap.size 32 #[.int .i64 W, .int .i64 H, .slice (some ⟨g, 0, none⟩) n n] ∧ Below w1.heap.size w1 wr) (fun _ jv _ => P - (intOf jv).toNat)
            case atStart => exact ⟨0, Nat.zero_le _, rfl, rfl, HO2.out, KB.out, HW.out⟩
            case round =>
              clear p0 p1 p2 l9 o0 o1 o2 l0
              obtain ⟨j, hj, rfl, rfl, ho, hbx, hnx⟩ := hrel
              have HW4 := Lib.hid hnx
              have HO4 := Lib.hid ho
              have KB4 := Lib.hid hbx
              have KP4 := Lib.hid (KP1.out.below' hnx)
              have HB4 := Lib.hid (bTrans HB1.out hnx)
              obtain ⟨l9, p0, p1, p2⟩ := KP4.out.c3
              obtain ⟨l0, o0, o1, o2⟩ := KB4.out.c3
              obtain ⟨b0, b1⟩ := blurS_bd (W := W) (H := H) (w := tw) (i := k) (xs := xs) (picOk_bd HN.out HP.out).2.2 j
              obtain ⟨T, hT⟩ : ∃ T, T = blurS W H xs tw k j := ⟨_, rfl⟩
              rw [← hT] at b0 b1 ⊢
              have b2 : T ≤ 256 := by omega
              have HT := Lib.hid hT
              clear b1 hT ho hbx hnx
              by_cases hjt : j < P
              · have hjp : (j : Int) < (tw : Int) * (th : Int) := by rw [EP.out]; omega
                obtain ⟨X, hX⟩ : ∃ X, X = k % W := ⟨_, rfl⟩
                obtain ⟨Y, hY⟩ : ∃ Y, Y = k / W := ⟨_, rfl⟩
                obtain ⟨c, hc⟩ : ∃ c, c = j % tw := ⟨_, rfl⟩
                obtain ⟨r, hr⟩ : ∃ r, r = j / tw := ⟨_, rfl⟩
                obtain ⟨x, hx⟩ : ∃ x, x = (X + c) % W := ⟨_, rfl⟩
                obtain ⟨y, hy⟩ : ∃ y, y = (Y + r) % H := ⟨_, rfl⟩
                have hX1 : X < W := by rw [hX]; exact Nat.mod_lt _ (by omega)
                have hY1 : Y ≤ 1024 := by rw [hY]; exact Nat.le_trans (Nat.div_le_self _ _) (by omega)
                have hc1 : c < tw := by rw [hc]; exact Nat.mod_lt _ (by omega)
                have hr1 : r ≤ 256 := by rw [hr]; exact Nat.le_trans (Nat.div_le_self _ _) (by omega)
                have hx1 : x < W := by rw [hx]; exact Nat.mod_lt _ (by omega)
                have hy1 : y < H := by rw [hy]; exact Nat.mod_lt _ (by omega)
                obtain ⟨xc, hxc⟩ : ∃ xc, xc = X + c := ⟨_, rfl⟩
                obtain ⟨yr, hyr⟩ : ∃ yr, yr = Y + r := ⟨_, rfl⟩
                have tX : (k : Int).tmod (W : Int) = (X : Int) := by rw [Int.tmod_eq_emod_of_nonneg (by omega), hX]; simp
                have tc : (j : Int).tmod (tw : Int) = (c : Int) := by rw [Int.tmod_eq_emod_of_nonneg (by omega), hc]; simp
                have wxc : IntKind.i64.wrap ((X : Int) + (c : Int)) = (xc : Int) := by rw [IntWalk.i64_in _ (by omega), hxc]; simp
                have tx : (xc : Int).tmod (W : Int) = (x : Int) := by rw [Int.tmod_eq_emod_of_nonneg (by omega), hx, hxc]; simp
                have tY : (k : Int).tdiv (W : Int) = (Y : Int) := by rw [Int.tdiv_eq_ediv_of_nonneg (by omega), hY]; simp
                have wY : IntKind.i64.wrap (Y : Int) = (Y : Int) := IntWalk.i64_in _ (by omega)
                have tr : (j : Int).tdiv (tw : Int) = (r : Int) := by rw [Int.tdiv_eq_ediv_of_nonneg (by omega), hr]; simp
                have wr1 : IntKind.i64.wrap (r : Int) = (r : Int) := IntWalk.i64_in _ (by omega)
                have wyr : IntKind.i64.wrap ((Y : Int) + (r : Int)) = (yr : Int) := by rw [IntWalk.i64_in _ (by omega), hyr]; simp
                have ty : (yr : Int).tmod (H : Int) = (y : Int) := by rw [Int.tmod_eq_emod_of_nonneg (by omega), hy, hyr]; simp
                have z1 : ((W : Int) == 0) = false := by simp; omega
                have z2 : ¬ (W : Int) = 0 := by omega
                have z3 : ((tw : Int) == 0) = false := by simp; omega
                have z4 : ¬ (tw : Int) = 0 := by omega
                have z5 : ((H : Int) == 0) = false := by simp; omega
                have z6 : ¬ (H : Int) = 0 := by omega
                have hrow : y * W + W ≤ n := by
                  have e : (y + 1) * W ≤ H * W := Nat.mul_le_mul_right W (by omega)
                  rw [Nat.add_mul, Nat.one_mul, Nat.mul_comm H W, ← HNW.out] at e
                  exact e
                have eidx : (y : Int) * (W : Int) = ((y * W : Nat) : Int) := by simp
                have i0 : 0 ≤ (y : Int) * (W : Int) := by rw [eidx]; omega
                have i1 : (y : Int) * (W : Int) + (x : Int) < (n : Int) := by rw [eidx]; omega
                have i2 : (y : Int) * (W : Int) ≤ 1024 := by rw [eidx]; omega
                have eix : ((y : Int) * (W : Int) + (x : Int)).toNat = y * W + x := by rw [eidx]; omega
                obtain ⟨v, hv⟩ : ∃ v, v = xs.getD (y * W + x) 0 := ⟨_, rfl⟩
                have hvb := getD_bd (picOk_bd HN.out HP.out).2.2 (by omega) (y * W + x)
                rw [← hv] at hvb
                obtain ⟨v0, v1⟩ := hvb
                obtain ⟨ba, oa, hae, hal, hac⟩ := (HA.out.below HB4.out).at (by have := HN.out; omega)
                have h1 : wr.cell? ⟨ba, oa + ((y : Int) * (W : Int) + (x : Int)).toNat, none⟩ = some (.int .i64 v) := by
                  rw [eix, hv]
                  exact hac _ (by have := HN.out; omega)
                have h1' : wr.cell? ⟨ba, oa + (y * W + x), none⟩ = some (.int .i64 v) := by
                  rw [hv]
                  exact hac _ (by have := HN.out; omega)
                subst hae
                have hTS : Hid (T + v = blurS W H xs tw k (j + 1)) := Lib.hid (by
                  rw [HT.out, hv, hy, hx, hX, hY, hc, hr]
                  rfl)
                have TX := Lib.hid tX
                have TC := Lib.hid tc
                have WXC := Lib.hid wxc
                have TXX := Lib.hid tx
                have TY := Lib.hid tY
                have WY := Lib.hid wY
                have TR := Lib.hid tr
                have WR := Lib.hid wr1
                have WYR := Lib.hid wyr
                have TYY := Lib.hid ty
                clear hac hX hY hc hr hx hy hxc hyr tX tc wxc tx tY wY tr wr1 wyr ty eidx eix hv hrow
                go_wp2_with fail
                have tX := TX.out
                have tc := TC.out
                have wxc := WXC.out
                have tx := TXX.out
                go_region
                clear tX tc wxc tx
                go_wp2_with fail
                have tY := TY.out
                have wY := WY.out
                have tr := TR.out
                have wr1 := WR.out
                have wyr := WYR.out
                have ty := TYY.out
                go_region
                clear tY wY tr wr1 wyr ty
                go_wp2_with fail
                go_roundw
                case rel => exact ⟨j + 1, by omega, by go_num, by rw [← hTS.out], by first | exact HO4.out.drewN 2 | exact (HO4.out.drewN 1).drewN 1 | exact HO4.out.drewN _, by first | exact KB4.out.drewN 2 | exact KB4.out.drew.drew, by exact HW4.out.drew.drew⟩
                case measure => simp [intOf]; omega
              · obtain rfl : j = P := by omega
                have hjp : ¬ (j : Int) < (tw : Int) * (th : Int) := by rw [EP.out]; omega
                obtain ⟨G, hG⟩ : ∃ G, G = blurG W H xs tw th k := ⟨_, rfl⟩
                have hGb := blurG_bd (W := W) (H := H) (w := tw) (h := th) (i := k) (xs := xs) (picOk_bd HN.out HP.out).2.2 (by rw [← hPP.out]; exact hP1)
                rw [← hG] at hGb
                obtain ⟨g0, g1⟩ := hGb
                have mP : IntKind.i64.wrap ((tw : Int) * (th : Int)) = (j : Int) := by rw [EP.out]; exact IntWalk.i64_in _ (by omega)
                have mT : IntKind.i64.wrap (255 * T) = 255 * T := IntWalk.i64_in _ (by omega)
                have tG : (255 * T).tdiv (j : Int) = G := by rw [Int.tdiv_eq_ediv_of_nonneg (by omega), hG, HT.out, hPP.out]; rfl
                have wG : IntKind.i64.wrap G = G := IntWalk.i64_in _ (by omega)
                have zP : ((j : Int) == 0) = false := by simp; omega
                have zQ : ¬ (j : Int) = 0 := by omega
                have hs := HO4.out.set k G
                rw [filled_succ F _ k _ (by rw [HFL.out]; exact hlt) (by simp; omega) (by rw [HF.out, gen_get _ _ _ hlt, hG])] at hs
                have HSt := Lib.hid hs
                have g2 := HO4.out.cell hlt
                have g3 := HO4.out.frozen k
                have N1 : g ≠ w2.heap.size := by have := HO.out.lt; omega
                have MP := Lib.hid mP
                have MT := Lib.hid mT
                have TG := Lib.hid tG
                have WG := Lib.hid wG
                clear hs hG mP mT tG wG
                go_wp2_with fail
                have mP := MP.out
                have mT := MT.out
                have tG := TG.out
                have wG := WG.out
                go_region
                clear mP mT tG wG
                go_wp2_with fail
                go_roundw
                case rel => exact ⟨k + 1, by omega, by go_num, by first | exact HSt.out.drewN 1 | exact HSt.out, by first | exact (KB4.out.other (by simp; omega) _).drew | exact KB4.out.drew.other (by simp; omega) _, by first | exact (HW4.out.setCell (by simp; exact HG.out) _).drew | exact HW4.out.drew.setCell (by simp; exact HG.out) _⟩
                case measure => simp [intOf]; omega
          · obtain rfl : n = k := by omega
            have KR := Lib.hid (KR1.out.below' HW.out)
            obtain ⟨r0, r1, r2, r3⟩ := KR.out.c3
            obtain ⟨q0, q1, q2⟩ := KR.out.f3
            have ho := HO2.out
            rw [filled_at F _ n HFL.out (by simp)] at ho
            have HO3 := Lib.hid ho
            have hg1 : w.heap.size + 1 < g := by have := HG.out; have := KR1.out.lt; omega
            clear ho
            go_wp2_with fail
            rw [← HF.out]
            exact bodyPost_ret (v := .tuple #[.agg #[.int .i64 W, .int .i64 H, .slice (some ⟨g, 0, none⟩) n n], .bool true]) (by simp [results, Try.results36, go_sem, r0, r1, r2, r3]) rfl
              ⟨_, _, _, rfl, OwnA.mk (((HO3.out.other (by simp; omega) _).other (by simp; omega) _).other (by simp; omega) _) (by omega), by omega,
                ((HBk.out.setCell (by simp) _).setCell (by simp) _).setCell (by simp) _⟩

end Go.Proofs.Ytcebgcdhigonoaa
