/-
  Contracts of chapter 4: TileSums (program).
-/
import Derived.Test.YtgepjfdnlnemjaaD17
import Derived.Deep.RegionWith
namespace Go.Proofs.Ytgepjfdnlnemjaa
open Go.RowKit
set_option linter.unusedVariables false
set_option linter.unusedSimpArgs false

theorem tiles_le {W H w h n : Nat} (hn : n = W * H) : W / w * (H / h) ≤ n := by
  subst hn
  exact Nat.mul_le_mul (Nat.div_le_self _ _) (Nat.div_le_self _ _)

/-- The k-th of the tiles lies in the picture. -/
theorem tile_in {W H w h k : Nat} (hw : 1 ≤ w) (hh : 1 ≤ h) (hk : k < W / w * (H / h)) :
    k % (W / w) * w + w ≤ W ∧ k / (W / w) * h + h ≤ H ∧ 1 ≤ W / w ∧ k % (W / w) < W / w ∧ k / (W / w) < H / h := by
  have h1 : 1 ≤ W / w := by
    rcases Nat.eq_zero_or_pos (W / w) with e | e
    · rw [e, Nat.zero_mul] at hk; omega
    · exact e
  have h2 : k % (W / w) < W / w := Nat.mod_lt _ (by omega)
  have h3 : k / (W / w) < H / h := Nat.div_lt_of_lt_mul hk
  have a1 : (k % (W / w) + 1) * w ≤ W / w * w := Nat.mul_le_mul_right _ (by omega)
  have a2 : W / w * w ≤ W := Nat.div_mul_le_self _ _
  have a3 : (k / (W / w) + 1) * h ≤ H / h * h := Nat.mul_le_mul_right _ (by omega)
  have a4 : H / h * h ≤ H := Nat.div_mul_le_self _ _
  rw [Nat.add_mul, Nat.one_mul] at a1 a3
  refine ⟨by omega, by omega, h1, h2, h3⟩

theorem set_self {xs : List Int} {k : Nat} {v : Int} (h : xs[k]?.getD 0 = v) (hk : k < xs.length) : xs.set k v = xs := by
  apply List.ext_getElem?
  intro i
  rw [List.getElem?_set]
  by_cases e : k = i
  · subst e
    rw [if_pos rfl, if_pos hk]
    rw [List.getElem?_eq_getElem hk] at h ⊢
    simp at h
    rw [h]
  · rw [if_neg e]

theorem filled_at0 {ys xs : List Int} {k : Nat} (h1 : k ≤ ys.length) (h2 : k < xs.length) : (filled ys xs k)[k]?.getD 0 = xs[k]?.getD 0 := by
  simp only [filled]
  rw [List.getElem?_append_right (by simp; omega), List.getElem?_drop, List.length_take, Nat.min_eq_left h1, Nat.sub_self, Nat.add_zero]

theorem within_sub {xs : List Int} {m : Int} (h : within xs m = true) (s l : Nat) : within ((xs.drop s).take l) m = true := by
  unfold within at h ⊢
  rw [List.all_eq_true] at h ⊢
  intro v hv
  exact h v (List.mem_of_mem_drop (List.mem_of_mem_take hv))

set_option maxRecDepth 100000 in
set_option maxHeartbeats 6400000 in
theorem impl_TileSums (W H : Int) (ad : Option Addr) (n cap : Nat) (xs : List Int) (tw th : Int) (w : World) (hn : xs.length = n) (ha : Rd w ad xs) (hc : n ≤ cap) (hc2 : cap ≤ 9223372036854775807) (hw2 : tw ≤ 9223372036854775807) (hh2 : th ≤ 9223372036854775807) :
    Calls Try.prog 15 #[.agg #[.int .i64 W, .int .i64 H, .slice ad n cap], .int .i64 tw, .int .i64 th] w (IntsOut w (tileSumsF W H xs tw th)) := by
  have hl : n ≤ 9223372036854775807 := by omega
  have HN := Lib.hid hn
  have HA := Lib.hid ha
  clear hn ha
  by_cases hp : picOk W H xs 255 = true
  case neg =>
    have hp2 : picOk W H xs 255 = false := by simpa using hp
    rw [tileSumsF_no (fun h => hp h.1)]
    clear hp
    go_enter Try.func15, Try.ntmps15
    go_wp2_with fail
    refine (impl_IsPicture _ _ _ _ _ xs _ HN.out (by exact HA.out.alloc _) hl).mono ?_
    rintro e w1 ⟨rfl, hb⟩
    have HB1 := Lib.hid ((Joins.below_alloc1 _ _).trans (hb.mono (by simp)))
    have KP1 := Lib.hid ((Blk.new w 30 #[.int .i64 W, .int .i64 H, .slice ad n cap]).below' hb)
    obtain ⟨l1, c0, c1, c2⟩ := KP1.out.c3
    clear hb
    rw [hp2]
    go_wp2_with fail
    go_ret
    exact ⟨_, _, _, rfl, OwnA.none _ _, by omega, HB1.out⟩
  case pos =>
    by_cases h1 : 1 ≤ tw
    case neg =>
      rw [tileSumsF_no (fun h => h1 h.2.1)]
      have hz : tw < 1 := by omega
      go_enter Try.func15, Try.ntmps15
      go_wp2_with fail
      refine (impl_IsPicture _ _ _ _ _ xs _ HN.out (by exact HA.out.alloc _) hl).mono ?_
      rintro e w1 ⟨rfl, hb⟩
      have HB1 := Lib.hid ((Joins.below_alloc1 _ _).trans (hb.mono (by simp)))
      have KP1 := Lib.hid ((Blk.new w 30 #[.int .i64 W, .int .i64 H, .slice ad n cap]).below' hb)
      obtain ⟨l1, c0, c1, c2⟩ := KP1.out.c3
      clear hb
      rw [hp]
      go_wp2_with fail
      go_ret
      exact ⟨_, _, _, rfl, OwnA.none _ _, by omega, HB1.out⟩
    case pos =>
      by_cases h2 : 1 ≤ th
      case neg =>
        rw [tileSumsF_no (fun h => h2 h.2.2)]
        have hz : th < 1 := by omega
        go_enter Try.func15, Try.ntmps15
        go_wp2_with fail
        refine (impl_IsPicture _ _ _ _ _ xs _ HN.out (by exact HA.out.alloc _) hl).mono ?_
        rintro e w1 ⟨rfl, hb⟩
        have HB1 := Lib.hid ((Joins.below_alloc1 _ _).trans (hb.mono (by simp)))
        have KP1 := Lib.hid ((Blk.new w 30 #[.int .i64 W, .int .i64 H, .slice ad n cap]).below' hb)
        obtain ⟨l1, c0, c1, c2⟩ := KP1.out.c3
        clear hb
        rw [hp]
        go_wp2_with fail
        go_ret
        exact ⟨_, _, _, rfl, OwnA.none _ _, by omega, HB1.out⟩
      case pos =>
        obtain ⟨hs, hq, hi⟩ := picOk_bd HN.out hp
        obtain ⟨b1, b2, b3, b4, b5, b6⟩ := sizeOk_bd hs
        have HQ := Lib.hid hq
        have HI := Lib.hid hi
        have HS := Lib.hid hs
        have hn1 : 1 ≤ n := by omega
        have hn2 : n ≤ 1024 := by omega
        clear hq hi hs
        obtain ⟨W, rfl⟩ : ∃ k : Nat, W = (k : Int) := ⟨W.toNat, by omega⟩
        obtain ⟨H, rfl⟩ : ∃ k : Nat, H = (k : Int) := ⟨H.toNat, by omega⟩
        obtain ⟨tw, rfl⟩ : ∃ k : Nat, tw = (k : Int) := ⟨tw.toNat, by omega⟩
        obtain ⟨th, rfl⟩ : ∃ k : Nat, th = (k : Int) := ⟨th.toNat, by omega⟩
        rw [tileSumsF_yes hp (by omega) (by omega)]
        have HNW : Hid (n = W * H) := Lib.hid (by have := HQ.out; have e : ((W : Int) * (H : Int)) = ((W * H : Nat) : Int) := by simp
                                                  omega)
        obtain ⟨C, hC⟩ : ∃ C, C = W / tw := ⟨_, rfl⟩
        obtain ⟨R, hR⟩ : ∃ R, R = H / th := ⟨_, rfl⟩
        have hC1 : C ≤ 64 := by rw [hC]; exact Nat.le_trans (Nat.div_le_self _ _) (by omega)
        have hR1 : R ≤ 64 := by rw [hR]; exact Nat.le_trans (Nat.div_le_self _ _) (by omega)
        obtain ⟨N, hN⟩ : ∃ N, N = C * R := ⟨_, rfl⟩
        have hN1 : N ≤ n := by rw [hN, hC, hR]; exact tiles_le HNW.out
        have tC : (W : Int).tdiv (tw : Int) = (C : Int) := by rw [Int.tdiv_eq_ediv_of_nonneg (by omega), hC]; simp
        have tR : (H : Int).tdiv (th : Int) = (R : Int) := by rw [Int.tdiv_eq_ediv_of_nonneg (by omega), hR]; simp
        have wC : IntKind.i64.wrap (C : Int) = (C : Int) := IntWalk.i64_in _ (by omega)
        have wR : IntKind.i64.wrap (R : Int) = (R : Int) := IntWalk.i64_in _ (by omega)
        have z1 : ((tw : Int) == 0) = false := by simp; omega
        have z2 : ((th : Int) == 0) = false := by simp; omega
        have z3 : ¬ (tw : Int) = 0 := by omega
        have z4 : ¬ (th : Int) = 0 := by omega
        rw [← hC, ← hR, ← hN]
        obtain ⟨F, hF⟩ : ∃ F : List Int, F = gen N (fun i => tileS W xs (i % C * tw) (i / C * th) tw th) := ⟨_, rfl⟩
        rw [← hF]
        have HF := Lib.hid hF
        have HFL : Hid (F.length = N) := Lib.hid (by rw [hF]; exact gen_len _ _)
        clear hF
        have HC := Lib.hid hC
        have HR := Lib.hid hR
        have HCR := Lib.hid hN
        have TC := Lib.hid tC
        have TR := Lib.hid tR
        have WC := Lib.hid wC
        have WR := Lib.hid wR
        have HLI : Hid ((C : Int) * (R : Int) = ((N : Nat) : Int)) := Lib.hid (by rw [hN]; simp)
        have b7 : 0 ≤ (C : Int) * (R : Int) := by rw [HLI.out]; omega
        have b8 : (C : Int) * (R : Int) ≤ 1024 := by rw [HLI.out]; omega
        clear hC hR hN tC tR wC wR b5 b6
        go_enter Try.func15, Try.ntmps15
        go_wp2_with fail
        refine (impl_IsPicture _ _ _ _ _ xs _ HN.out (by exact HA.out.alloc _) hl).mono ?_
        rintro e w1 ⟨rfl, hb⟩
        have HB1 := Lib.hid ((Joins.below_alloc1 _ _).trans (hb.mono (by simp)))
        have KP1 := Lib.hid ((Blk.new w 30 #[.int .i64 W, .int .i64 H, .slice ad n cap]).below' hb)
        obtain ⟨l1, c0, c1, c2⟩ := KP1.out.c3
        clear hb
        rw [hp]
        clear hp
        go_wp2_with fail
        have tC := TC.out
        have tR := TR.out
        have wC := WC.out
        have wR := WR.out
        go_region
        clear tC tR wC wR
        go_wp2_with (at_make; refine wp_make _ rfl _ _ rfl .i64 .i64 _ _ N rfl rfl HLI.out HLI.out (by omega) ?_; intro M hM)
        have HM := Lib.hid hM
        clear hM
        go_loopw [39] (fun i wr => ∃ k : Nat, k ≤ N ∧ i = .int .i64 k ∧ Own wr w1.heap.size N N (filled F (List.replicate N 0) k) ∧ Below w1.heap.size w1 wr) (fun i _ => N - (intOf i).toNat)
        case atStart => exact ⟨0, Nat.zero_le _, rfl, by rw [filled_zero]; exact HM.out.own _, (Joins.below_alloc1 _ _).drew⟩
        case round =>
          obtain ⟨k, hk, rfl, ho, hnx⟩ := hrel
          have HNX := Lib.hid hnx
          have HO := Lib.hid ho
          have HBr := Lib.hid (bTrans HB1.out hnx)
          clear ho hnx
          by_cases hlt : k < N
          · obtain ⟨i1, i2, i3, i4, i5⟩ := tile_in (W := W) (H := H) (w := tw) (h := th) (k := k) (by omega) (by omega) (by rw [← HC.out, ← HR.out, ← HCR.out]; exact hlt)
            rw [← HC.out] at i1 i2 i3 i4 i5
            obtain ⟨X, hX⟩ : ∃ X, X = k % C := ⟨_, rfl⟩
            obtain ⟨Y, hY⟩ : ∃ Y, Y = k / C := ⟨_, rfl⟩
            obtain ⟨x, hx⟩ : ∃ x, x = X * tw := ⟨_, rfl⟩
            obtain ⟨y, hy⟩ : ∃ y, y = Y * th := ⟨_, rfl⟩
            rw [← hX, ← hx] at i1
            rw [← hY, ← hy] at i2
            have tX : (k : Int).tmod (C : Int) = (X : Int) := by rw [Int.tmod_eq_emod_of_nonneg (by omega), hX]; simp
            have tY : (k : Int).tdiv (C : Int) = (Y : Int) := by rw [Int.tdiv_eq_ediv_of_nonneg (by omega), hY]; simp
            have hY1 : Y ≤ 1024 := by rw [hY]; exact Nat.le_trans (Nat.div_le_self _ _) (by omega)
            have wY : IntKind.i64.wrap (Y : Int) = (Y : Int) := IntWalk.i64_in _ (by omega)
            have mX : IntKind.i64.wrap ((X : Int) * (tw : Int)) = (x : Int) := by rw [← Int.natCast_mul, ← hx]; exact IntWalk.i64_in _ (by omega)
            have mY : IntKind.i64.wrap ((Y : Int) * (th : Int)) = (y : Int) := by rw [← Int.natCast_mul, ← hy]; exact IntWalk.i64_in _ (by omega)
            have z5 : ((C : Int) == 0) = false := by simp; omega
            have z6 : ¬ (C : Int) = 0 := by omega
            have HT : Hid (F[k]?.getD 0 = tileS W xs x y tw th) := Lib.hid (by rw [HF.out, show (gen N (fun i => tileS W xs (i % C * tw) (i / C * th) tw th))[k]?.getD 0 = tileS W xs (k % C * tw) (k / C * th) tw th from gen_get N _ k hlt, hx, hy, hX, hY])
            have TX := Lib.hid tX
            have TY := Lib.hid tY
            have WY := Lib.hid wY
            have MX := Lib.hid mX
            have MY := Lib.hid mY
            clear hX hY hx hy tX tY wY mX mY i4 i5
            go_wp2_with fail
            have tX := TX.out
            have tY := TY.out
            have wY := WY.out
            have mX := MX.out
            have mY := MY.out
            go_region
            clear tX tY wY mX mY
            go_wp2_with fail
            go_loopw [53] (fun i wz => ∃ q : Nat, q ≤ th ∧ i = .int .i64 q ∧ Own wz w1.heap.size N N ((filled F (List.replicate N 0) k).set k (tileS W xs x y tw q)) ∧ Below w1.heap.size w1 wz) (fun i _ => th - (intOf i).toNat)
            case atStart =>
              refine ⟨0, Nat.zero_le _, rfl, ?_, HNX.out.drew⟩
              rw [set_self (v := tileS W xs x y tw 0) (by rw [filled_at0 (by rw [HFL.out]; exact hk) (by simpa using hlt)]; simp [hlt, tileS, sumR]) (by rw [HO.out.len]; exact hlt)]
              exact HO.out.drewN 1
            case round =>
              obtain ⟨q, hq, rfl, ho, hnx⟩ := hrel
              have HZ := Lib.hid hnx
              have HOz := Lib.hid ho
              have HBz := Lib.hid (bTrans HB1.out hnx)
              have KP := Lib.hid (KP1.out.below' hnx)
              obtain ⟨l9, p0, p1, p2⟩ := KP.out.c3
              by_cases hqt : q < th
              · obtain ⟨T, hT⟩ : ∃ T, T = tileS W xs x y tw q := ⟨_, rfl⟩
                obtain ⟨S, hS⟩ : ∃ S, S = winS xs ((y + q) * W + x) tw := ⟨_, rfl⟩
                have hTS : T + S = tileS W xs x y tw (q + 1) := by rw [hT, hS]; rfl
                have hTb := tileS_bd HI.out HN.out HNW.out i1 i2 q (by omega)
                have hSb := winS_bd HI.out ((y + q) * W + x) tw (by rw [HN.out]; exact row_in HNW.out i1 i2 hqt)
                have hrow : (y + q) * W + W ≤ n := by
                  have e : (y + q + 1) * W ≤ H * W := Nat.mul_le_mul_right W (by omega)
                  rw [Nat.add_mul, Nat.one_mul, Nat.mul_comm H W, ← HNW.out] at e
                  exact e
                have hTb2 : tileS W xs x y tw q ≤ 255 * 64 * 64 := by
                  refine Int.le_trans hTb.2 ?_
                  exact Int.mul_le_mul (by omega) (by omega) (by omega) (by omega)
                rw [← hT] at hTb hTb2
                rw [← hS] at hSb
                obtain ⟨s0, s1⟩ := hSb
                have s2 : S ≤ 16320 := by omega
                have t0 := hTb.1
                clear hTb s1
                have g2 : wr.cell? ⟨w1.heap.size, k, none⟩ = some (.int .i64 T) := by
                  have h := ho.cell hlt
                  rw [hT, h]
                  congr 2
                  simp only [List.getD]
                  rw [List.getElem?_set_self (by rw [HO.out.len]; exact hlt)]
                  rfl
                have g3 : wr.frozen? ⟨w1.heap.size, k, none⟩ = false := ho.frozen k
                have gl := ho.lt
                obtain ⟨ba, oa, hae, hal, hac⟩ := HA.out.at (by have := HN.out; omega)
                subst hae
                obtain ⟨yq, hyq⟩ : ∃ yq, yq = y + q := ⟨_, rfl⟩
                rw [← hyq] at hrow
                have RW : Hid (Rd wr (some ⟨ba, oa + yq * W + x, none⟩) ((xs.drop (yq * W + x)).take tw)) := Lib.hid (by have h := rd_window (HA.out.below HBz.out) (yq * W + x) tw; rw [← Nat.add_assoc] at h; exact h)
                have WS : Hid (isum ((xs.drop (yq * W + x)).take tw) = S) := Lib.hid (by rw [hS, hyq]; rfl)
                have LW : Hid (((xs.drop (yq * W + x)).take tw).length = tw) := Lib.hid (by rw [List.length_take, List.length_drop, HN.out]; omega)
                have hyi : IntKind.i64.wrap ((y : Int) + (q : Int)) = (yq : Int) := by rw [IntWalk.i64_in _ (by omega), hyq]; simp
                have HYI := Lib.hid hyi
                have hsum : IntKind.i64.wrap (T + S) = T + S := IntWalk.i64_in _ (by omega)
                have HSU := Lib.hid hsum
                have HTS := Lib.hid hTS
                have hyq2 : yq ≤ 64 := by omega
                have hxw : x + tw ≤ W := i1
                clear hac ho hnx hT hS hyq hyi hsum hTS hTb2
                go_wp2_with fail
                have hyi := HYI.out
                have hsum := HSU.out
                go_region_with (first
                  | (go_simp; go_at_call 55; ((with_reducible refine (impl_rowOf W H ba oa n cap yq _ _ rfl (by omega) hyq2 (by omega) hrow hc (by omega)).mono ?_); rintro e v1 ⟨rfl, hq1⟩; have y2 := (hq1.cell gl).trans g2; have y3 := (hq1.frozen gl).trans g3))
                  | (go_simp; go_at_call 54; ((with_reducible refine (impl_window ba (oa + yq * W) W W x tw _ _ _ rfl rfl (by omega) hxw (by omega) (by omega)).mono ?_); rintro e v2 ⟨rfl, rfl⟩))
                  | (go_simp; go_at_call 53; ((with_reducible refine (impl_sumOf _ tw _ ((xs.drop (yq * W + x)).take tw) S _ LW.out (by exact (RW.out.drew).below hq1) (within_sub HI.out _ _) (by omega) WS.out).mono ?_); rintro e v3 ⟨rfl, rfl⟩)))
                all_goals (
                  clear hyi hsum
                  go_wp2_with fail
                  go_roundw
                  case rel =>
                    have h := ((HOz.out.drewN 1).below hq1 gl).set k (T + S)
                    rw [List.set_set, HTS.out] at h
                    exact ⟨q + 1, by omega, by go_num, by rw [HTS.out]; exact h, (bTrans HZ.out.drew hq1).setCell (Nat.le_refl _) _⟩
                  case measure => simp [intOf]; omega)
              · obtain rfl : q = th := by omega
                have hs := filled_succ F (List.replicate N 0) k _ (by rw [HFL.out]; exact hlt) (by simp; omega) HT.out
                have h := HOz.out
                rw [hs] at h
                have HOk := Lib.hid h
                clear hs h ho hnx
                go_wp2_with fail
                go_roundw
                case rel => exact ⟨k + 1, by omega, by go_num, HOk.out, HZ.out⟩
                case measure => simp [intOf]; omega
          · go_wp2_with fail
            go_ret
            obtain rfl : N = k := by omega
            have ho := HO.out
            rw [filled_at F _ N HFL.out (by simp)] at ho
            exact ⟨_, _, _, rfl, OwnA.mk ho HB1.out.size, by omega, HBr.out⟩

end Go.Proofs.Ytgepjfdnlnemjaa
