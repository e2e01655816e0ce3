/-
  Contracts of chapter 8: plates out of runs (program).
-/
import Derived.Test.YtkjhpfgcmbigfaaW6
import Derived.Test.YtkjhpfgcmbigfaaC8
namespace Go.Proofs.Ytkjhpfgcmbigfaa
open Go.RowKit
set_option linter.unusedVariables false
set_option linter.unusedSimpArgs false

/-- The plate while run k is laid: what was laid before, d of the run, and the rest without dots. -/
def fillR (rs : List Int) (k d r : Nat) : List Int := spell 0 (rs.take k) ++ (List.replicate d (colR 0 k) ++ List.replicate (r - d) 0)

theorem fillR_set {rs : List Int} {k d r s : Nat} (hs : (spell 0 (rs.take k)).length = s) (hd : d < r) : (fillR rs k d r).set (s + d) (colR 0 k) = fillR rs k (d + 1) r := by
  unfold fillR
  obtain ⟨e, he⟩ : ∃ e, r - d = e + 1 := ⟨r - d - 1, by omega⟩
  rw [he, show r - (d + 1) = e by omega, List.replicate_succ, List.replicate_succ', List.append_assoc]
  rw [List.set_append_right _ _ (by omega), hs, Nat.add_sub_cancel_left, List.set_append_right _ _ (by simp)]
  simp

theorem fillR_next {rs : List Int} {k r v : Nat} (hk : k < rs.length) (hv : rs.getD k 0 = v) (hr : v ≤ r) : fillR rs k v r = fillR rs (k + 1) 0 (r - v) := by
  unfold fillR
  rw [spell_take_succ rs k hk, hv]
  simp

theorem fillR_zero (rs : List Int) (N : Nat) : fillR rs 0 0 N = List.replicate N 0 := by simp [fillR, spell]

theorem fillR_end {rs : List Int} {n r : Nat} (hn : rs.length = n) : fillR rs n 0 r = spell 0 rs ++ List.replicate r 0 := by
  unfold fillR
  rw [List.take_of_length_le (l := rs) (by omega)]
  simp

theorem fillR_plate {W H : Int} {rs : List Int} {n r N : Nat} (hs : sizeOk W H = true) (hq : (N : Int) = W * H) (hl : (fillR rs n 0 r).length = N) : picOk W H (fillR rs n 0 r) 1 = true := by
  unfold picOk
  have hw : within (fillR rs n 0 r) 1 = true := dots_within (fun v hv => by
    unfold fillR at hv
    simp only [List.mem_append, List.mem_replicate] at hv
    rcases hv with hv | hv | hv
    · exact spell_dots 0 (Or.inl rfl) _ v hv
    · omega
    · exact Or.inl hv.2)
  rw [hs, hw, decide_eq_true (by rw [hl]; exact hq)]
  rfl

theorem por_over {W H : Int} {rs : List Int} {N k s : Nat} (hq : (N : Int) = W * H) (hk : k < rs.length) (hs : isum (rs.take k) = s) (h : (N : Int) < s + rs.getD k 0) : porF W H rs = (noPic, false) := by
  refine por_no (fun _ hr hi => ?_)
  have h1 := isum_take_le (runsOk_nn hr) (k + 1)
  rw [isum_take_succ rs k hk] at h1
  omega

theorem por_neg {W H : Int} {rs : List Int} {k : Nat} (hk : k < rs.length) (h : rs.getD k 0 < 0) : porF W H rs = (noPic, false) := by
  refine por_no (fun _ hr hi => ?_)
  have := runsOk_nn hr _ (getD_mem hk)
  omega

theorem por_check {W H : Int} {rs : List Int} {n r N : Nat} (hn : rs.length = n) (hs : sizeOk W H = true) (hq : (N : Int) = W * H) (hall : ∀ j, j < n → 0 ≤ rs.getD j 0) (hl : (fillR rs n 0 r).length = N) :
    porF W H rs = if decide (runsG (fillR rs n 0 r) = rs) = true then (⟨W, H, fillR rs n 0 r⟩, true) else (noPic, false) := by
  have hnn : nnAll rs := by have := nn_take (rs := rs) (k := rs.length) (fun j hj => hall j (by omega)) (Nat.le_refl _); rwa [List.take_length] at this
  have hx := fillR_end (r := r) hn
  have hb := runs_back hnn hx
  have hsl := spell_len hnn 0
  rw [hx, List.length_append, List.length_replicate] at hl
  split
  · rename_i h
    obtain ⟨h1, h2⟩ := hb.1 (of_decide_eq_true h)
    rw [por_yes hs h1 (by omega), hx, h2]
    simp
  · rename_i h
    refine por_no (fun _ h1 h2 => h (decide_eq_true (hb.2 ⟨h1, by omega⟩)))

set_option maxRecDepth 100000 in
set_option maxHeartbeats 6400000 in
theorem impl_PlateOfRuns (W H : Int) (ad : Option Addr) (n cap : Nat) (rs : List Int) (w : World) (hn : rs.length = n) (ha : Rd w ad rs) (hl : n ≤ 1048576) :
    Calls Try.prog 31 #[.int .i64 W, .int .i64 H, .slice ad n cap] w (PicOut2 w (porF W H rs)) := by
  have HN := Lib.hid hn
  have HA := Lib.hid ha
  clear hn ha
  have KR1 := Lib.hid (Blk.new w 25 #[.int .i64 0, .int .i64 0, .slice none 0 0])
  have HB1 := Lib.hid (Joins.below_alloc1 w (.cells #[.int .i64 0, .int .i64 0, .slice none 0 0] 25))
  obtain ⟨w1, hw1⟩ : ∃ w1, w1 = w.alloc (.cells #[.int .i64 0, .int .i64 0, .slice none 0 0] 25) := ⟨_, rfl⟩
  by_cases hs : sizeOk W H = true
  case neg =>
    rw [por_no (fun h _ _ => hs h)]
    have HS := Lib.hid hs
    rw [← hw1] at KR1 HB1
    obtain ⟨m1, d0, d1, d2⟩ := KR1.out.c3
    obtain ⟨f0, f1, f2⟩ := KR1.out.f3
    clear hs
    go_enter Try.func31, Try.ntmps31
    go_wp2_with fail
    rw [← hw1]
    clear hw1
    refine (impl_isSize_no _ _ _ HS.out).mono ?_
    rintro e w2 ⟨rfl, rfl⟩
    go_wp2_with fail
    exact bodyPost_ret (v := .tuple #[.agg #[.int .i64 0, .int .i64 0, .slice none 0 0], .bool false]) (by simp [results, Try.results31, go_sem, d0, d1, d2]) rfl ⟨none, 0, 0, rfl, OwnA.none _ _, by omega,
      ((HB1.out.setCell (by first | (simp; done) | (simp; omega)) _).setCell (by first | (simp; done) | (simp; omega)) _).setCell (by first | (simp; done) | (simp; omega)) _⟩
  case pos =>
    obtain ⟨b1, b2, b3, b4, b5, b6⟩ := sizeOk_bd hs
    obtain ⟨N, hN⟩ : ∃ N : Nat, (N : Int) = W * H := ⟨(W * H).toNat, by omega⟩
    have HS := Lib.hid hs
    have HQ := Lib.hid hN
    have n1 : 1 ≤ N := by omega
    have n2 : N ≤ 1024 := by omega
    clear hs hN b5 b6
    rw [← hw1] at KR1 HB1
    go_enter Try.func31, Try.ntmps31
    go_wp2_with fail
    rw [← hw1]
    have ZW : Hid (w1.heap.size = w.heap.size + 1) := Lib.hid (by rw [hw1]; simp)
    clear hw1
    refine (impl_isSize_yes _ _ _ HS.out).mono ?_
    rintro e w2 ⟨rfl, rfl⟩
    go_wp2_with fail
    refine (impl_blank W H N _ HS.out HQ.out).mono ?_
    rintro e w2 ⟨g, rfl, hg, ho, hb⟩
    have KR2 := Lib.hid ((KR1.out.below' hb).alloc (.cells #[.int .i64 W, .int .i64 H, .slice (some ⟨g, 0, none⟩) N N] 25))
    have KP := Lib.hid (Blk.new w2 25 #[.int .i64 W, .int .i64 H, .slice (some ⟨g, 0, none⟩) N N])
    have HO := Lib.hid (ho.alloc (.cells #[.int .i64 W, .int .i64 H, .slice (some ⟨g, 0, none⟩) N N] 25))
    have HB2 := Lib.hid (bAlloc (bTrans HB1.out hb) (.cells #[.int .i64 W, .int .i64 H, .slice (some ⟨g, 0, none⟩) N N] 25))
    have HG : Hid (w1.heap.size ≤ g ∧ g < w2.heap.size) := Lib.hid ⟨hg, ho.lt⟩
    have HA2 := Lib.hid (HA.out.below HB2.out)
    obtain ⟨w3, hw3⟩ : ∃ w3, w3 = w2.alloc (.cells #[.int .i64 W, .int .i64 H, .slice (some ⟨g, 0, none⟩) N N] 25) := ⟨_, rfl⟩
    obtain ⟨l0, o0, o1, o2⟩ := KP.out.c3
    clear hg ho hb
    go_wp2_with fail
    rw [← hw3] at KR2 KP HO HB2 HA2 l0 o0 o1 o2 ⊢
    clear hw3 l0 o0 o1 o2
    go_loopw [9, 25] (fun t i wr => ∃ (k s r o : Nat), k ≤ n ∧ t = .slice (some ⟨g, o, none⟩) r r ∧ i = .int .i64 k ∧ r ≤ N ∧ Hid (r + s = N) ∧ Hid (1 ≤ r → o = s) ∧ Hid ((spell 0 (rs.take k)).length = s) ∧ Hid (isum (rs.take k) = s) ∧ Hid (Own wr g N N (fillR rs k 0 r)) ∧ Hid (w3.grownBy wr (some g)) ∧ Hid (∀ j, j < k → 0 ≤ rs.getD j 0)) (fun _ i _ => n - (intOf i).toNat)
    case atStart => exact ⟨0, 0, N, 0, Nat.zero_le _, rfl, rfl, Nat.le_refl _, Lib.hid (by simp), Lib.hid (fun _ => rfl), Lib.hid (by simp [spell]), Lib.hid (by simp [isum]), Lib.hid (by rw [fillR_zero]; exact HO.out), Lib.hid (grown_refl _ _), Lib.hid (fun j hj => by omega)⟩
    case round =>
      obtain ⟨k, s, r, o, hk, rfl, rfl, hrN, HRS, HOS, HSL, HIS, HF, HGR, HALL⟩ := hrel
      have KRr := Lib.hid (KR2.out.grown HGR.out (by have := HG.out; have := ZW.out; intro e; have := Option.some.inj e; omega))
      have KPr := Lib.hid (KP.out.grown HGR.out (by have := HG.out; intro e; have := Option.some.inj e; omega))
      have HBr := Lib.hid (HB2.out.grown HGR.out HB2.out.size (by intro q hq; cases hq; have := HG.out; have := ZW.out; omega))
      have HAr := Lib.hid (HA.out.below HBr.out)
      by_cases hlt : k < n
      · obtain ⟨ba, oa, hae, hal, hac⟩ := HAr.out.at (by have := HN.out; omega)
        have h1 := hac k (by have := HN.out; omega)
        subst hae
        obtain ⟨v, hv⟩ : ∃ v, rs.getD k 0 = v := ⟨_, rfl⟩
        rw [hv] at h1
        have HV := Lib.hid hv
        clear hv hac
        by_cases hv0 : v < 0
        case pos =>
          have ER : Hid (porF W H rs = (noPic, false)) := Lib.hid (por_neg (k := k) (by have := HN.out; omega) (by rw [HV.out]; exact hv0))
          obtain ⟨m1, d0, d1, d2⟩ := KRr.out.c3
          obtain ⟨f0, f1, f2⟩ := KRr.out.f3
          have HB1 := HBr
          go_wp2_with fail
          rw [ER.out]
          exact bodyPost_ret (v := .tuple #[.agg #[.int .i64 0, .int .i64 0, .slice none 0 0], .bool false]) (by simp [results, Try.results31, go_sem, d0, d1, d2]) rfl ⟨none, 0, 0, rfl, OwnA.none _ _, by omega,
            ((HB1.out.setCell (by first | (simp; done) | (simp; omega)) _).setCell (by first | (simp; done) | (simp; omega)) _).setCell (by first | (simp; done) | (simp; omega)) _⟩
        case neg =>
          by_cases hvr : (r : Int) < v
          case pos =>
            have ER : Hid (porF W H rs = (noPic, false)) := Lib.hid (por_over (k := k) (s := s) HQ.out (by have := HN.out; omega) HIS.out (by rw [HV.out]; have := HRS.out; omega))
            obtain ⟨m1, d0, d1, d2⟩ := KRr.out.c3
            obtain ⟨f0, f1, f2⟩ := KRr.out.f3
            have HB1 := HBr
            go_wp2_with fail
            rw [ER.out]
            exact bodyPost_ret (v := .tuple #[.agg #[.int .i64 0, .int .i64 0, .slice none 0 0], .bool false]) (by simp [results, Try.results31, go_sem, d0, d1, d2]) rfl ⟨none, 0, 0, rfl, OwnA.none _ _, by omega,
              ((HB1.out.setCell (by first | (simp; done) | (simp; omega)) _).setCell (by first | (simp; done) | (simp; omega)) _).setCell (by first | (simp; done) | (simp; omega)) _⟩
          case neg =>
            obtain ⟨vn, hvn⟩ : ∃ vn : Nat, v = vn := ⟨v.toNat, by omega⟩
            subst hvn
            clear hv0
            have hvr2 : vn ≤ r := by omega
            have HALL2 : Hid (∀ j, j < k + 1 → 0 ≤ rs.getD j 0) := Lib.hid (fun j hj => by
              by_cases e : j = k
              · subst e; rw [HV.out]; omega
              · exact HALL.out j (by omega))
            go_wp2_with fail
            clear h1
            go_loopw [40] (fun i wr => ∃ d : Nat, d ≤ vn ∧ i = .int .i64 d ∧ Hid (Own wr g N N (fillR rs k d r)) ∧ Hid (w3.grownBy wr (some g))) (fun i _ => vn - (intOf i).toNat)
            case atStart => exact ⟨0, Nat.zero_le _, rfl, HF, HGR⟩
            case round =>
              obtain ⟨d, hd, rfl, HF, HGR⟩ := hrel
              by_cases hdv : d < vn
              · have CI := Lib.hid (fun v : World => impl_inkOfRun k v (by omega))
                have ho := HOS.out (by omega)
                subst ho
                have g2 := HF.out.cell (j := o + d) (by have := HRS.out; omega)
                have g3 := HF.out.frozen (o + d)
                have hs2 := HF.out.set (o + d) (colR 0 k)
                rw [fillR_set HSL.out (by omega)] at hs2
                have HST := Lib.hid hs2
                obtain ⟨C, hC⟩ : ∃ C, colR 0 k = C := ⟨_, rfl⟩
                rw [hC] at HST CI
                obtain ⟨Y, hY⟩ : ∃ Y, (fillR rs k d r).getD (o + d) 0 = Y := ⟨_, rfl⟩
                rw [hY] at g2
                clear hs2 hC hY
                have dr0 : (d : Int) < (r : Int) := by omega
                go_wp2_with fail
                refine (CI.out _).mono ?_
                rintro e w5 ⟨rfl, rfl⟩
                go_wp2_with fail
                go_roundw
                case rel => exact ⟨d + 1, by omega, by go_num, HST, Lib.hid (grown_set HGR.out _)⟩
                case measure => simp [intOf]; omega
              · obtain rfl : d = vn := by omega
                have hF2 := HF.out
                rw [fillR_next (by have := HN.out; omega) HV.out hvr2] at hF2
                have HF2 := Lib.hid hF2
                have HSL2 : Hid ((spell 0 (rs.take (k + 1))).length = s + d) := Lib.hid (by rw [spell_take_succ rs k (by have := HN.out; omega), HV.out, List.length_append, HSL.out]; simp)
                have HIS2 : Hid (isum (rs.take (k + 1)) = ((s + d : Nat) : Int)) := Lib.hid (by rw [isum_take_succ rs k (by have := HN.out; omega), HIS.out, HV.out]; simp)
                clear hF2
                by_cases hrd : r = d
                · subst hrd
                  go_wp2_with fail
                  go_roundw
                  case rel => exact ⟨k + 1, s + r, 0, o, by omega, by simp, by go_num, by omega, Lib.hid (by have := HRS.out; omega), Lib.hid (fun h => by omega), HSL2, HIS2, Lib.hid (by have h := HF2.out; rwa [Nat.sub_self] at h), HGR, HALL2⟩
                  case measure => simp [intOf]; omega
                · have hrd2 : d ≤ r := by omega
                  have hrd3 : ¬ r = d := hrd
                  go_wp2_with fail
                  go_roundw
                  case rel => exact ⟨k + 1, s + d, r - d, o + d, by omega, by first | rfl | simp, by go_num, by omega, Lib.hid (by have := HRS.out; omega), Lib.hid (fun h => by have := HOS.out (by omega); omega), HSL2, HIS2, HF2, HGR, HALL2⟩
                  case measure => simp [intOf]; omega
      · obtain rfl : k = n := by omega
        have HLN : Hid ((fillR rs k 0 r).length = N) := Lib.hid HF.out.len
        have EP := Lib.hid (por_check (r := r) HN.out HS.out HQ.out HALL.out HLN.out)
        have EP2 := Lib.hid (fillR_plate (rs := rs) (n := k) (r := r) HS.out HQ.out HLN.out)
        have ERU : Hid (runsF W H (fillR rs k 0 r) = runsG (fillR rs k 0 r)) := Lib.hid (by unfold runsF; rw [if_pos EP2.out])
        obtain ⟨l0, o0, o1, o2⟩ := KPr.out.c3
        go_wp2_with fail
        refine (impl_RunsOf W H (some ⟨g, 0, none⟩) N N (fillR rs k 0 r) wr HLN.out (by exact HF.out.rd) (by omega)).mono ?_
        rintro e w5 ⟨qa, qn, qc, rfl, ho, hqn, hb⟩
        rw [ERU.out] at ho
        have KR5 := Lib.hid (KRr.out.below' hb)
        have KP5 := Lib.hid (KPr.out.below' hb)
        have HF5 := Lib.hid (HF.out.below hb HF.out.lt)
        have HB5 := Lib.hid (bTrans HBr.out hb)
        have HA5 := Lib.hid (HAr.out.below hb)
        have HO5 := Lib.hid ho
        clear hb ho l0 o0 o1 o2
        go_wp2_with fail
        refine (lib_Equal qa ad qn k qc cap (runsG (fillR rs k 0 r)) rs w5 HO5.out.len HN.out (by exact HO5.out.rd) (by exact HA5.out) (by omega) (by omega)).mono ?_
        rintro e w6 ⟨rfl, hb⟩
        have KR6 := Lib.hid (KR5.out.below' hb)
        have KP6 := Lib.hid (KP5.out.below' hb)
        have HF6 := Lib.hid (HF5.out.below hb HF5.out.lt)
        have HB1 := Lib.hid (bTrans HB5.out hb)
        clear hb
        obtain ⟨m1, d0, d1, d2⟩ := KR6.out.c3
        obtain ⟨f0, f1, f2⟩ := KR6.out.f3
        obtain ⟨l0, o0, o1, o2⟩ := KP6.out.c3
        obtain ⟨q, hq⟩ : ∃ q, decide (runsG (fillR rs k 0 r) = rs) = q := ⟨_, rfl⟩
        rw [hq] at EP ⊢
        clear hq
        cases q
        · have ER : Hid (porF W H rs = (noPic, false)) := Lib.hid (by rw [EP.out]; rfl)
          go_wp2_with fail
          exact bodyPost_ret (v := .tuple #[.agg #[.int .i64 0, .int .i64 0, .slice none 0 0], .bool false]) (by simp [results, Try.results31, go_sem, d0, d1, d2]) rfl
            ⟨none, 0, 0, by rw [ER.out]; rfl, by rw [ER.out]; exact OwnA.none _ _, by omega,
              ((HB1.out.setCell (by first | (simp; done) | (simp; omega)) _).setCell (by first | (simp; done) | (simp; omega)) _).setCell (by first | (simp; done) | (simp; omega)) _⟩
        · have ER : Hid (porF W H rs = (⟨W, H, fillR rs k 0 r⟩, true)) := Lib.hid (by rw [EP.out]; rfl)
          go_wp2_with fail
          exact bodyPost_ret (v := .tuple #[.agg #[.int .i64 W, .int .i64 H, .slice (some ⟨g, 0, none⟩) N N], .bool true]) (by simp [results, Try.results31, go_sem, d0, d1, d2]) rfl
            ⟨_, _, _, by rw [ER.out], by rw [ER.out]; exact OwnA.mk (((HF6.out.other (by have := HG.out; have := ZW.out; simp; omega) _).other (by have := HG.out; have := ZW.out; simp; omega) _).other (by have := HG.out; have := ZW.out; simp; omega) _) (by have := HG.out; have := ZW.out; omega), by omega,
              ((HB1.out.setCell (by first | (simp; done) | (simp; omega)) _).setCell (by first | (simp; done) | (simp; omega)) _).setCell (by first | (simp; done) | (simp; omega)) _⟩

end Go.Proofs.Ytkjhpfgcmbigfaa
