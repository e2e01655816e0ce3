/-
  Contracts of chapter 5: the run of a diffusion, of the model.
-/
import Derived.Test.YtbopeibommnjgaaK11
import Derived.Test.YtbopeibommnjgaaK7
import Derived.Test.YtbopeibommnjgaaK12
import Derived.Test.YtbopeibommnjgaaM24
import Derived.Deep.DeepCutAuto
namespace Go.Proofs.Ytbopeibommnjgaa
open Go.RowKit
set_option linter.unusedVariables false
set_option linter.unusedSimpArgs false

/-- Three rows of a run: values, dots, errors. -/
structure SSt (w : World) (B gv gd ge n c : Nat) (vs ds es : List Int) : Prop where
  hv : B ≤ gv
  hd : B ≤ gd
  he : B ≤ ge
  n1 : gv ≠ gd
  n2 : gv ≠ ge
  n3 : gd ≠ ge
  vals : Own w gv n c vs
  dots : Own w gd n n ds
  errs : Own w ge n n es

namespace SSt
variable {w w' : World} {B gv gd ge n c : Nat} {vs ds es : List Int}

theorem below (h : SSt w B gv gd ge n c vs ds es) (hb : Below w.heap.size w w') : SSt w' B gv gd ge n c vs ds es :=
  ⟨h.hv, h.hd, h.he, h.n1, h.n2, h.n3, h.vals.below hb h.vals.lt, h.dots.below hb h.dots.lt, h.errs.below hb h.errs.lt⟩

theorem drewN (h : SSt w B gv gd ge n c vs ds es) (m : Nat) : SSt (w.drewN m) B gv gd ge n c vs ds es :=
  ⟨h.hv, h.hd, h.he, h.n1, h.n2, h.n3, h.vals.drewN m, h.dots.drewN m, h.errs.drewN m⟩

theorem setVal (h : SSt w B gv gd ge n c vs ds es) (j : Nat) (v : Int) : SSt (w.setCell ⟨gv, j, none⟩ (.int .i64 v)) B gv gd ge n c (vs.set j v) ds es :=
  ⟨h.hv, h.hd, h.he, h.n1, h.n2, h.n3, h.vals.set j v, h.dots.other (by simp; exact h.n1) _, h.errs.other (by simp; exact h.n2) _⟩

theorem setDot (h : SSt w B gv gd ge n c vs ds es) (j : Nat) (v : Int) : SSt (w.setCell ⟨gd, j, none⟩ (.int .i64 v)) B gv gd ge n c vs (ds.set j v) es :=
  ⟨h.hv, h.hd, h.he, h.n1, h.n2, h.n3, h.vals.other (by simp; exact fun e => h.n1 e.symm) _, h.dots.set j v, h.errs.other (by simp; exact h.n3) _⟩

theorem setErr (h : SSt w B gv gd ge n c vs ds es) (j : Nat) (v : Int) : SSt (w.setCell ⟨ge, j, none⟩ (.int .i64 v)) B gv gd ge n c vs ds (es.set j v) :=
  ⟨h.hv, h.hd, h.he, h.n1, h.n2, h.n3, h.vals.other (by simp; exact fun e => h.n2 e.symm) _, h.dots.other (by simp; exact fun e => h.n3 e.symm) _, h.errs.set j v⟩

theorem trio (h : SSt w B gv gd ge n c vs ds es) : ∀ i, Trio gv gd ge i → B ≤ i := by
  have := h.hv; have := h.hd; have := h.he
  rintro i (rfl | rfl | rfl) <;> assumption

theorem trioLt (h : SSt w B gv gd ge n c vs ds es) : ∀ i, Trio gv gd ge i → i < w.heap.size := by
  have := h.vals.lt; have := h.dots.lt; have := h.errs.lt
  rintro i (rfl | rfl | rfl) <;> assumption
end SSt

/-- A row that is gone through from the right. -/
def revB (alt : Bool) (y : Int) : Bool := decide (alt = true ∧ y % 2 = 1)

theorem revB_yes {alt : Bool} {y : Int} (h : alt = true ∧ y % 2 = 1) : revB alt y = true := decide_eq_true h

theorem revB_no {alt : Bool} {y : Int} (h : ¬ (alt = true ∧ y % 2 = 1)) : revB alt y = false := decide_eq_false h

set_option maxRecDepth 100000 in
set_option maxHeartbeats 3200000 in
theorem spec_l4Run (kad : Option Addr) (kn kcap : Nat) (W H : Int) (ad : Option Addr) (n cap : Nat) (xs : List Int) (alt : Bool) (ks : List Prt) (w : World)
    (hkl : ks.length = kn) (hkr : Rd w kad (flat ks)) (hkc : kn ≤ kcap) (hko : kernOk ks = true) (hn : xs.length = n) (ha : Rd w ad xs) (hp : picOk W H xs 255 = true) :
    Calls Try.prog 63 #[.slice kad kn kcap, .agg #[.int .i64 W, .int .i64 H, .slice ad n cap], .bool alt] w fun e w' => ∃ gd ge, e = .returned (.tuple #[.slice (some ⟨gd, 0, none⟩) n n, .slice (some ⟨ge, 0, none⟩) n n, .int .i64 (runG alt ks W H xs n).lost]) ∧
      Own w' gd n n (runG alt ks W H xs n).dots ∧ Own w' ge n n (runG alt ks W H xs n).errs ∧ w.heap.size ≤ gd ∧ w.heap.size ≤ ge ∧ Below w.heap.size w w' := by
  have HKL := Lib.hid hkl
  have HKR := Lib.hid hkr
  have HKO := Lib.hid hko
  have HRO := Lib.hid (RunOk.of (alt := alt) hn hko hp)
  obtain ⟨k1, k2, k3⟩ := kernOk_bd hkl hko
  have HK := Lib.hid k3
  have HN := Lib.hid hn
  have HA := Lib.hid ha
  clear hn ha
  obtain ⟨hs, hq, hi⟩ := picOk_bd HN.out hp
  obtain ⟨b1, b2, b3, b4, b5, b6⟩ := sizeOk_bd hs
  have HQ := Lib.hid hq
  have HI := Lib.hid hi
  have HS := Lib.hid hs
  have hn1 : 1 ≤ n := by omega
  have hn2 : n ≤ 1024 := by omega
  clear hq hi hs
  clear hkl hkr hko k3
  obtain ⟨ba, oa, hae, hal, _⟩ := HA.out.at (by have := HN.out; omega)
  subst hae
  have HAP := Lib.hid ((HA.out.alloc (.cells #[.int .i64 W, .int .i64 H, .slice (some ⟨ba, oa, none⟩) n cap] 41)).alloc (.cells #[] 3))
  have HE0 : Hid (RowA ((w.alloc (.cells #[.int .i64 W, .int .i64 H, .slice (some ⟨ba, oa, none⟩) n cap] 41)).alloc (.cells #[] 3)) 3 1 (w.heap.size + 1) (some ⟨w.heap.size + 1, 0, none⟩) 0 0 []) := Lib.hid (by
    have h := rowT_empty (w.alloc (.cells #[.int .i64 W, .int .i64 H, .slice (some ⟨ba, oa, none⟩) n cap] 41)) 3 1
    rw [show (w.alloc (.cells #[.int .i64 W, .int .i64 H, .slice (some ⟨ba, oa, none⟩) n cap] 41)).heap.size = w.heap.size + 1 by simp] at h
    exact RowA.mk h (Nat.le_refl _))
  go_enter Try.func63, Try.ntmps63
  go_upto_region 2 with (at_builtin; refine wp_cloneT _ rfl 33 3 1 8 (.int .i64 0) Try.underlying33 infoInt3 rfl (by decide) (by decide) (.tmp 24) (.tmp 26) rfl (w.heap.size + 1) 0 _ rfl HE0.out ba oa n cap xs rfl (by have := HN.out; omega) (fun j hj => by
    obtain ⟨b2, o2, h3, h4, h5⟩ := HAP.out.at (by have := HN.out; omega)
    cases h3
    exact h5 j (by have := HN.out; omega)) (by omega) (by simp) ?_; intro ad2 cap2 w5 ho5 hg5)
  have HO5 := Lib.hid ho5.toOwn
  have KP5 := Lib.hid (((Blk.new w 41 #[.int .i64 W, .int .i64 H, .slice (some ⟨ba, oa, none⟩) n cap]).alloc (.cells #[] 3)).grown hg5 (by simp [blockOf]))
  have HB5 := Lib.hid ((bAlloc (Joins.below_alloc1 w (.cells #[.int .i64 W, .int .i64 H, .slice (some ⟨ba, oa, none⟩) n cap] 41)) (.cells #[] 3)).grown hg5 (by simp; omega) (fun k hk => by simp [blockOf] at hk; omega))
  clear ho5 hg5
  obtain ⟨gv, hgv, hBv, hrv⟩ : ∃ g, ad2 = some ⟨g, 0, none⟩ ∧ w.heap.size + 1 ≤ g ∧ Own w5 g n cap2 xs := by
    rcases HO5.out with ⟨_, h, _, _⟩ | h
    · omega
    · exact h
  subst hgv
  have HV5 := Lib.hid hrv
  have gvl := hrv.lt
  clear hrv
  go_upto_region 3 with (at_make; refine wp_make _ rfl _ _ rfl .i64 .i64 n n n rfl rfl rfl rfl (by omega) ?_; intro M1 hM1)
  go_upto_region 4 with (at_make; refine wp_make _ rfl _ _ rfl .i64 .i64 n n n rfl rfl rfl rfl (by omega) ?_; intro M2 hM2)
  have HS0 : Hid (SSt ((w5.alloc (.cells M1 3)).alloc (.cells M2 3)) (w.heap.size + 1) gv w5.heap.size (w5.heap.size + 1) n cap2 xs (List.replicate n 0) (List.replicate n 0)) := Lib.hid
    ⟨hBv, by have := KP5.out.lt; omega, by have := KP5.out.lt; omega, by omega, by omega, by omega, (HV5.out.alloc _).alloc _, (hM1.own w5).alloc _, hM2.own' _ (by simp)⟩
  have KP7 := Lib.hid ((KP5.out.alloc (.cells M1 3)).alloc (.cells M2 3))
  have HB7 := Lib.hid (bAlloc (bAlloc HB5.out (.cells M1 3)) (.cells M2 3))
  obtain ⟨w7, hw7⟩ : ∃ w7 : World, w7 = (w5.alloc (.cells M1 3)).alloc (.cells M2 3) := ⟨_, rfl⟩
  rw [← hw7] at HS0 KP7 HB7 ⊢
  obtain ⟨gd, hgd⟩ : ∃ gd, w5.heap.size = gd := ⟨_, rfl⟩
  obtain ⟨ge, hge⟩ : ∃ ge, w5.heap.size + 1 = ge := ⟨_, rfl⟩
  rw [hge, hgd] at HS0 ⊢
  clear hw7 hgd hge hM1 hM2 hBv gvl
  go_wp2_with fail
  refine (spec_WeightOf _ _ _ ks _ HKL.out (by exact HKR.out.below HB7.out) (by omega) hkc).mono ?_
  rw [weightF_yes HKL.out HKO.out]
  rintro e w8 ⟨rfl, hb⟩
  have HS8 := Lib.hid (HS0.out.below hb)
  have KP8 := Lib.hid (KP7.out.below' hb)
  have HB8 := Lib.hid (bTrans HB7.out hb)
  clear hb
  obtain ⟨l0, o0, o1, o2⟩ := KP8.out.c3
  go_wp2_with fail
  go_loopw [13, 38] (fun s13 i wr => ∃ (t : Nat) (ds es vs : List Int) (L : Int), t ≤ n ∧ i = .int .i64 t ∧ s13 = .int .i64 L ∧ Hid (SpecAt alt ks W H xs n t ds es vs L) ∧ Hid (SSt wr (w.heap.size + 1) gv gd ge n cap2 vs ds es) ∧ Hid (Keep (Trio gv gd ge) w8 wr)) (fun _ i _ => n - (intOf i).toNat)
  case atStart => exact ⟨0, _, _, _, _, Nat.zero_le _, rfl, rfl, Lib.hid (SpecAt.start HRO.out), HS8, Lib.hid (Keep.refl _ _)⟩
  case round =>
    obtain ⟨t, ds, es, vs, L, ht, rfl, rfl, HSA, HSS, HKP⟩ := hrel
    have KPr := Lib.hid (HKP.out.blk KP8.out (fun h => by have := HSS.out.trio _ h; omega))
    clear l0 o0 o1 o2
    obtain ⟨l0, o0, o1, o2⟩ := KPr.out.c3
    by_cases hlt : t < n
    · have e1 : 0 ≤ (t : Int) % W := Int.emod_nonneg _ (by omega)
      have e2 : (t : Int) % W < W := Int.emod_lt_of_pos _ (by omega)
      have e3 : 0 ≤ (t : Int) / W := Int.ediv_nonneg (by omega) (by omega)
      have e4 : (t : Int) / W ≤ t := Int.ediv_le_self _ (by omega)
      have hW0 : (W == 0) = false := by simp; omega
      have hW1 : ¬ W = 0 := by omega
      go_upto_region 12 with fail
      go_cut [54] (fun s54 wx => s54 = .bool (revB alt ((t : Int) / W)) ∧ wx = wr)
      case first =>
        cases alt
        case false =>
          go_wp2_with fail
          go_meet
          exact ⟨by rw [revB_no (by simp)], rfl⟩
        case true =>
          by_cases hy : (t : Int) / W % 2 = 1
          · have hy2 : ((t : Int) / W % 2 == 1) = true := by simpa using hy
            have HY := Lib.hid hy
            clear hy
            go_wp2_with fail
            go_meet
            exact ⟨by rw [revB_yes ⟨rfl, HY.out⟩], rfl⟩
          · have hy2 : ((t : Int) / W % 2 == 1) = false := by simpa using hy
            have HY := Lib.hid hy
            clear hy
            go_wp2_with fail
            go_meet
            exact ⟨by rw [revB_no (fun h => HY.out h.2)], rfl⟩
      case rest =>
        obtain ⟨rfl, rfl⟩ := hcut
        go_upto_if 54 with (fail)
        go_cut [16, 17] (fun s16 s17 wx => s16 = .int .i64 (xAt alt W t) ∧ s17 = .int .i64 (wayAt alt ((t : Int) / W)) ∧ wx = wc)
        case first =>
          by_cases hr : revB alt ((t : Int) / W) = true
          · have HRV := Lib.hid hr
            rw [hr]
            clear hr
            go_wp2_with fail
            go_meet
            exact ⟨by unfold xAt; rw [if_pos (of_decide_eq_true HRV.out)], by unfold wayAt; rw [if_pos (of_decide_eq_true HRV.out)], rfl⟩
          · have hr2 : revB alt ((t : Int) / W) = false := by simpa using hr
            have HRV := Lib.hid hr2
            rw [hr2]
            clear hr hr2
            go_wp2_with fail
            go_meet
            exact ⟨by unfold xAt; rw [if_neg (of_decide_eq_false HRV.out)], by unfold wayAt; rw [if_neg (of_decide_eq_false HRV.out)], rfl⟩
        case rest =>
          obtain ⟨rfl, rfl, rfl⟩ := hcut
          obtain ⟨q1, q2, q3, q4, q5, q6⟩ := posAt_at (alt := alt) HRO.out.W1 HRO.out.hn hlt
          obtain ⟨x1, x2⟩ := xAt_bd (alt := alt) (W := W) (i := t) b1
          obtain ⟨h1, h2, h3, h4, h5, h6⟩ := HSA.out.here HRO.out hlt
          have HSF := Lib.hid (fun k hk => HSA.out.safe HRO.out hlt k hk)
          have HST := Lib.hid (HSA.out.step HRO.out hlt)
          have HTG := Lib.hid (show ∀ q, tgtAt alt W H t (prt ks q) = tgt W H (xAt alt W t) ((t : Int) / W) (wayAt alt ((t : Int) / W)) (prt ks q) from fun q => rfl)
          have hway : wayAt alt ((t : Int) / W) = 1 ∨ wayAt alt ((t : Int) / W) = -1 := by unfold wayAt; split <;> simp
          obtain ⟨j, hj⟩ : ∃ j, posAt alt W t = j := ⟨_, rfl⟩
          rw [hj] at q1 q2 h2 h3 h4 HSF HST
          obtain ⟨v, hv⟩ : ∃ v, vs.getD j 0 = v := ⟨_, rfl⟩
          rw [hv] at h3 h4 HSF HST
          obtain ⟨X, hX⟩ : ∃ X, xAt alt W t = X := ⟨_, rfl⟩
          obtain ⟨Y, hY⟩ : ∃ Y, (t : Int) / W = Y := ⟨_, rfl⟩
          rw [hY] at hway HTG e3 e4 q2 q3 q4
          rw [hX] at x1 x2 q2 HTG
          obtain ⟨way, hwa⟩ : ∃ way, wayAt alt Y = way := ⟨_, rfl⟩
          rw [hwa] at hway HTG
          rw [hX, hY, hwa]
          have hyr := row_bd x1 x2 q3 q4
          obtain ⟨V, hV⟩ : ∃ V, Y * W = V := ⟨_, rfl⟩
          rw [hV] at q2 hyr
          obtain ⟨r1, _⟩ := hyr
          have hvx : V + X = (j : Int) := q2.symm
          have g1 := HSS.out.vals.cell q1
          rw [hv] at g1
          have g3 := HSS.out.dots.cell q1
          have f3 := HSS.out.dots.frozen j
          have vl := HSS.out.vals.lt
          have dl := HSS.out.dots.lt
          have el := HSS.out.errs.lt
          have HDZ := Lib.hid h2
          have HJV := Lib.hid hv
          clear h1 h2 q2 q5 q6 hj hv hX hY hwa
          go_upto_if 71 with (fail)
          obtain ⟨wr, hwr⟩ : ∃ wr, wr = wc := ⟨_, rfl⟩
          rw [← hwr] at HSS HKP KPr vl dl el g1 g3 f3 l0 o0 o1 o2 ⊢
          clear hwr
          go_cut [19] (fun s19 wx => s19 = .int .i64 (errOf v) ∧ Hid (SSt wx (w.heap.size + 1) gv gd ge n cap2 vs (ds.set j (dotOf v)) es) ∧ Hid (Keep (Trio gv gd ge) wr wx))
          case first =>
            by_cases h128 : 128 ≤ v
            · go_wp2_with fail
              go_meet
              obtain ⟨d1, d2⟩ := dot_yes h128
              rw [d1, d2]
              exact ⟨rfl, Lib.hid (HSS.out.setDot j 1), Lib.hid ((Keep.refl _ _).set (a := ⟨gd, j, none⟩) (show Trio gv gd ge gd from Trio.p) _)⟩
            · go_wp2_with fail
              go_meet
              obtain ⟨d1, d2⟩ := dot_no (show ¬ 128 ≤ v by omega)
              rw [d1, d2]
              exact ⟨rfl, Lib.hid (by rw [set_same HDZ.out (by rw [HSS.out.dots.len]; exact q1)]; exact HSS.out), Lib.hid (Keep.refl _ _)⟩
          case rest =>
            obtain ⟨rfl, HSD, HKD⟩ := hcut
            have eb := errOf_abs v
            obtain ⟨E, hE⟩ : ∃ E, errOf v = E := ⟨_, rfl⟩
            rw [hE] at eb HSF HST ⊢
            obtain ⟨dd, hdd⟩ : ∃ dd, dotOf v = dd := ⟨_, rfl⟩
            rw [hdd] at HSD HST
            have el2 := HSD.out.errs.lt
            have g4 := HSD.out.errs.cell q1
            have f4 := HSD.out.errs.frozen j
            have KPd := Lib.hid (HKD.out.blk KPr.out (fun h => by have := HSS.out.trio _ h; omega))
            have HSE := Lib.hid (HSD.out.setErr j E)
            have HKE := Lib.hid (HKD.out.set (a := ⟨ge, j, none⟩) (show Trio gv gd ge ge from Trio.r) (.int .i64 E))
            clear l0 o0 o1 o2 g1 g3 f3 hE hdd vl dl el
            go_wp2_with fail
            refine (spec_l4Shares kad kn kcap ks (wtTo ks kn) E _ HKL.out (by exact HKR.out.below (HB8.out.trans ((HKP.out.trans HKE.out).below (B := w.heap.size) (fun i hi => by have := HSS.out.trio i hi; omega) (by have := HB8.out.size; omega)))) k1 k2 HK.out rfl (by omega) (by omega)).mono ?_
            rintro e2 w9 ⟨a9, m9, c9, rfl, ho9, hm9, hb9⟩
            obtain rfl : m9 = kn := by
              have h := ho9.len
              rw [sharesG_len, HKL.out] at h
              exact h.symm
            have HO9 := Lib.hid ho9
            have HS9 := Lib.hid (HSE.out.below hb9)
            have HK9 := Lib.hid ((HKP.out.trans HKE.out).trans (Keep.ofBelow hb9))
            have HTB := Lib.hid HSE.out.trioLt
            have HSL : Hid ((sharesG ks (wtTo ks m9) E).length = m9) := Lib.hid ho9.len
            clear ho9 hb9 hm9 g4 f4 el2
            go_wp2_with fail
            go_loopw [13, 86] (fun s13 i wy => ∃ k : Nat, k ≤ m9 ∧ i = .int .i64 k ∧ s13 = .int .i64 (givesAt alt ks W H t E (vs, L) k).2 ∧ Hid (SSt wy (w.heap.size + 1) gv gd ge n cap2 (givesAt alt ks W H t E (vs, L) k).1 (ds.set j dd) (es.set j E)) ∧ Hid (Keep (Trio gv gd ge) w9 wy)) (fun _ i _ => m9 - (intOf i).toNat)
            case atStart => exact ⟨0, Nat.zero_le _, rfl, rfl, HS9, Lib.hid (Keep.refl _ _)⟩
            case round =>
              obtain ⟨k, hk, rfl, rfl, HSK, HKK⟩ := hrel
              have HKA := Lib.hid (HK9.out.trans HKK.out)
              have KPk := Lib.hid (HKA.out.blk KP8.out (fun h => by have := HSS.out.trio _ h; omega))
              obtain ⟨l0, o0, o1, o2⟩ := KPk.out.c3
              by_cases hlk : k < m9
              · obtain ⟨ba, oa, hae, hal, hac⟩ := (HKK.out.ownA HO9.out HTB.out).rd.at (by have := HSL.out; omega)
                subst hae
                have a1 := hac k (by have := HSL.out; omega)
                clear hac
                obtain ⟨bk, ok, hke, hkl2, p0, p1, p2⟩ := rd_part (HKR.out.below (HB8.out.trans (HKA.out.below (B := w.heap.size) (fun i hi => by have := HSS.out.trio i hi; omega) (by have := HB8.out.size; omega)))) (k := k) (by have := HKL.out; omega)
                subst hke
                obtain ⟨S, hS⟩ : ∃ S, (sharesG ks (wtTo ks m9) E).getD k 0 = S := ⟨_, rfl⟩
                have sb := share_bd (e := E) HKL.out k1 k2 HK.out k hlk
                obtain ⟨gl1, gl2, gv9⟩ := HSF.out k (by have := HKL.out; omega)
                have HSQ := Lib.hid (HTG.out k)
                have pb := partOk_bd (kern_part HK.out hlk).1
                obtain ⟨p, hp⟩ : ∃ p, prt ks k = p := ⟨_, rfl⟩
                rw [hp] at p0 p1 p2 HSQ pb gv9
                rw [hS] at a1 sb
                obtain ⟨PX, PY, PT⟩ := p
                dsimp only at p0 p1 p2 HSQ pb gv9
                obtain ⟨pb1, pb2, pb3, pb4, _⟩ := pb
                obtain ⟨M, hM⟩ : ∃ M, way * PX = M := ⟨_, rfl⟩
                have m1 : -4 ≤ M ∧ M ≤ 4 := by rcases hway with h | h <;> (rw [h] at hM; omega)
                obtain ⟨m1, m2⟩ := m1
                have HGS : Hid (givesAt alt ks W H t E (vs, L) (k + 1) = give (givesAt alt ks W H t E (vs, L) k) (tgtAt alt W H t ⟨PX, PY, PT⟩) S) := Lib.hid (by rw [← hp, ← hS, ← HKL.out]; rfl)
                obtain ⟨TG, hTG⟩ : ∃ TG, tgtAt alt W H t ⟨PX, PY, PT⟩ = TG := ⟨_, rfl⟩
                rw [hTG] at HGS HSQ gv9
                obtain ⟨G, hG⟩ : ∃ G, givesAt alt ks W H t E (vs, L) k = G := ⟨_, rfl⟩
                rw [hG] at HSK HGS gl1 gl2 gv9
                rw [hG]
                obtain ⟨GR, GL⟩ := G
                dsimp only at HSK gl1 gl2 gv9 ⊢
                have GV := Lib.hid gv9
                have HMM := Lib.hid hM
                clear gv9 hp hS hG hTG
                by_cases hu : 0 ≤ X + M ∧ X + M < W
                case neg =>
                  have HU := Lib.hid hu
                  have HT0 : Hid (TG = none) := Lib.hid (by rw [HSQ.out]; exact tgt_out (fun h => HU.out (by rw [HMM.out] at h; exact ⟨h.1, h.2.1⟩)))
                  clear hu
                  go_wp2_with fail
                  refine (spec_l1In_no _ _ _ _ (by have := HU.out; omega)).mono ?_
                  rintro e5 w10 ⟨rfl, rfl⟩
                  go_wp2_with fail
                  go_roundw
                  case rel => exact ⟨k + 1, by omega, by go_num, by rw [HGS.out, HT0.out]; rfl, by rw [HGS.out, HT0.out]; exact HSK, HKK⟩
                  case measure => simp [intOf]; omega
                case pos =>
                  obtain ⟨u1, u2⟩ := hu
                  by_cases hy : Y + PY < H
                  case neg =>
                    have HU := Lib.hid hy
                    have HT0 : Hid (TG = none) := Lib.hid (by rw [HSQ.out]; exact tgt_out (fun h => HU.out h.2.2.2))
                    go_wp2_with fail
                    refine (spec_l1In_yes _ _ _ _ (by omega) (by omega)).mono ?_
                    rintro e5 w10 ⟨rfl, rfl⟩
                    go_wp2_with fail
                    go_roundw
                    case rel => exact ⟨k + 1, by omega, by go_num, by rw [HGS.out, HT0.out]; rfl, by rw [HGS.out, HT0.out]; exact HSK, HKK⟩
                    case measure => simp [intOf]; omega
                  case pos =>
                    have HT1 : Hid (TG = some ((Y + PY) * W + (X + M)).toNat) := Lib.hid (by rw [HSQ.out, ← HMM.out]; exact tgt_in ⟨by rw [HMM.out]; exact u1, by rw [HMM.out]; exact u2, by show 0 ≤ Y + PY; omega, hy⟩)
                    obtain ⟨s1, s2⟩ := row_bd u1 u2 (show 0 ≤ Y + PY by omega) hy
                    obtain ⟨V2, hV2⟩ : ∃ V2, (Y + PY) * W = V2 := ⟨_, rfl⟩
                    rw [hV2] at s1 HT1
                    obtain ⟨jj, hjj⟩ : ∃ jj : Nat, V2 + (X + M) = (jj : Int) := ⟨(V2 + (X + M)).toNat, by omega⟩
                    rw [show (V2 + (X + M)).toNat = jj by omega] at HT1
                    obtain ⟨jn, v1, v2⟩ := GV.out jj HT1.out
                    have g7 := HSK.out.vals.cell jn
                    have f7 := HSK.out.vals.frozen jj
                    have vl := HSK.out.vals.lt
                    obtain ⟨Q, hQ⟩ : ∃ Q, GR.getD jj 0 = Q := ⟨_, rfl⟩
                    rw [hQ] at g7 v1 v2
                    have HQQ := Lib.hid hQ
                    have z1 : IntKind.i64.wrap V2 = V2 := IntWalk.i64_in _ (by omega)
                    have z2 : IntKind.i64.wrap (jj : Int) = (jj : Int) := IntWalk.i64_in _ (by omega)
                    have z3 : IntKind.i64.wrap (Q + S) = Q + S := IntWalk.i64_in _ (by omega)
                    have z4 : (0 : Int) ≤ (jj : Int) := by omega
                    have z5 : (jj : Int) < (n : Int) := by omega
                    clear hQ s2
                    go_wp2_with fail
                    refine (spec_l1In_yes _ _ _ _ (by omega) (by omega)).mono ?_
                    rintro e5 w10 ⟨rfl, rfl⟩
                    go_wp2_with fail
                    go_region
                    clear z1 z2 z3 g7 f7
                    go_wp2_with fail
                    go_roundw
                    case rel => exact ⟨k + 1, by omega, by go_num, by rw [HGS.out, HT1.out]; rfl, by rw [HGS.out, HT1.out]; simp only [give, HQQ.out]; exact Lib.hid ((HSK.out.setVal jj (Q + S)).drewN 1), Lib.hid ((HKK.out.set (a := ⟨gv, jj, none⟩) (show Trio gv gd ge gv from Trio.d) _).drew)⟩
                    case measure => simp [intOf]; omega
              · obtain rfl : m9 = k := by omega
                go_wp2_with fail
                go_roundw
                case rel => exact ⟨t + 1, ds.set j dd, es.set j E, _, _, by omega, by go_num, rfl, Lib.hid (by have h := HST.out; rw [HKL.out] at h; exact h), HSK, HKA⟩
                case measure => simp [intOf]; omega
    · obtain rfl : t = n := by omega
      go_wp2_with fail
      go_ret3
      exact ⟨gd, ge, by rw [HSA.out.hL]; rfl, by have h := HSS.out.dots; rw [HSA.out.hd] at h; exact h, by have h := HSS.out.errs; rw [HSA.out.he] at h; exact h, by have := HSS.out.hd; omega, by have := HSS.out.he; omega, HB8.out.trans (HKP.out.below (B := w.heap.size) (fun i hi => by have := HSS.out.trio i hi; omega) (by have := HB8.out.size; omega))⟩

end Go.Proofs.Ytbopeibommnjgaa
