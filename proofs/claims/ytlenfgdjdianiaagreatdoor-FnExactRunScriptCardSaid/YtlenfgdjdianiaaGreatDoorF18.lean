/- Facts on which this claim rests, 18. -/
import Derived.Test.YtlenfgdjdianiaaGreatDoorF17
set_option linter.all false
set_option maxHeartbeats 6400000
namespace Go.Proofs.YtlenfgdjdianiaaGreatDoor
open Go.RowKit Tq Go.Proofs.Tryz
variable {alt : Bool} {y : Int}
structure SSt (w:World) (B gv gd ge n c:Nat) (vs ds es:List Int):Prop where
 hv:B<=gv
 hd:B<=gd
 he:B<=ge
 n1:gv≠gd
 n2:gv≠ge
 n3:gd≠ge
 vals:Own w gv n c vs
 dots:Own w gd n n ds
 errs:Own w ge n n es
namespace SSt
variable {w w' : World} {B gv gd ge n c : Nat} {vs ds es : List Int}
theorem below (h:SSt w B gv gd ge n c vs ds es) (hb:Below w w w'):SSt w' B gv gd ge n c vs ds es:=
 ⟨h.hv,h.hd,h.he,h.n1,h.n2,h.n3,h.vals.below hb h.vals.lt,h.dots.below hb h.dots.lt,h.errs.below hb h.errs.lt⟩
theorem drewN (h:SSt w B gv gd ge n c vs ds es) (m:Nat):SSt (w.drewN m) B gv gd ge n c vs ds es:=
 ⟨h.hv,h.hd,h.he,h.n1,h.n2,h.n3,h.vals.drewN m,h.dots.drewN m,h.errs.drewN m⟩
theorem setVal (h:SSt w B gv gd ge n c vs ds es) (j:Nat) (v:Int):SSt (w.setCell (gv,j) ↑v) B gv gd ge n c (vs.set j v) ds es:=
 ⟨h.hv,h.hd,h.he,h.n1,h.n2,h.n3,h.vals.set j v,h.dots.other (by simp;exact h.n1) _,h.errs.other (by simp;exact h.n2) _⟩
theorem setDot (h:SSt w B gv gd ge n c vs ds es) (j:Nat) (v:Int):SSt (w.setCell (gd,j) ↑v) B gv gd ge n c vs (ds.set j v) es:=
 ⟨h.hv,h.hd,h.he,h.n1,h.n2,h.n3,h.vals.other (by simp;exact fun e=>h.n1 e.symm) _,h.dots.set j v,h.errs.other (by simp;exact h.n3) _⟩
theorem setErr (h:SSt w B gv gd ge n c vs ds es) (j:Nat) (v:Int):SSt (w.setCell (ge,j) ↑v) B gv gd ge n c vs ds (es.set j v):=
 ⟨h.hv,h.hd,h.he,h.n1,h.n2,h.n3,h.vals.other (by simp;exact fun e=>h.n2 e.symm) _,h.dots.other (by simp;exact fun e=>h.n3 e.symm) _,h.errs.set j v⟩
theorem trio (h:SSt w B gv gd ge n c vs ds es): ∀i,yy gv gd ge i->B<=i:=by
 have:=h.hv;have:=h.hd;have:=h.he;rintro i (rfl | rfl | rfl) <;>assumption
theorem trioLt (h:SSt w B gv gd ge n c vs ds es): ∀i,yy gv gd ge i->i<w.heap.size:=by
 have:=h.vals.lt;have:=h.dots.lt;have:=h.errs.lt;rintro i (rfl | rfl | rfl) <;>assumption
end SSt
def zFX (alt:Bool) (y:Int):Bool:=decide (alt=true/\y % 2=1)
theorem zOE (h:alt=true/\y % 2=1):zFX alt y=true:=decide_eq_true h
theorem zIB (h: ¬(alt=true/\y % 2=1)):zFX alt y=false:=decide_eq_false h
set_option maxRecDepth 100000 in
theorem zJP (kad : Option Addr) (kn kcap : Nat) (W H : Int) (ad : Option Addr) (n cap : Nat) (xs : List Int) (alt : Bool) (ks : List Prt) (w : World)
    (hkl : ks.length = kn) (hkr : Rd w kad (flat ks)) (hkc : kn ≤ kcap) (hko : xF ks = true) (hn : xs.length = n) (ha : Rd w ad xs) (hp : zP W H xs 255 = true) :
    Calls Tryz.prog 100 #[.slice kad kn kcap, .agg #[.int .i64 W, .int .i64 H, .slice ad n cap], .bool alt] w fun e w' => ∃ gd ge, e = .returned (.tuple #[.slice (some ⟨gd, 0, none⟩) n n, .slice (some ⟨ge, 0, none⟩) n n, .int .i64 (yC alt ks W H xs n).lost]) ∧
      Own w' gd n n (yC alt ks W H xs n).dots ∧ Own w' ge n n (yC alt ks W H xs n).errs ∧ w.heap.size ≤ gd ∧ w.heap.size ≤ ge ∧ Below w.heap.size w w' := by
  have HKL := Jh hkl
  have HKR := Jh hkr
  have HKO := Jh hko
  have HRO := Jh (xz.of (alt := alt) hn hko hp)
  obtain ⟨k1, k2, k3⟩ := qv hkl hko
  have HK := Jh k3
  have HN := Jh hn
  have HA := Jh ha
  clear hn ha
  obtain ⟨hs, hq, hi⟩ := yH HN.Z hp
  obtain ⟨b1, b2, b3, b4, b5, b6⟩ := yF hs
  have HQ := Jh hq
  have HI := Jh hi
  have HS := Jh hs
  have hn1 : 1 ≤ n := by omega
  have hn2 : n ≤ 1024 := by omega
  clear hq hi hs
  clear hkl hkr hko k3
  obtain ⟨ba, oa, hae, hal, _⟩ := HA.Z.at (by have := HN.Z; omega)
  subst hae
  have HAP := Jh ((HA.Z.alloc (.cells #[.int .i64 W, .int .i64 H, .slice (some ⟨ba, oa, none⟩) n cap] 31)).alloc (.cells #[] 3))
  have HE0 : Hd (RowA ((w.alloc (.cells #[.int .i64 W, .int .i64 H, .slice (some ⟨ba, oa, none⟩) n cap] 31)).alloc (.cells #[] 3)) 3 1 (w.heap.size + 1) (some ⟨w.heap.size + 1, 0, none⟩) 0 0 []) := Jh (by
    have h := zBV (w.alloc (.cells #[.int .i64 W, .int .i64 H, .slice (some ⟨ba, oa, none⟩) n cap] 31)) 3 1
    rw [show (w.alloc (.cells #[.int .i64 W, .int .i64 H, .slice (some ⟨ba, oa, none⟩) n cap] 31)).heap.size = w.heap.size + 1 by simp] at h
    exact RowA.mk h (Nat.le_refl _))
  go_enter Tryz.func100, Tryz.ntmps100
  go_upto_region 2 with (at_builtin; refine zDm _ rfl 22 3 1 8 (.int .i64 0) Tryz.underlying22 zFD rfl (by decide) (by decide) (.tmp 24) (.tmp 26) rfl (w.heap.size + 1) 0 _ rfl HE0.Z ba oa n cap xs rfl (by have := HN.Z; omega) (fun j hj => by
    obtain ⟨b2, o2, h3, h4, h5⟩ := HAP.Z.at (by have := HN.Z; omega)
    cases h3
    exact h5 j (by have := HN.Z; omega)) (by omega) (by simp) ?_; intro ad2 cap2 w5 ho5 hg5)
  have HO5 := Jh ho5.toOwn
  have KP5 := Jh (((Blk.new w 31 #[.int .i64 W, .int .i64 H, .slice (some ⟨ba, oa, none⟩) n cap]).alloc (.cells #[] 3)).grown hg5 (by simp [zL]))
  have HB5 := Jh ((zJ (Joins.below_alloc1 w (.cells #[.int .i64 W, .int .i64 H, .slice (some ⟨ba, oa, none⟩) n cap] 31)) (.cells #[] 3)).grown hg5 (by simp; omega) (fun k hk => by simp [zL] at hk; omega))
  clear ho5 hg5
  obtain ⟨gv, hgv, hBv, hrv⟩ : ∃ g, ad2 = some ⟨g, 0, none⟩ ∧ w.heap.size + 1 ≤ g ∧ Own w5 g n cap2 xs := by
    rcases HO5.Z with ⟨_, h, _, _⟩ | h
    · omega
    · exact h
  subst hgv
  have HV5 := Jh hrv
  have gvl := hrv.lt
  clear hrv
  go_upto_region 3 with (at_make; refine jU _ rfl _ _ rfl .i64 .i64 n n n rfl rfl rfl rfl (by omega) ?_; intro M1 hM1)
  go_upto_region 4 with (at_make; refine jU _ rfl _ _ rfl .i64 .i64 n n n rfl rfl rfl rfl (by omega) ?_; intro M2 hM2)
  have HS0 : Hd (SSt ((w5.alloc (.cells M1 3)).alloc (.cells M2 3)) (w.heap.size + 1) gv w5.heap.size (w5.heap.size + 1) n cap2 xs (List.replicate n 0) (List.replicate n 0)) := Jh
    ⟨hBv, by have := KP5.Z.lt; omega, by have := KP5.Z.lt; omega, by omega, by omega, by omega, (HV5.Z.alloc _).alloc _, (hM1.own w5).alloc _, hM2.own' _ (by simp)⟩
  have KP7 := Jh ((KP5.Z.alloc (.cells M1 3)).alloc (.cells M2 3))
  have HB7 := Jh (zJ (zJ HB5.Z (.cells M1 3)) (.cells M2 3))
  obtain ⟨w7, hw7⟩ : ∃ w7 : World, w7 = (w5.alloc (.cells M1 3)).alloc (.cells M2 3) := ⟨_, rfl⟩
  rw [← hw7] at HS0 KP7 HB7 ⊢
  obtain ⟨gd, hgd⟩ : ∃ gd, w5.heap.size = gd := ⟨_, rfl⟩
  obtain ⟨ge, hge⟩ : ∃ ge, w5.heap.size + 1 = ge := ⟨_, rfl⟩
  rw [hge, hgd] at HS0 ⊢
  clear hw7 hgd hge hM1 hM2 hBv gvl
  go_wp2_with fail
  refine (zDy _ _ _ ks _ HKL.Z (by exact HKR.Z.below HB7.Z) (by omega) hkc).mono ?_
  rw [ZU HKL.Z HKO.Z]
  rintro e w8 ⟨rfl, hb⟩
  have HS8 := Jh (HS0.Z.below hb)
  have KP8 := Jh (KP7.Z.zA hb)
  have HB8 := Jh (zI HB7.Z hb)
  clear hb
  obtain ⟨l0, o0, o1, o2⟩ := KP8.Z.c3
  go_wp2_with fail
  go_loopw [13, 38] (fun s13 i wr => ∃ (t : Nat) (ds es vs : List Int) (L : Int), t ≤ n ∧ i = .int .i64 t ∧ s13 = .int .i64 L ∧ Hd (vy alt ks W H xs n t ds es vs L) ∧ Hd (SSt wr (w.heap.size + 1) gv gd ge n cap2 vs ds es) ∧ Hd (Keep (yy gv gd ge) w8 wr)) (fun _ i _ => n - (intOf i).toNat)
  case atStart => exact ⟨0, _, _, _, _, Nat.zero_le _, rfl, rfl, Jh (vy.start HRO.Z), HS8, Jh (Keep.refl _ _)⟩
  case round =>
    obtain ⟨t, ds, es, vs, L, ht, rfl, rfl, HSA, HSS, HKP⟩ := hrel
    have KPr := Jh (HKP.Z.blk KP8.Z (fun h => by have := HSS.Z.trio _ h; omega))
    clear l0 o0 o1 o2
    obtain ⟨l0, o0, o1, o2⟩ := KPr.Z.c3
    by_cases hlt : t < n
    · have e1 : 0 ≤ (t : Int) % W := Yg _ (by omega)
      have e2 : (t : Int) % W < W := Ye _ (by omega)
      have e3 : 0 ≤ (t : Int) / W := Yw (by omega) (by omega)
      have e4 : (t : Int) / W ≤ t := Int.ediv_le_self _ (by omega)
      have hW0 : (W == 0) = false := by simp; omega
      have hW1 : ¬ W = 0 := by omega
      go_upto_region 12 with fail
      go_cut [54] (fun s54 wx => s54 = .bool (zFX alt ((t : Int) / W)) ∧ wx = wr)
      case first =>
        cases alt
        case false =>
          go_wp2_with fail
          go_meet
          exact ⟨by rw [zIB (by simp)], rfl⟩
        case true =>
          by_cases hy : (t : Int) / W % 2 = 1
          · have hy2 : ((t : Int) / W % 2 == 1) = true := by simpa using hy
            have HY := Jh hy
            clear hy
            go_wp2_with fail
            go_meet
            exact ⟨by rw [zOE ⟨rfl, HY.Z⟩], rfl⟩
          · have hy2 : ((t : Int) / W % 2 == 1) = false := by simpa using hy
            have HY := Jh hy
            clear hy
            go_wp2_with fail
            go_meet
            exact ⟨by rw [zIB (fun h => HY.Z h.2)], rfl⟩
      case rest =>
        obtain ⟨rfl, rfl⟩ := hcut
        go_upto_if 54 with (fail)
        go_cut [16, 17] (fun s16 s17 wx => s16 = .int .i64 (xAt alt W t) ∧ s17 = .int .i64 (vA alt ((t : Int) / W)) ∧ wx = wc)
        case first =>
          by_cases hr : zFX alt ((t : Int) / W) = true
          · have HRV := Jh hr
            rw [hr]
            clear hr
            go_wp2_with fail
            go_meet
            exact ⟨by unfold xAt; rw [if_pos (of_decide_eq_true HRV.Z)], by unfold vA; rw [if_pos (of_decide_eq_true HRV.Z)], rfl⟩
          · have hr2 : zFX alt ((t : Int) / W) = false := by simpa using hr
            have HRV := Jh hr2
            rw [hr2]
            clear hr hr2
            go_wp2_with fail
            go_meet
            exact ⟨by unfold xAt; rw [if_neg (of_decide_eq_false HRV.Z)], by unfold vA; rw [if_neg (of_decide_eq_false HRV.Z)], rfl⟩
        case rest =>
          obtain ⟨rfl, rfl, rfl⟩ := hcut
          obtain ⟨q1, q2, q3, q4, q5, q6⟩ := qp (alt := alt) HRO.Z.W1 HRO.Z.hn hlt
          obtain ⟨x1, x2⟩ := zBl (alt := alt) (W := W) (i := t) b1
          obtain ⟨h1, h2, h3, h4, h5, h6⟩ := HSA.Z.here HRO.Z hlt
          have HSF := Jh (fun k hk => HSA.Z.safe HRO.Z hlt k hk)
          have HST := Jh (HSA.Z.step HRO.Z hlt)
          have HTG := Jh (show ∀ q, vf alt W H t (prt ks q) = tgt W H (xAt alt W t) ((t : Int) / W) (vA alt ((t : Int) / W)) (prt ks q) from fun q => rfl)
          have hway : vA alt ((t : Int) / W) = 1 ∨ vA alt ((t : Int) / W) = -1 := by unfold vA; split <;> simp
          obtain ⟨j, hj⟩ : ∃ j, zQ alt W t = j := ⟨_, rfl⟩
          rw [hj] at q1 q2 h2 h3 h4 HSF HST
          obtain ⟨v, hv⟩ : ∃ v, vs.getD j 0 = v := ⟨_, rfl⟩
          rw [hv] at h3 h4 HSF HST
          obtain ⟨X, hX⟩ : ∃ X, xAt alt W t = X := ⟨_, rfl⟩
          obtain ⟨Y, hY⟩ : ∃ Y, (t : Int) / W = Y := ⟨_, rfl⟩
          rw [hY] at hway HTG e3 e4 q2 q3 q4
          rw [hX] at x1 x2 q2 HTG
          obtain ⟨way, hwa⟩ : ∃ way, vA alt Y = way := ⟨_, rfl⟩
          rw [hwa] at hway HTG
          rw [hX, hY, hwa]
          have hyr := ve x1 x2 q3 q4
          obtain ⟨V, hV⟩ : ∃ V, Y * W = V := ⟨_, rfl⟩
          rw [hV] at q2 hyr
          obtain ⟨r1, _⟩ := hyr
          have hvx : V + X = (j : Int) := q2.symm
          have g1 := HSS.Z.vals.cell q1
          rw [hv] at g1
          have g3 := HSS.Z.dots.cell q1
          have f3 := HSS.Z.dots.frozen j
          have vl := HSS.Z.vals.lt
          have dl := HSS.Z.dots.lt
          have el := HSS.Z.errs.lt
          have HDZ := Jh h2
          have HJV := Jh hv
          clear h1 h2 q2 q5 q6 hj hv hX hY hwa
          go_upto_if 71 with (fail)
          obtain ⟨wr, hwr⟩ : ∃ wr, wr = wc := ⟨_, rfl⟩
          rw [← hwr] at HSS HKP KPr vl dl el g1 g3 f3 l0 o0 o1 o2 ⊢
          clear hwr
          go_cut [19] (fun s19 wx => s19 = .int .i64 (yD v) ∧ Hd (SSt wx (w.heap.size + 1) gv gd ge n cap2 vs (ds.set j (uK v)) es) ∧ Hd (Keep (yy gv gd ge) wr wx))
          case first =>
            by_cases h128 : 128 ≤ v
            · go_wp2_with fail
              go_meet
              obtain ⟨d1, d2⟩ := zHk h128
              rw [d1, d2]
              exact ⟨rfl, Jh (HSS.Z.setDot j 1), Jh ((Keep.refl _ _).set (a := ⟨gd, j, none⟩) (show yy gv gd ge gd from yy.p) _)⟩
            · go_wp2_with fail
              go_meet
              obtain ⟨d1, d2⟩ := zKU (show ¬ 128 ≤ v by omega)
              rw [d1, d2]
              exact ⟨rfl, Jh (by rw [zAJ HDZ.Z (by rw [HSS.Z.dots.len]; exact q1)]; exact HSS.Z), Jh (Keep.refl _ _)⟩
          case rest =>
            obtain ⟨rfl, HSD, HKD⟩ := hcut
            have eb := VW v
            obtain ⟨E, hE⟩ : ∃ E, yD v = E := ⟨_, rfl⟩
            rw [hE] at eb HSF HST ⊢
            obtain ⟨dd, hdd⟩ : ∃ dd, uK v = dd := ⟨_, rfl⟩
            rw [hdd] at HSD HST
            have el2 := HSD.Z.errs.lt
            have g4 := HSD.Z.errs.cell q1
            have f4 := HSD.Z.errs.frozen j
            have KPd := Jh (HKD.Z.blk KPr.Z (fun h => by have := HSS.Z.trio _ h; omega))
            have HSE := Jh (HSD.Z.setErr j E)
            have HKE := Jh (HKD.Z.set (a := ⟨ge, j, none⟩) (show yy gv gd ge ge from yy.r) (.int .i64 E))
            clear l0 o0 o1 o2 g1 g3 f3 hE hdd vl dl el
            go_wp2_with fail
            refine (zDz kad kn kcap ks (yB ks kn) E _ HKL.Z (by exact HKR.Z.below (HB8.Z.trans ((HKP.Z.trans HKE.Z).below (B := w.heap.size) (fun i hi => by have := HSS.Z.trio i hi; omega) (by have := HB8.Z.size; omega)))) k1 k2 HK.Z rfl (by omega) (by omega)).mono ?_
            rintro e2 w9 ⟨a9, m9, c9, rfl, ho9, hm9, hb9⟩
            obtain rfl : m9 = kn := by
              have h := ho9.len
              rw [Xo, HKL.Z] at h
              exact h.symm
            have HO9 := Jh ho9
            have HS9 := Jh (HSE.Z.below hb9)
            have HK9 := Jh ((HKP.Z.trans HKE.Z).trans (Keep.zE hb9))
            have HTB := Jh HSE.Z.trioLt
            have HSL : Hd ((yI ks (yB ks m9) E).length = m9) := Jh ho9.len
            clear ho9 hb9 hm9 g4 f4 el2
            go_wp2_with fail
            go_loopw [13, 86] (fun s13 i wy => ∃ k : Nat, k ≤ m9 ∧ i = .int .i64 k ∧ s13 = .int .i64 (ye alt ks W H t E (vs, L) k).2 ∧ Hd (SSt wy (w.heap.size + 1) gv gd ge n cap2 (ye alt ks W H t E (vs, L) k).1 (ds.set j dd) (es.set j E)) ∧ Hd (Keep (yy gv gd ge) w9 wy)) (fun _ i _ => m9 - (intOf i).toNat)
            case atStart => exact ⟨0, Nat.zero_le _, rfl, rfl, HS9, Jh (Keep.refl _ _)⟩
            case round =>
              obtain ⟨k, hk, rfl, rfl, HSK, HKK⟩ := hrel
              have HKA := Jh (HK9.Z.trans HKK.Z)
              have KPk := Jh (HKA.Z.blk KP8.Z (fun h => by have := HSS.Z.trio _ h; omega))
              obtain ⟨l0, o0, o1, o2⟩ := KPk.Z.c3
              by_cases hlk : k < m9
              · obtain ⟨ba, oa, hae, hal, hac⟩ := (HKK.Z.ownA HO9.Z HTB.Z).rd.at (by have := HSL.Z; omega)
                subst hae
                have a1 := hac k (by have := HSL.Z; omega)
                clear hac
                obtain ⟨bk, ok, hke, hkl2, p0, p1, p2⟩ := uC (HKR.Z.below (HB8.Z.trans (HKA.Z.below (B := w.heap.size) (fun i hi => by have := HSS.Z.trio i hi; omega) (by have := HB8.Z.size; omega)))) (k := k) (by have := HKL.Z; omega)
                subst hke
                obtain ⟨S, hS⟩ : ∃ S, (yI ks (yB ks m9) E).getD k 0 = S := ⟨_, rfl⟩
                have sb := zAK (e := E) HKL.Z k1 k2 HK.Z k hlk
                obtain ⟨gl1, gl2, gv9⟩ := HSF.Z k (by have := HKL.Z; omega)
                have HSQ := Jh (HTG.Z k)
                have pb := vc (vZ HK.Z hlk).1
                obtain ⟨p, hp⟩ : ∃ p, prt ks k = p := ⟨_, rfl⟩
                rw [hp] at p0 p1 p2 HSQ pb gv9
                rw [hS] at a1 sb
                obtain ⟨PX, PY, PT⟩ := p
                dsimp only at p0 p1 p2 HSQ pb gv9
                obtain ⟨pb1, pb2, pb3, pb4, _⟩ := pb
                obtain ⟨M, hM⟩ : ∃ M, way * PX = M := ⟨_, rfl⟩
                have m1 : -4 ≤ M ∧ M ≤ 4 := by rcases hway with h | h <;> (rw [h] at hM; omega)
                obtain ⟨m1, m2⟩ := m1
                have HGS : Hd (ye alt ks W H t E (vs, L) (k + 1) = ju (ye alt ks W H t E (vs, L) k) (vf alt W H t ⟨PX, PY, PT⟩) S) := Jh (by rw [← hp, ← hS, ← HKL.Z]; rfl)
                obtain ⟨TG, hTG⟩ : ∃ TG, vf alt W H t ⟨PX, PY, PT⟩ = TG := ⟨_, rfl⟩
                rw [hTG] at HGS HSQ gv9
                obtain ⟨G, hG⟩ : ∃ G, ye alt ks W H t E (vs, L) k = G := ⟨_, rfl⟩
                rw [hG] at HSK HGS gl1 gl2 gv9
                rw [hG]
                obtain ⟨GR, GL⟩ := G
                dsimp only at HSK gl1 gl2 gv9 ⊢
                have GV := Jh gv9
                have HMM := Jh hM
                clear gv9 hp hS hG hTG
                by_cases hu : 0 ≤ X + M ∧ X + M < W
                case neg =>
                  have HU := Jh hu
                  have HT0 : Hd (TG = none) := Jh (by rw [HSQ.Z]; exact zII (fun h => HU.Z (by rw [HMM.Z] at h; exact ⟨h.1, h.2.1⟩)))
                  clear hu
                  go_wp2_with fail
                  refine (yx _ _ _ _ (by have := HU.Z; omega)).mono ?_
                  rintro e5 w10 ⟨rfl, rfl⟩
                  go_wp2_with fail
                  go_roundw
                  case rel => exact ⟨k + 1, by omega, by go_num, by rw [HGS.Z, HT0.Z]; rfl, by rw [HGS.Z, HT0.Z]; exact HSK, HKK⟩
                  case measure => simp [intOf]; omega
                case pos =>
                  obtain ⟨u1, u2⟩ := hu
                  by_cases hy : Y + PY < H
                  case neg =>
                    have HU := Jh hy
                    have HT0 : Hd (TG = none) := Jh (by rw [HSQ.Z]; exact zII (fun h => HU.Z h.2.2.2))
                    go_wp2_with fail
                    refine (zz _ _ _ _ (by omega) (by omega)).mono ?_
                    rintro e5 w10 ⟨rfl, rfl⟩
                    go_wp2_with fail
                    go_roundw
                    case rel => exact ⟨k + 1, by omega, by go_num, by rw [HGS.Z, HT0.Z]; rfl, by rw [HGS.Z, HT0.Z]; exact HSK, HKK⟩
                    case measure => simp [intOf]; omega
                  case pos =>
                    have HT1 : Hd (TG = some ((Y + PY) * W + (X + M)).toNat) := Jh (by rw [HSQ.Z, ← HMM.Z]; exact zQm ⟨by rw [HMM.Z]; exact u1, by rw [HMM.Z]; exact u2, by show 0 ≤ Y + PY; omega, hy⟩)
                    obtain ⟨s1, s2⟩ := ve u1 u2 (show 0 ≤ Y + PY by omega) hy
                    obtain ⟨V2, hV2⟩ : ∃ V2, (Y + PY) * W = V2 := ⟨_, rfl⟩
                    rw [hV2] at s1 HT1
                    obtain ⟨jj, hjj⟩ : ∃ jj : Nat, V2 + (X + M) = (jj : Int) := ⟨(V2 + (X + M)).toNat, by omega⟩
                    rw [show (V2 + (X + M)).toNat = jj by omega] at HT1
                    obtain ⟨jn, v1, v2⟩ := GV.Z jj HT1.Z
                    have g7 := HSK.Z.vals.cell jn
                    have f7 := HSK.Z.vals.frozen jj
                    have vl := HSK.Z.vals.lt
                    obtain ⟨Q, hQ⟩ : ∃ Q, GR.getD jj 0 = Q := ⟨_, rfl⟩
                    rw [hQ] at g7 v1 v2
                    have HQQ := Jh hQ
                    have z1 : IntKind.i64.wrap V2 = V2 := Yc _ (by omega)
                    have z2 : IntKind.i64.wrap (jj : Int) = (jj : Int) := Yc _ (by omega)
                    have z3 : IntKind.i64.wrap (Q + S) = Q + S := Yc _ (by omega)
                    have z4 : (0 : Int) ≤ (jj : Int) := by omega
                    have z5 : (jj : Int) < (n : Int) := by omega
                    clear hQ s2
                    go_wp2_with fail
                    refine (zz _ _ _ _ (by omega) (by omega)).mono ?_
                    rintro e5 w10 ⟨rfl, rfl⟩
                    go_wp2_with fail
                    go_region
                    clear z1 z2 z3 g7 f7
                    go_wp2_with fail
                    go_roundw
                    case rel => exact ⟨k + 1, by omega, by go_num, by rw [HGS.Z, HT1.Z]; rfl, by rw [HGS.Z, HT1.Z]; simp only [ju, HQQ.Z]; exact Jh ((HSK.Z.setVal jj (Q + S)).drewN 1), Jh ((HKK.Z.set (a := ⟨gv, jj, none⟩) (show yy gv gd ge gv from yy.d) _).drew)⟩
                    case measure => simp [intOf]; omega
              · obtain rfl : m9 = k := by omega
                go_wp2_with fail
                go_roundw
                case rel => exact ⟨t + 1, ds.set j dd, es.set j E, _, _, by omega, by go_num, rfl, Jh (by have h := HST.Z; rw [HKL.Z] at h; exact h), HSK, HKA⟩
                case measure => simp [intOf]; omega
    · obtain rfl : t = n := by omega
      go_wp2_with fail
      go_ret3
      exact ⟨gd, ge, by rw [HSA.Z.hL]; rfl, by have h := HSS.Z.dots; rw [HSA.Z.hd] at h; exact h, by have h := HSS.Z.errs; rw [HSA.Z.he] at h; exact h, by have := HSS.Z.hd; omega, by have := HSS.Z.he; omega, HB8.Z.trans (HKP.Z.below (B := w.heap.size) (fun i hi => by have := HSS.Z.trio i hi; omega) (by have := HB8.Z.size; omega))⟩
def zHa (w:World) (R:Pic × Int × Bool) (e:Ending) (w':World):Prop:=
 ∃a n c,e= .returned (.tuple #[.agg #[R.1.W,R.1.H, .slice a n c],R.2.1, .bool R.2.2])/\OwnA w' w a n c R.1.ink/\n<=1048576/\Below w w w'
section
set_option maxRecDepth 100000
theorem VB (m:Option Addr) (z f:Nat) (ks:List Prt) (W H:Int) (k:Option Addr) (n b:Nat) (xs:List Int) (alt:Bool) (w:World)
 (A:ks.length=z) (x:Rd w m (flat ks)) (T:z<=1048576) (o:z<=f) (hn:xs.length=n) (ha:Rd w k xs) (hl:n<=9223372036854775807):
 Calls prog 161 #[.slice m z f, .agg #[W,H, .slice k n b], .bool alt] w (zHa w (kE ks W H xs alt)):=by
 have s:=Jh A;have D:=Jh ((x.alloc (.cells #[W,H, .slice k n b] 31)).alloc (.cells ↑Zp 31));have N:=Jh hn;have HA:=Jh ((ha.alloc (.cells #[W,H, .slice k n b] 31)).alloc (.cells ↑Zp 31));have b6:=Jh (Joins.below_alloc2 w (.cells #[W,H, .slice k n b] 31) (.cells ↑Zp 31));have V:=Jh ((Blk.new w 31 #[W,H, .slice k n b]).alloc (.cells ↑Zp 31));have b5:=Jh (Blk.zD (g:=w.heap.size+1) (w:=w.alloc (.cells #[W,H, .slice k n b] 31)) 31 ↑Zp sI);obtain ⟨R,hR⟩: ∃R,kE ks W H xs alt=R:=⟨_,rfl⟩
 rw [hR];have Y:=Jh hR;clear A x hn ha hR;go_in;go_wp2_with fail;refine (Zm _ _ _ ks _ s.Z (by exact D.Z) T o).mono ?_;rintro e w1 ⟨rfl,hb⟩;have t:=Jh (b6.Z.trans (hb.mono sO));have C:=Jh (V.Z.zA hb);have l:=Jh (b5.Z.zA hb);have J:=Jh (D.Z.below hb);have F:=Jh (HA.Z.below hb);clear hb;by_cases hk:xF ks=true
 case neg=>
  have I:xF ks=false:=by simpa using hk
  rw [I];have i:=t;obtain rfl:R=(yb,0,false):=Y.Z.symm.trans (YN (fun h=>hk h.1));clear hk I;obtain ⟨M,L,d1,d2⟩:=l.Z.c3;obtain ⟨f0,f1,f2⟩:=l.Z.f3;go_wp2_with fail;exact bodyPost_ret (v:= .tuple #[.agg ↑Zp,Z0, .bool false]) (by simp [results,results161,go_sem,L,d1,d2]) rfl ⟨none,0,0,rfl,oN,om,((i.Z.setCell sI _).setCell sI _).setCell sI _⟩
 rw [hk];have E:=Jh hk;clear hk;obtain ⟨U,c0,c1,c2⟩:=C.Z.c3;go_wp2_with fail;refine (ym _ _ _ _ _ xs _ N.Z (by exact F.Z) hl).mono ?_;rintro e w2 ⟨rfl,hb⟩;have i:=Jh (zI t.Z hb);have b1:=Jh (C.Z.zA hb);have j:=Jh (l.Z.zA hb);have u:=Jh (J.Z.below hb);have Q:=Jh (F.Z.below hb);clear hb U c0 c1 c2;by_cases hp:zP W H xs 255=true
 case neg=>
  have G:zP W H xs 255=false:=by simpa using hp
  rw [G];obtain rfl:R=(yb,0,false):=Y.Z.symm.trans (YN (fun h=>hp h.2));clear hp G;obtain ⟨M,L,d1,d2⟩:=j.Z.c3;obtain ⟨f0,f1,f2⟩:=j.Z.f3;go_wp2_with fail;exact bodyPost_ret (v:= .tuple #[.agg ↑Zp,Z0, .bool false]) (by simp [results,results161,go_sem,L,d1,d2]) rfl ⟨none,0,0,rfl,oN,om,((i.Z.setCell sI _).setCell sI _).setCell sI _⟩
 rw [hp];have HP:=Jh hp;have b7:=Jh (Y.Z.symm.trans (XM N.Z E.Z hp));obtain ⟨hs,hq,hi⟩:=yH N.Z hp;have b4:n<=1048576:=by have:=yF hs;omega
 clear hp hs hq hi;obtain ⟨U,c0,c1,c2⟩:=b1.Z.c3;go_wp2_with fail;refine (zDp m z f W H k n b xs alt ks _ s.Z (by exact u.Z) o E.Z N.Z (by exact Q.Z) HP.Z).mono ?_;rintro e w3 ⟨O,gr,rc,rfl,o1,o2,h1,h2,hb⟩;have b0:=Jh o1;have b3:=Jh (zI i.Z hb);have q:=Jh (j.Z.zA hb);have P:=Jh (show w.heap.size+1<O from Yb j.Z.lt h1);clear o1 o2 h1 h2 hb U c0 c1 c2;obtain ⟨M,L,d1,d2⟩:=q.Z.c3;obtain ⟨f0,f1,f2⟩:=q.Z.f3;go_wp2_with fail
 go_region
 go_wp2_with fail;obtain rfl:=b7.Z;have b2:=Jh (((b0.Z.other (a:=↑(w.heap.size+1)) (oS P.Z) ↑W).other (a:=↑(w.heap.size+1,1)) (oS P.Z) ↑H).other (a:=↑(w.heap.size+1,2)) (oS P.Z) (.slice ↑O n n));have X:=Jh (((b3.Z.setCell (show w.heap.size<=(↑(w.heap.size+1):Addr).block by simp) ↑W).setCell (show w.heap.size<=(↑(w.heap.size+1,1):Addr).block by simp) ↑H).setCell (show w.heap.size<=(↑(w.heap.size+1,2):Addr).block by simp) (.slice ↑O n n))
 exact bodyPost_ret (v:= .tuple #[.agg #[W,H, .slice ↑O n n],(yC alt ks W H xs n).lost, .bool true]) (by simp [results,results161,go_sem,L,d1,d2,M,Yb M]) rfl
  ⟨_,_,_,rfl,OwnA.mk ((b2.Z.alloc _).drewN 1) (oh P),b4,(zJ X.Z _).drew⟩
theorem vR (m:Option Addr) (z f:Nat) (ks:List Prt) (W H:Int) (k:Option Addr) (n b:Nat) (xs:List Int) (alt:Bool) (w:World)
 (C:ks.length=z) (x:Rd w m (flat ks)) (T:z<=1048576) (o:z<=f) (hn:xs.length=n) (ha:Rd w k xs) (hl:n<=9223372036854775807):
 Calls prog 55 #[.slice m z f, .agg #[W,H, .slice k n b], .bool alt] w (zHa w (kE ks W H xs alt)):=by
 have s:=Jh C;have E:=Jh ((x.alloc (.cells #[W,H, .slice k n b] 31)).alloc (.cells ↑Zp 31));have O:=Jh hn;have HA:=Jh ((ha.alloc (.cells #[W,H, .slice k n b] 31)).alloc (.cells ↑Zp 31));have b5:=Jh (Joins.below_alloc2 w (.cells #[W,H, .slice k n b] 31) (.cells ↑Zp 31));have U:=Jh ((Blk.new w 31 #[W,H, .slice k n b]).alloc (.cells ↑Zp 31));have b4:=Jh (Blk.zD (g:=w.heap.size+1) (w:=w.alloc (.cells #[W,H, .slice k n b] 31)) 31 ↑Zp sI);obtain ⟨R,hR⟩: ∃R,kE ks W H xs alt=R:=⟨_,rfl⟩
 rw [hR];have X:=Jh hR;clear C x hn ha hR;go_in;go_wp2_with fail;refine (Zq _ _ _ ks _ s.Z (by exact E.Z) T o).mono ?_;rintro e w1 ⟨rfl,hb⟩;have t:=Jh (b5.Z.trans (hb.mono sO));have D:=Jh (U.Z.zA hb);have l:=Jh (b4.Z.zA hb);have L:=Jh (E.Z.below hb);have G:=Jh (HA.Z.below hb);clear hb;by_cases hk:xF ks=true
 case neg=>
  have J:xF ks=false:=by simpa using hk
  rw [J];have i:=t;obtain rfl:R=(yb,0,false):=X.Z.symm.trans (YN (fun h=>hk h.1));clear hk J;obtain ⟨m1,M,d1,d2⟩:=l.Z.c3;obtain ⟨f0,f1,f2⟩:=l.Z.f3;go_wp2_with fail;exact bodyPost_ret (v:= .tuple #[.agg ↑Zp,Z0, .bool false]) (by simp [results,results55,go_sem,M,d1,d2]) rfl ⟨none,0,0,rfl,oN,om,((i.Z.setCell sI _).setCell sI _).setCell sI _⟩
 rw [hk];have F:=Jh hk;clear hk;obtain ⟨N,c0,c1,c2⟩:=D.Z.c3;go_wp2_with fail;refine (yT _ _ _ _ _ xs _ O.Z (by exact G.Z) hl).mono ?_;rintro e w2 ⟨rfl,hb⟩;have i:=Jh (zI t.Z hb);have A:=Jh (D.Z.zA hb);have j:=Jh (l.Z.zA hb);have u:=Jh (L.Z.below hb);have Q:=Jh (G.Z.below hb);clear hb N c0 c1 c2;by_cases hp:zP W H xs 255=true
 case neg=>
  have I:zP W H xs 255=false:=by simpa using hp
  rw [I];obtain rfl:R=(yb,0,false):=X.Z.symm.trans (YN (fun h=>hp h.2));clear hp I;obtain ⟨m1,M,d1,d2⟩:=j.Z.c3;obtain ⟨f0,f1,f2⟩:=j.Z.f3;go_wp2_with fail;exact bodyPost_ret (v:= .tuple #[.agg ↑Zp,Z0, .bool false]) (by simp [results,results55,go_sem,M,d1,d2]) rfl ⟨none,0,0,rfl,oN,om,((i.Z.setCell sI _).setCell sI _).setCell sI _⟩
 rw [hp];have HP:=Jh hp;have b6:=Jh (X.Z.symm.trans (XM O.Z F.Z hp));obtain ⟨hs,hq,hi⟩:=yH O.Z hp;have b3:n<=1048576:=by have:=yF hs;omega
 clear hp hs hq hi;obtain ⟨N,c0,c1,c2⟩:=A.Z.c3;go_wp2_with fail;refine (zJP m z f W H k n b xs alt ks _ s.Z (by exact u.Z) o F.Z O.Z (by exact Q.Z) HP.Z).mono ?_;rintro e w3 ⟨gd,ge,rfl,o1,o2,h1,h2,hb⟩;have Y:=Jh o1;have b2:=Jh (zI i.Z hb);have q:=Jh (j.Z.zA hb);have b1:=Jh (A.Z.zA hb);have P:=Jh (show w.heap.size+1<gd from Yb j.Z.lt h1);clear o1 o2 h1 h2 hb N c0 c1 c2;obtain ⟨m1,M,d1,d2⟩:=q.Z.c3;obtain ⟨f0,f1,f2⟩:=q.Z.f3;obtain ⟨N,c0,c1,c2⟩:=b1.Z.c3;go_wp2_with fail;obtain rfl:=b6.Z;have b0:=Jh (((Y.Z.other (a:=↑(w.heap.size+1)) (oS P.Z) ↑W).other (a:=↑(w.heap.size+1,1)) (oS P.Z) ↑H).other (a:=↑(w.heap.size+1,2)) (oS P.Z) (.slice ↑gd n n));have V:=Jh (((b2.Z.setCell (show w.heap.size<=(↑(w.heap.size+1):Addr).block by simp) ↑W).setCell (show w.heap.size<=(↑(w.heap.size+1,1):Addr).block by simp) ↑H).setCell (show w.heap.size<=(↑(w.heap.size+1,2):Addr).block by simp) (.slice ↑gd n n))
 exact bodyPost_ret (v:= .tuple #[.agg #[W,H, .slice ↑gd n n],(yC alt ks W H xs n).lost, .bool true]) (by simp [results,results55,go_sem,M,d1,d2]) rfl
  ⟨_,_,_,rfl,OwnA.mk b0.Z (oh P),b3,V.Z⟩
end
def xV (d:Dat):Pic × List UInt8:=(qG d.2.1.W d.2.1.H d.2.1.ink d.1.W d.1.H d.1.ink,jM)
def yU (ks:List Prt) (alt:Bool) (d:Dat):Pic × List UInt8:=((kE ks d.1.W d.1.H d.1.ink alt).1,xI [(kE ks d.1.W d.1.H d.1.ink alt).2.1])
section
set_option maxRecDepth 100000
theorem zFV (D:Dsk) (w:World) (hr:RdD w D) (l:jX D):
 Calls prog 117 (#[.agg ↑D]++#[]) w (Qf w (xV D.dat)):=by
 show Calls prog 117 #[.agg ↑D] w _;have j:=Jh hr;have F:=l.p;have u:=l.m;have b:=Jh (zJ (zJ (Below.refl w w) (.cells ↑D 35)) (.cells ↑Zp 31));have f:=Jh (Blk.zD (g:=w.heap.size+1) (w:=w.alloc (.cells ↑D 35)) 31 ↑Zp sI);clear hr l;go_in;go_wp2_with fail;refine (Vf D.M.W D.M.H D.M.a D.M.n D.M.c D.M.ink D.P.W D.P.H D.P.a D.P.n D.P.c D.P.ink _ j.Z.ml (by exact j.Z.mr.below b.Z) om j.Z.pl (by exact j.Z.pr.below b.Z) om).mono ?_;rintro e w1 ⟨a1,n1,k1,rfl,t,k,hb⟩;have o:=Jh (zI b.Z hb);have i:=Jh (f.Z.zA hb);have q:=Jh t;have z:Hd (w.heap.size+2<=w1.heap.size):=Jh (by have:=hb.size;simpa using this);clear hb t f;obtain ⟨x,c0,c1,c2⟩:=i.Z.c3;obtain ⟨E,A,C⟩:=i.Z.f3;go_wp2_with fail;obtain ⟨R,s⟩: ∃R,qG D.M.W D.M.H D.M.ink D.P.W D.P.H D.P.ink=R:=⟨_,rfl⟩
 rw [s] at q⊢
 exact bodyPost_ret (v:= .tuple #[.agg #[R.W,R.H, .slice a1 n1 k1], .string ⟨#[111,107]⟩]) (by simp [results,results117,go_sem,c0,c1,c2]) rfl
  ⟨R.W,R.H,a1,n1,k1,R.ink,rfl,s.symm,OwnA.mono (((q.Z.other sI _).other sI _).other sI _) sO,k,((o.Z.setCell sI _).setCell sI _).setCell sI _⟩
theorem zDv (L M z X:Nat) (q:Option Addr) (ks:List Prt) (alt:Bool) (D:Dsk) (w:World) (hr:RdD w D) (hs:jX D) (hL:jt w)
 (C:w.cell? L=some (.slice q z X)) (F:w.cell? M=some (.bool alt)) (b0:L<w.heap.size) (T:M<w.heap.size)
 (t:ks.length=z) (I:Rd w q (flat ks)) (V:z<=1048576) (U:z<=X) (hi:yK (kE ks D.P.W D.P.H D.P.ink alt).2.1):
 Calls prog 160 (#[.agg ↑D]++#[.pointer ↑L, .pointer ↑M]) w (Qf w (yU ks alt D.dat)):=by
 show Calls prog 160 #[.agg ↑D, .pointer ↑L, .pointer ↑M] w _;have HR:=Jh hr;have HK:=Jh t;have b5:=Jh I;have b4:=Jh hL;have s1:=hs.p;have f:=Jh (zJ (zJ (Below.refl w w) (.cells ↑D 35)) (.cells ↑Zp 31));have A:=Jh (Blk.zD (g:=w.heap.size+1) (w:=w.alloc (.cells ↑D 35)) 31 ↑Zp sI);obtain ⟨R,O⟩: ∃R,kE ks D.P.W D.P.H D.P.ink alt=R:=⟨_,rfl⟩
 rw [O] at hi;have HI:=Jh hi;have b6:=Jh O;have E:Hd (yU ks alt D.dat=(R.1,xI [R.2.1])):=Jh (by unfold yU;rw [show D.dat.1.W=D.P.W from rfl,show D.dat.1.H=D.P.H from rfl,show D.dat.1.ink=D.P.ink from rfl,O]);rw [E.Z];have e1:=(f.Z.cell b0).trans C;have e2:=(f.Z.cell T).trans F;clear hr hs t I hL hi O C F;go_in;go_wp2_with fail;refine (VB q z X ks D.P.W D.P.H D.P.a D.P.n D.P.c D.P.ink alt _ HK.Z (by exact b5.Z.below f.Z) V U HR.Z.pl (by exact HR.Z.pr.below f.Z) om).mono ?_;rw [b6.Z];rintro e w1 ⟨a1,n1,k1,rfl,ho,b1,hb⟩;have m:=Jh (zJ (zI f.Z hb) (.cells #[R.1.W,R.1.H, .slice a1 n1 k1] 31));have s:=Jh ((A.Z.zA hb).alloc (.cells #[R.1.W,R.1.H, .slice a1 n1 k1] 31));have u:=Jh (Blk.new w1 31 #[R.1.W,R.1.H, .slice a1 n1 k1]);have HO:=Jh (ho.alloc (.cells #[R.1.W,R.1.H, .slice a1 n1 k1] 31));have HZ:Hd (w.heap.size+2<=w1.heap.size):=Jh (by have:=hb.size;simpa using this);obtain ⟨w2,l⟩:=zN (w1.alloc (.cells #[R.1.W,R.1.H, .slice a1 n1 k1] 31));rw [<-l] at m s u HO;clear hb ho A e1 e2;go_upto_region 2 with fail;rw [<-l];clear l;obtain ⟨t0,c0,c1,c2⟩:=u.Z.c3;have N:Hd (∀v,BelowL w2 v->(JB v w1 R.1.W R.1.H (.slice a1 n1 k1) (BelowL w2 v):Prop)):=Jh (fun v h=>⟨(h.Z.cell t0).trans c0,(h.Z.cell t0).trans c1,(h.Z.cell t0).trans c2,h⟩);clear c0 c1 c2 t0;refine zh 4 N zK (N.Z _ lS) ?_;intro b;have b8:=wK b;refine zM 0 ?_;refine zM 1 ?_;refine zW 2 (fun K hK=>?_);go_simp;have k:BelowL w2 (w2.alloc (.cells #[R.2.1] 3)).drew:=BelowL.mk (zJ bR _).drew;have Q:Rd (w2.alloc (.cells #[R.2.1] 3)).drew ↑w2 [R.2.1]:=(zHz w2 R.2.1 3).below bR.drew;refine hK.out _ _ (fun _=>Jd (N.Z _ k)) (fun hH2=>?_);clear hK K b hH2;have b3:=(b4.Z.below m.Z).below k.Z;refine zW 3 (fun K hK=>?_);go_simp
 go_at_call 162
 refine (ug ↑w2 1 1 [R.2.1] _ rfl (by exact Q) om (fun x hx=>by simp at hx;rw [hx];exact HI.Z) b3).mono ?_;rintro e v2 ⟨rfl,b7⟩;have j:=BelowL.call k b7;go_wp2_with fail;refine hK.out _ _ (fun _=>Jd (N.Z _ j)) (fun hH2=>?_);clear hK K hH2;have J:=s.Z.zA j.Z;have Y:=Jh (HO.Z.zA j.Z);have b2:=Jh (zI m.Z j.Z);obtain ⟨l0,c0,c1,c2⟩:=J.c3;obtain ⟨f0,f1,f2⟩:=J.f3;refine zW 4 (fun K hK=>?_);go_simp;refine hK.out _ _ (fun h=>absurd h dC) (fun hH2=>?_);clear hK K hH2;refine zW 5 (fun K hK=>?_);go_simp;refine hK.out _ _ (fun h=>absurd h dC) (fun hH2=>?_);clear hK K hH2;refine zx zK ?_ _;(try go_simp);go_wp2_with fail;have hz:=HZ.Z
 exact bodyPost_ret (v:= .tuple #[.agg #[R.1.W,R.1.H, .slice a1 n1 k1], .string ⟨(xI [R.2.1]).toArray⟩]) (by simp [results,results160,go_sem,c0,c1,c2]) rfl
  ⟨R.1.W,R.1.H,a1,n1,k1,R.1.ink,rfl,rfl,OwnA.mono (((Y.Z.other sI _).other sI _).other sI _) sO,b1,((b2.Z.setCell sI _).setCell sI _).setCell sI _⟩
theorem zGq (D:Dsk) (B g:Nat) (w:World) (f:xe w B g D):
 Calls prog 116 (#[.agg #[D.M.W,D.M.H, .slice D.M.a D.M.n D.M.c]]++#[]) w (zAU w B g D (⟨(uW D.M.W D.M.H D.M.ink).W,(uW D.M.W D.M.H D.M.ink).H,(uW D.M.W D.M.H D.M.ink).ranks⟩:Pic)):=by
 show Calls prog 116 #[.agg #[D.M.W,D.M.H, .slice D.M.a D.M.n D.M.c]] w _;refine (Ve D.M.W D.M.H D.M.a D.M.n D.M.c D.M.ink w f.own.m.len f.own.m.rd (og f.small.m)).mono ?_;rintro e w1 ⟨a1,n1,k1,rfl,k,j,hb⟩;have l:=f.box.lt
 exact ⟨⟨_,_,a1,n1,k1,_⟩,rfl,rfl,k.mono f.size,fun b i=>by
  have h1:=k.bd b i
  exact ⟨om,fun hd=>by have:=(f.own.bd b hd).2;omega⟩,j,hb⟩
end
end Go.Proofs.YtlenfgdjdianiaaGreatDoor
