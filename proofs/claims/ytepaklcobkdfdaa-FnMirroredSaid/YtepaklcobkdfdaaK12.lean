/-
  Contracts of chapter 5: a point passed, of the program.
-/
import Derived.Test.YtepaklcobkdfdaaK11
import Derived.Test.YtepaklcobkdfdaaK7b
namespace Go.Proofs.Ytepaklcobkdfdaa
open Go.RowKit
set_option linter.unusedVariables false
set_option linter.unusedSimpArgs false

/-- Where the share of part q goes. -/
def slotQ (ks : List Prt) (W H X Y way : Int) (q : Nat) : Option Nat := slotOf W H (X + way * (prt ks q).dx) (Y + (prt ks q).dy)

theorem dot_yes {v : Int} (h : 128 ≤ v) : dotOf v = 1 ∧ errOf v = v - 255 := by unfold errOf dotOf; rw [if_pos h]; omega

theorem dot_no {v : Int} (h : ¬ 128 ≤ v) : dotOf v = 0 ∧ errOf v = v := by unfold errOf dotOf; rw [if_neg h]; omega

theorem set_same {xs : List Int} {j : Nat} {v : Int} (h : xs.getD j 0 = v) (hj : j < xs.length) : xs.set j v = xs := by
  apply List.ext_getElem?
  intro i
  rw [List.getElem?_set]
  by_cases e : j = i
  · subst e
    rw [if_pos rfl, if_pos hj, List.getElem?_eq_getElem hj]
    simpa [List.getD, hj] using h.symm
  · rw [if_neg e]

set_option maxRecDepth 100000 in
set_option maxHeartbeats 3200000 in
theorem impl_pass (B D gp gr : Nat) (kad : Option Addr) (kn kcap : Nat) (W H : Int) (n rc : Nat) (ds rs : List Int) (L X Y way v : Int) (j : Nat) (ks : List Prt) (w : World) (hd : DSt w B D gp gr kad kn kcap W H n rc ds rs L)
    (hkl : ks.length = kn) (hko : kernOk ks = true) (hkc : kn ≤ kcap) (hkr : ∀ u, Keep (Trio D gp gr) w u → Rd u kad (flat ks))
    (w1 : 1 ≤ W) (w2 : W ≤ 64) (h1 : 1 ≤ H) (h2 : H ≤ 64) (hn : (n : Int) = W * H) (hn2 : n ≤ 1024) (x1 : 0 ≤ X) (x2 : X < W) (y1 : 0 ≤ Y) (y2 : Y < H) (hway : way = 1 ∨ way = -1)
    (hj : Y * W + X = (j : Int)) (hv : rs.getD j 0 = v) (v1 : -300000 ≤ v) (v2 : v ≤ 300000) (hdot : ds.getD j 0 = 0)
    (hg : ∀ k, k < kn → -300000 ≤ (gives (slotQ ks W H X Y way) (sharesG ks (wtTo ks kn) (errOf v)) (rs.set j (errOf v), L) k).2 ∧ (gives (slotQ ks W H X Y way) (sharesG ks (wtTo ks kn) (errOf v)) (rs.set j (errOf v), L) k).2 ≤ 300000 ∧ ∀ i, slotQ ks W H X Y way k = some i → -300000 ≤ (gives (slotQ ks W H X Y way) (sharesG ks (wtTo ks kn) (errOf v)) (rs.set j (errOf v), L) k).1.getD i 0 ∧ (gives (slotQ ks W H X Y way) (sharesG ks (wtTo ks kn) (errOf v)) (rs.set j (errOf v), L) k).1.getD i 0 ≤ 300000) :
    Calls Try.prog 73 #[.pointer (some ⟨D, 0, none⟩), .agg #[.int .i64 X, .int .i64 Y], .int .i64 way] w fun e w' => e = .returned (.tuple #[]) ∧ DSt w' B D gp gr kad kn kcap W H n rc (ds.set j (dotOf v)) (gives (slotQ ks W H X Y way) (sharesG ks (wtTo ks kn) (errOf v)) (rs.set j (errOf v), L) kn).1 (gives (slotQ ks W H X Y way) (sharesG ks (wtTo ks kn) (errOf v)) (rs.set j (errOf v), L) kn).2 ∧ Keep (Trio D gp gr) w w' := by
  obtain ⟨k1, k2, k3⟩ := kernOk_bd hkl hko
  have HKL := Lib.hid hkl
  have HKO := Lib.hid hko
  have HK := Lib.hid k3
  have HKR := Lib.hid hkr
  have HNN := Lib.hid hn
  have HG := Lib.hid hg
  have HD := Lib.hid hd
  have HV := Lib.hid hv
  have HTL := Lib.hid hd.trioLt
  obtain ⟨r1, r2⟩ := row_bd x1 x2 y1 y2
  have r3 : Y * W + X < n := by rw [hn]; exact r2
  obtain ⟨V, hV⟩ : ∃ V, Y * W = V := ⟨_, rfl⟩
  rw [hV] at r1 r3 hj
  have hjn : j < n := by omega
  have dl := hd.box.lt
  have rl := hd.rest.lt
  have pl := hd.dots.lt
  have N1 : D ≠ gp := hd.n1
  have N2 : D ≠ gr := hd.n2
  have N3 : gp ≠ gr := hd.n3
  obtain ⟨_, c0, cc1, cc2, c3, c4, c5⟩ := hd.c6
  have g1 := hd.rest.cell hjn
  have g2 := hd.rest.frozen j
  have p1 := hd.dots.cell hjn
  have p2 := hd.dots.frozen j
  rw [hv] at g1
  rw [hdot] at p1
  have HDL := Lib.hid hd.dots.len
  have HDOT := Lib.hid hdot
  have u1 : IntKind.i64.wrap V = V := IntWalk.i64_in _ (by omega)
  have u2 : IntKind.i64.wrap (j : Int) = (j : Int) := IntWalk.i64_in _ (by omega)
  clear hd hkl hko k3 hkr hn hg r2 hv hdot
  by_cases hd128 : 128 ≤ v
  case pos =>
    obtain ⟨e1, e2⟩ := dot_yes hd128
    rw [e1]
    rw [e2] at HG ⊢
    clear e1 e2
    go_enter Try.func73, Try.ntmps73
    go_wp2_with fail
    go_quiet (fail)
    go_wp2_with fail
    have HD2 := Lib.hid ((((HD.out.alloc (.cells #[.int .i64 X, .int .i64 Y] 77)).drewN nq).setDot j 1).setRest j (v - 255))
    have HKW := Lib.hid (((((Keep.refl (Trio D gp gr) w).alloc (.cells #[.int .i64 X, .int .i64 Y] 77)).drewN nq).set (a := ⟨gp, j, none⟩) (show Trio D gp gr gp from Trio.p) (.int .i64 1)).set (a := ⟨gr, j, none⟩) (show Trio D gp gr gr from Trio.r) (.int .i64 (v - 255)))
    have KB := Lib.hid ((((Blk.new w 77 #[.int .i64 X, .int .i64 Y]).drewN nq).other (a := ⟨gp, j, none⟩) (by simp; omega) (.int .i64 1)).other (a := ⟨gr, j, none⟩) (by simp; omega) (.int .i64 (v - 255)))
    obtain ⟨wo, hwo⟩ : ∃ wo : World, wo = ((((w.alloc (.cells #[.int .i64 X, .int .i64 Y] 77)).drewN nq).setCell ⟨gp, j, none⟩ (.int .i64 1)).setCell ⟨gr, j, none⟩ (.int .i64 (v - 255))) := ⟨_, rfl⟩
    rw [← hwo] at HD2 HKW KB ⊢
    have hE1 : -1000000 ≤ v - 255 := by omega
    have hE2 : v - 255 ≤ 1000000 := by omega
    clear hwo u1 u2 hj
    clear c0 cc1 cc2 c3 c4 c5 g1 g2 p1 p2
    obtain ⟨dl2, c0, cc1, cc2, c3, c4, c5⟩ := HD2.out.c6
    have rl2 := HD2.out.rest.lt
    have g1 := HD2.out.rest.cell hjn
    have HRL := Lib.hid HD2.out.rest.len
    rw [getD_set _ _ _ _ (by have := HRL.out; simp at this; omega), if_pos rfl] at g1
    have u2 : IntKind.i64.wrap (j : Int) = (j : Int) := IntWalk.i64_in _ (by omega)
    have u4 : (0 : Int) ≤ (j : Int) := by omega
    have u5 : (j : Int) < (n : Int) := by omega
    go_region_held3 (fun u => u.cell? ⟨D, 0, none⟩ = some (.slice kad kn kcap) ∧ u.cell? ⟨D, 4, none⟩ = some (.slice (some ⟨gr, 0, none⟩) n rc) ∧ u.cell? ⟨gr, j, none⟩ = some (.int .i64 (v - 255)))
      (first | exact ⟨c0, c4, g1⟩ | exact ⟨(hb.cell dl2).trans c0, (hb.cell dl2).trans c4, (hb.cell rl2).trans g1⟩)
      (first
        | (go_at_call 39; ((with_reducible refine (impl_split _ _ _ ks _ _ HKL.out (by exact (HKR.out _ HKW.out.drew)) hkc HKO.out hE1 hE2).mono ?_); rintro e w3 ⟨a, m, c, rfl, ho, hm, hb⟩)))
    clear c0 cc1 cc2 c3 c4 c5 g1
    have HO := Lib.hid ho
    obtain rfl : m = kn := by
      have h := HO.out.len
      rw [sharesG_len, HKL.out] at h
      exact h.symm
    have HD3 := Lib.hid (HD2.out.drew.below hb)
    have HK3 := Lib.hid (HKW.out.drew.trans (Keep.ofBelow hb))
    have KB3 := Lib.hid (KB.out.drew.below' hb)
    have HTB := Lib.hid (show ∀ i, Trio D gp gr i → i < wo.drew.heap.size from HD2.out.drew.trioLt)
    have HSL : Hid ((sharesG ks (wtTo ks m) (v - 255)).length = m) := Lib.hid HO.out.len
    clear ho hb hm
    go_wp2_with fail
    go_loopw [58] (fun i wr => ∃ k : Nat, k ≤ m ∧ i = .int .i64 k ∧ DSt wr B D gp gr kad m kcap W H n rc (ds.set j 1) (gives (slotQ ks W H X Y way) (sharesG ks (wtTo ks m) (v - 255)) (rs.set j (v - 255), L) k).1 (gives (slotQ ks W H X Y way) (sharesG ks (wtTo ks m) (v - 255)) (rs.set j (v - 255), L) k).2 ∧ Keep (Trio D gp gr) w3 wr) (fun i _ => m - (intOf i).toNat)
    case atStart => exact ⟨0, Nat.zero_le _, rfl, HD3.out, Keep.refl _ _⟩
    case round =>
      obtain ⟨k, hk, rfl, hdr, hkp⟩ := hrel
      have HDR := Lib.hid hdr
      have HKP := Lib.hid hkp
      have HKA := Lib.hid (HK3.out.trans hkp)
      clear hdr hkp
      by_cases hlt : k < m
      · obtain ⟨ba, oa, hae, hal, hac⟩ := (HKP.out.ownA HO.out HTB.out).rd.at (by have := HSL.out; omega)
        subst hae
        have a1 := hac k (by have := HSL.out; omega)
        clear hac
        obtain ⟨bk, ok, hke, hkl2, q0, q1, q2⟩ := rd_part (HKR.out _ HKA.out) (k := k) (by have := HKL.out; omega)
        subst hke
        obtain ⟨dl4, d0, _, _, _, _, _⟩ := HDR.out.c6
        have kb := HKP.out.blk KB3.out (fun h => by have := HTL.out _ h; omega)
        have b0 := kb.cell 0
        have b1 := kb.cell 1
        have bl := kb.lt
        simp only [List.getElem?_toArray, List.getElem?_cons_zero, List.getElem?_cons_succ] at b0 b1
        obtain ⟨S, hS⟩ : ∃ S, (sharesG ks (wtTo ks m) (v - 255)).getD k 0 = S := ⟨_, rfl⟩
        have sb := share_bd (e := (v - 255)) HKL.out k1 k2 HK.out k hlt
        obtain ⟨gl1, gl2, gv⟩ := HG.out k hlt
        have HSQ : Hid (slotQ ks W H X Y way k = slotOf W H (X + way * (prt ks k).dx) (Y + (prt ks k).dy)) := Lib.hid rfl
        have pb := partOk_bd (kern_part HK.out hlt).1
        obtain ⟨p, hp⟩ : ∃ p, prt ks k = p := ⟨_, rfl⟩
        rw [hp] at q0 q1 q2 HSQ pb
        rw [hS] at a1 sb
        obtain ⟨PX, PY, PT⟩ := p
        dsimp only at q0 q1 q2 HSQ pb
        obtain ⟨pb1, pb2, pb3, pb4, _⟩ := pb
        obtain ⟨M, hM⟩ : ∃ M, way * PX = M := ⟨_, rfl⟩
        have m1 : -4 ≤ M ∧ M ≤ 4 := by rcases hway with h | h <;> (rw [h] at hM; omega)
        obtain ⟨m1, m2⟩ := m1
        rw [hM] at HSQ
        have HS := Lib.hid hS
        have HGS : Hid (gives (slotQ ks W H X Y way) (sharesG ks (wtTo ks m) (v - 255)) (rs.set j (v - 255), L) (k + 1) = give (gives (slotQ ks W H X Y way) (sharesG ks (wtTo ks m) (v - 255)) (rs.set j (v - 255), L) k) (slotOf W H (X + M) (Y + PY)) S) := Lib.hid (by rw [gives, hS, HSQ.out])
        rw [HSQ.out] at gv
        obtain ⟨G, hG⟩ : ∃ G, gives (slotQ ks W H X Y way) (sharesG ks (wtTo ks m) (v - 255)) (rs.set j (v - 255), L) k = G := ⟨_, rfl⟩
        rw [hG] at HDR HGS gl1 gl2 gv
        obtain ⟨GR, GL⟩ := G
        dsimp only at HDR gl1 gl2 gv
        have GV := Lib.hid gv
        clear gv hp hS hG kb
        have s1 : -1000000 ≤ S := by omega
        have s2 : S ≤ 1000000 := by omega
        go_wp2_with fail
        refine (impl_plus X Y M PY _ (by omega) (by omega) (by omega) (by omega) (by omega) (by omega) (by omega) (by omega)).mono ?_
        rintro e w4 ⟨rfl, hb4⟩
        have HDR4 := Lib.hid ((HDR.out.alloc (.cells #[.int .i64 PX, .int .i64 PY, .int .i64 PT] 31)).below hb4)
        have HKP4 := Lib.hid ((HKP.out.alloc (.cells #[.int .i64 PX, .int .i64 PY, .int .i64 PT] 31)).trans (Keep.ofBelow hb4))
        clear hb4 hM a1 q0 q1 q2 d0 b0 b1
        go_wp2_with fail
        refine (impl_give B D gp gr _ m kcap W H n rc _ GR GL S (X + M) (Y + PY) _ HDR4.out w1 w2 h1 h2 HNN.out hn2 (by omega) (by omega) (by omega) (by omega) s1 s2 (by omega) (by omega) (fun i hi => by have := GV.out i hi; omega)).mono ?_
        rintro e w5 ⟨rfl, hd5, hk5⟩
        have HD5 := Lib.hid hd5
        have HK5 := Lib.hid (HKP4.out.trans hk5)
        clear hd5 hk5
        go_wp2_with fail
        go_roundw
        case rel => exact ⟨k + 1, by omega, by go_num, by rw [HGS.out]; exact HD5.out, HK5.out⟩
        case measure => simp [intOf]; omega
      · obtain rfl : m = k := by omega
        go_wp2_with fail
        go_end0
        exact ⟨rfl, HDR.out, HKA.out⟩
  case neg =>
    obtain ⟨e1, e2⟩ := dot_no hd128
    rw [e1]
    rw [e2] at HG ⊢
    clear e1 e2
    go_enter Try.func73, Try.ntmps73
    go_wp2_with fail
    go_quiet (fail)
    clear u1 u2 hj
    go_wp2_with fail
    have HD2 : Hid (DSt ((w.alloc (.cells #[.int .i64 X, .int .i64 Y] 77)).drewN nq) B D gp gr kad kn kcap W H n rc (ds.set j 0) (rs.set j v) L) := Lib.hid (by
      rw [set_same HDOT.out (by have := HDL.out; omega), set_same HV.out (by have := HD.out.rest.len; omega)]
      exact (HD.out.alloc _).drewN nq)
    have HKW := Lib.hid (((Keep.refl (Trio D gp gr) w).alloc (.cells #[.int .i64 X, .int .i64 Y] 77)).drewN nq)
    have KB := Lib.hid ((Blk.new w 77 #[.int .i64 X, .int .i64 Y]).drewN nq)
    obtain ⟨wo, hwo⟩ : ∃ wo : World, wo = ((w.alloc (.cells #[.int .i64 X, .int .i64 Y] 77)).drewN nq) := ⟨_, rfl⟩
    rw [← hwo] at HD2 HKW KB ⊢
    have hE1 : -1000000 ≤ v := by omega
    have hE2 : v ≤ 1000000 := by omega
    clear hwo
    clear c0 cc1 cc2 c3 c4 c5 g1 g2 p1 p2
    obtain ⟨dl2, c0, cc1, cc2, c3, c4, c5⟩ := HD2.out.c6
    have rl2 := HD2.out.rest.lt
    have g1 := HD2.out.rest.cell hjn
    have HRL := Lib.hid HD2.out.rest.len
    rw [getD_set _ _ _ _ (by have := HRL.out; simp at this; omega), if_pos rfl] at g1
    have u2 : IntKind.i64.wrap (j : Int) = (j : Int) := IntWalk.i64_in _ (by omega)
    have u4 : (0 : Int) ≤ (j : Int) := by omega
    have u5 : (j : Int) < (n : Int) := by omega
    go_region_held3 (fun u => u.cell? ⟨D, 0, none⟩ = some (.slice kad kn kcap) ∧ u.cell? ⟨D, 4, none⟩ = some (.slice (some ⟨gr, 0, none⟩) n rc) ∧ u.cell? ⟨gr, j, none⟩ = some (.int .i64 v))
      (first | exact ⟨c0, c4, g1⟩ | exact ⟨(hb.cell dl2).trans c0, (hb.cell dl2).trans c4, (hb.cell rl2).trans g1⟩)
      (first
        | (go_at_call 39; ((with_reducible refine (impl_split _ _ _ ks _ _ HKL.out (by exact (HKR.out _ HKW.out.drew)) hkc HKO.out hE1 hE2).mono ?_); rintro e w3 ⟨a, m, c, rfl, ho, hm, hb⟩)))
    clear c0 cc1 cc2 c3 c4 c5 g1
    have HO := Lib.hid ho
    obtain rfl : m = kn := by
      have h := HO.out.len
      rw [sharesG_len, HKL.out] at h
      exact h.symm
    have HD3 := Lib.hid (HD2.out.drew.below hb)
    have HK3 := Lib.hid (HKW.out.drew.trans (Keep.ofBelow hb))
    have KB3 := Lib.hid (KB.out.drew.below' hb)
    have HTB := Lib.hid (show ∀ i, Trio D gp gr i → i < wo.drew.heap.size from HD2.out.drew.trioLt)
    have HSL : Hid ((sharesG ks (wtTo ks m) v).length = m) := Lib.hid HO.out.len
    clear ho hb hm
    go_wp2_with fail
    go_loopw [58] (fun i wr => ∃ k : Nat, k ≤ m ∧ i = .int .i64 k ∧ DSt wr B D gp gr kad m kcap W H n rc (ds.set j 0) (gives (slotQ ks W H X Y way) (sharesG ks (wtTo ks m) v) (rs.set j v, L) k).1 (gives (slotQ ks W H X Y way) (sharesG ks (wtTo ks m) v) (rs.set j v, L) k).2 ∧ Keep (Trio D gp gr) w3 wr) (fun i _ => m - (intOf i).toNat)
    case atStart => exact ⟨0, Nat.zero_le _, rfl, HD3.out, Keep.refl _ _⟩
    case round =>
      obtain ⟨k, hk, rfl, hdr, hkp⟩ := hrel
      have HDR := Lib.hid hdr
      have HKP := Lib.hid hkp
      have HKA := Lib.hid (HK3.out.trans hkp)
      clear hdr hkp
      by_cases hlt : k < m
      · obtain ⟨ba, oa, hae, hal, hac⟩ := (HKP.out.ownA HO.out HTB.out).rd.at (by have := HSL.out; omega)
        subst hae
        have a1 := hac k (by have := HSL.out; omega)
        clear hac
        obtain ⟨bk, ok, hke, hkl2, q0, q1, q2⟩ := rd_part (HKR.out _ HKA.out) (k := k) (by have := HKL.out; omega)
        subst hke
        obtain ⟨dl4, d0, _, _, _, _, _⟩ := HDR.out.c6
        have kb := HKP.out.blk KB3.out (fun h => by have := HTL.out _ h; omega)
        have b0 := kb.cell 0
        have b1 := kb.cell 1
        have bl := kb.lt
        simp only [List.getElem?_toArray, List.getElem?_cons_zero, List.getElem?_cons_succ] at b0 b1
        obtain ⟨S, hS⟩ : ∃ S, (sharesG ks (wtTo ks m) v).getD k 0 = S := ⟨_, rfl⟩
        have sb := share_bd (e := v) HKL.out k1 k2 HK.out k hlt
        obtain ⟨gl1, gl2, gv⟩ := HG.out k hlt
        have HSQ : Hid (slotQ ks W H X Y way k = slotOf W H (X + way * (prt ks k).dx) (Y + (prt ks k).dy)) := Lib.hid rfl
        have pb := partOk_bd (kern_part HK.out hlt).1
        obtain ⟨p, hp⟩ : ∃ p, prt ks k = p := ⟨_, rfl⟩
        rw [hp] at q0 q1 q2 HSQ pb
        rw [hS] at a1 sb
        obtain ⟨PX, PY, PT⟩ := p
        dsimp only at q0 q1 q2 HSQ pb
        obtain ⟨pb1, pb2, pb3, pb4, _⟩ := pb
        obtain ⟨M, hM⟩ : ∃ M, way * PX = M := ⟨_, rfl⟩
        have m1 : -4 ≤ M ∧ M ≤ 4 := by rcases hway with h | h <;> (rw [h] at hM; omega)
        obtain ⟨m1, m2⟩ := m1
        rw [hM] at HSQ
        have HS := Lib.hid hS
        have HGS : Hid (gives (slotQ ks W H X Y way) (sharesG ks (wtTo ks m) v) (rs.set j v, L) (k + 1) = give (gives (slotQ ks W H X Y way) (sharesG ks (wtTo ks m) v) (rs.set j v, L) k) (slotOf W H (X + M) (Y + PY)) S) := Lib.hid (by rw [gives, hS, HSQ.out])
        rw [HSQ.out] at gv
        obtain ⟨G, hG⟩ : ∃ G, gives (slotQ ks W H X Y way) (sharesG ks (wtTo ks m) v) (rs.set j v, L) k = G := ⟨_, rfl⟩
        rw [hG] at HDR HGS gl1 gl2 gv
        obtain ⟨GR, GL⟩ := G
        dsimp only at HDR gl1 gl2 gv
        have GV := Lib.hid gv
        clear gv hp hS hG kb
        have s1 : -1000000 ≤ S := by omega
        have s2 : S ≤ 1000000 := by omega
        go_wp2_with fail
        refine (impl_plus X Y M PY _ (by omega) (by omega) (by omega) (by omega) (by omega) (by omega) (by omega) (by omega)).mono ?_
        rintro e w4 ⟨rfl, hb4⟩
        have HDR4 := Lib.hid ((HDR.out.alloc (.cells #[.int .i64 PX, .int .i64 PY, .int .i64 PT] 31)).below hb4)
        have HKP4 := Lib.hid ((HKP.out.alloc (.cells #[.int .i64 PX, .int .i64 PY, .int .i64 PT] 31)).trans (Keep.ofBelow hb4))
        clear hb4 hM a1 q0 q1 q2 d0 b0 b1
        go_wp2_with fail
        refine (impl_give B D gp gr _ m kcap W H n rc _ GR GL S (X + M) (Y + PY) _ HDR4.out w1 w2 h1 h2 HNN.out hn2 (by omega) (by omega) (by omega) (by omega) s1 s2 (by omega) (by omega) (fun i hi => by have := GV.out i hi; omega)).mono ?_
        rintro e w5 ⟨rfl, hd5, hk5⟩
        have HD5 := Lib.hid hd5
        have HK5 := Lib.hid (HKP4.out.trans hk5)
        clear hd5 hk5
        go_wp2_with fail
        go_roundw
        case rel => exact ⟨k + 1, by omega, by go_num, by rw [HGS.out]; exact HD5.out, HK5.out⟩
        case measure => simp [intOf]; omega
      · obtain rfl : m = k := by omega
        go_wp2_with fail
        go_end0
        exact ⟨rfl, HDR.out, HKA.out⟩

end Go.Proofs.Ytepaklcobkdfdaa
