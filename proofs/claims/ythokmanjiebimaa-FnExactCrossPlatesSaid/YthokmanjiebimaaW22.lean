/-
  Contracts of chapter 8: CrossPlates (model).
-/
import Derived.Test.YthokmanjiebimaaW21
namespace Go.Proofs.Ythokmanjiebimaa
open Go.RowKit
set_option linter.unusedVariables false
set_option linter.unusedSimpArgs false

set_option maxRecDepth 100000 in
set_option maxHeartbeats 6400000 in
theorem spec_CrossPlates (ar : Option Addr) (H capr : Nat) (rows : List Int) (ac : Option Addr) (W capc : Nat) (cols : List Int) (w : World) (hr : rows.length = H) (har : Rd w ar rows) (hlr : H ≤ 1048576) (hc : cols.length = W) (hac : Rd w ac cols) (hlc : W ≤ 1048576) :
    Calls Try.prog 36 #[.slice ar H capr, .slice ac W capc] w (PicsOut2 w (crossF rows cols)) := by
  have HR := Lib.hid hr
  have HC := Lib.hid hc
  have HAR := Lib.hid har
  have HAC := Lib.hid hac
  clear hr hc har hac
  by_cases hs : sizeOk W H = true
  case neg =>
    rw [cross_no (fun h => hs (by have := h.1; rwa [HC.out, HR.out] at this))]
    have HS := Lib.hid hs
    clear hs
    go_enter Try.func36, Try.ntmps36
    go_wp2_with fail
    refine (spec_l1Size_no _ _ _ HS.out).mono ?_
    rintro e w1 ⟨rfl, rfl⟩
    go_wp2_with fail
    exact bodyPost_ret (v := .tuple #[.slice none 0 0, .bool false]) (by simp [results, Try.results36, go_sem]) rfl ⟨none, 0, 0, [], rfl, OwnV.nil _ _, rfl, by omega, by simp [inkV], Below.refl _ _⟩
  case pos =>
    obtain ⟨b1, b2, b3, b4, b5, b6⟩ := sizeOk_bd hs
    obtain ⟨N, hN⟩ : ∃ N, W * H = N := ⟨_, rfl⟩
    have hq : (N : Int) = (W : Int) * (H : Int) := by rw [← hN]; push_cast; rfl
    have HQ := Lib.hid hq
    have hN1 : 1 ≤ N := by omega
    have hN2 : N ≤ 1024 := by omega
    have HS := Lib.hid hs
    have HNN := Lib.hid hN
    have bW : 1 ≤ W := by omega
    have bH : 1 ≤ H := by omega
    clear hq b5 b6
    go_enter Try.func36, Try.ntmps36
    go_wp2_with fail
    refine (spec_l1Size_yes _ _ _ HS.out).mono ?_
    rintro e w1 ⟨rfl, rfl⟩
    go_wp2_with fail
    refine (spec_l1Empty W H N _ HS.out HQ.out).mono ?_
    rintro e w1 ⟨g1, rfl, hg1, ho1, hb1⟩
    have HB1 := Lib.hid (bAlloc hb1 (.cells #[.int .i64 W, .int .i64 H, .slice (some ⟨g1, 0, none⟩) N N] 44))
    have G1 : Hid (w.heap.size ≤ g1 ∧ g1 < w1.heap.size) := Lib.hid ⟨hg1, ho1.lt⟩
    have O1 := Lib.hid (ho1.alloc (.cells #[.int .i64 W, .int .i64 H, .slice (some ⟨g1, 0, none⟩) N N] 44))
    have K1 := Lib.hid (Blk.new w1 44 #[.int .i64 W, .int .i64 H, .slice (some ⟨g1, 0, none⟩) N N])
    obtain ⟨w1b, hw1⟩ : ∃ w1b, w1b = w1.alloc (.cells #[.int .i64 W, .int .i64 H, .slice (some ⟨g1, 0, none⟩) N N] 44) := ⟨_, rfl⟩
    have Z1 : Hid (w1b.heap.size = w1.heap.size + 1) := Lib.hid (by rw [hw1]; simp)
    clear hg1 ho1 hb1
    go_wp2_with fail
    rw [← hw1] at HB1 O1 K1 ⊢
    clear hw1
    refine (spec_l1Empty W H N _ HS.out HQ.out).mono ?_
    rintro e w2 ⟨g2, rfl, hg2, ho2, hb2⟩
    have HB4 := Lib.hid (bAlloc (bTrans HB1.out hb2) (.cells #[.int .i64 W, .int .i64 H, .slice (some ⟨g2, 0, none⟩) N N] 44))
    have G2 : Hid (w1.heap.size < g2 ∧ g2 < w2.heap.size) := Lib.hid ⟨by have := Z1.out; omega, ho2.lt⟩
    have P1 := Lib.hid ((O1.out.below hb2 O1.out.lt).alloc (.cells #[.int .i64 W, .int .i64 H, .slice (some ⟨g2, 0, none⟩) N N] 44))
    have P2 := Lib.hid (ho2.alloc (.cells #[.int .i64 W, .int .i64 H, .slice (some ⟨g2, 0, none⟩) N N] 44))
    have KA := Lib.hid ((K1.out.below' hb2).alloc (.cells #[.int .i64 W, .int .i64 H, .slice (some ⟨g2, 0, none⟩) N N] 44))
    have KB := Lib.hid (Blk.new w2 44 #[.int .i64 W, .int .i64 H, .slice (some ⟨g2, 0, none⟩) N N])
    have GA : Hid (g1 < w1.heap.size ∧ g2 < w2.heap.size ∧ g1 < g2 ∧ w1.heap.size < g2) := Lib.hid ⟨G1.out.2, G2.out.2, by have := G1.out; have := G2.out; omega, G2.out.1⟩
    obtain ⟨w4, hw4⟩ : ∃ w4, w4 = w2.alloc (.cells #[.int .i64 W, .int .i64 H, .slice (some ⟨g2, 0, none⟩) N N] 44) := ⟨_, rfl⟩
    clear hg2 ho2 hb2
    obtain ⟨l0, o0, o1, o2⟩ := KA.out.c3
    obtain ⟨l1, q0, q1, q2⟩ := KB.out.c3
    go_wp2_with fail
    rw [← hw4] at KA KB P1 P2 HB4 ⊢
    clear hw4
    clear l0 o0 o1 o2 l1 q0 q1 q2
    go_loopw [29] (fun i wr => ∃ k : Nat, k ≤ N ∧ i = .int .i64 k ∧ Hid (Own wr g1 N N (filled (gen N (fun i => cols.getD (i % W) 0)) (List.replicate N 0) k)) ∧ Hid (Own wr g2 N N (filled (gen N (fun i => rows.getD (i / W) 0)) (List.replicate N 0) k)) ∧ Hid (KeepT (fun i => i = g1 ∨ i = g2) w4 wr)) (fun i _ => N - (intOf i).toNat)
    case atStart => exact ⟨0, Nat.zero_le _, rfl, Lib.hid (by rw [filled_zero]; exact P1.out), Lib.hid (by rw [filled_zero]; exact P2.out), Lib.hid (KeepT.refl _ _)⟩
    case round =>
      obtain ⟨k, hk, rfl, H1, H2, HK⟩ := hrel
      have KAr := Lib.hid (HK.out.blk KA.out (by have := GA.out; omega))
      have KBr := Lib.hid (HK.out.blk KB.out (by have := GA.out; omega))
      have HBr := Lib.hid (HB4.out.trans (HK.out.below (B := w.heap.size) (fun i hi => by have := G1.out; have := G2.out; have := HB1.out.size; rcases hi with e | e <;> omega) HB4.out.size))
      obtain ⟨l0, o0, o1, o2⟩ := KAr.out.c3
      obtain ⟨l1, q0, q1, q2⟩ := KBr.out.c3
      by_cases hlt : k < N
      · obtain ⟨X, Y, eX, eY, hX, hY, tX, tY, wX, wY⟩ := cross_place (k := k) (W := W) (H := H) (by rw [HNN.out]; exact hlt) bW (by omega)
        have eC : (fun i => cols.getD (i % W) 0) k = cols.getD X 0 := by show cols.getD (k % W) 0 = _; rw [eX]
        have eR : (fun i => rows.getD (i / W) 0) k = rows.getD Y 0 := by show rows.getD (k / W) 0 = _; rw [eY]
        obtain ⟨bc, oc, hce, lc, cc0⟩ := HAC.out X (by have := HC.out; omega)
        obtain ⟨br, or, hre, lr, cr0⟩ := HAR.out Y (by have := HR.out; omega)
        subst hce hre
        have cc := (HBr.out.cell (p := ⟨bc, oc + X, none⟩) lc).trans cc0
        have cr := (HBr.out.cell (p := ⟨br, or + Y, none⟩) lr).trans cr0
        clear cc0 cr0
        obtain ⟨C, hCv⟩ : ∃ C, cols.getD X 0 = C := ⟨_, rfl⟩
        obtain ⟨R, hRv⟩ : ∃ R, rows.getD Y 0 = R := ⟨_, rfl⟩
        rw [hCv] at cc eC
        rw [hRv] at cr eR
        have S1 := Lib.hid (filled_stepW (F := fun i => cols.getD (i % W) 0) hlt eC)
        have S2 := Lib.hid (filled_stepW (F := fun i => rows.getD (i / W) 0) hlt eR)
        have x1 := H1.out.cell hlt
        have x2 := H2.out.cell hlt
        have y1 := H1.out.frozen k
        have y2 := H2.out.frozen k
        have M1 := Lib.hid ((H1.out.set k C).other (a := ⟨g2, k, none⟩) (by have := GA.out; show g2 ≠ g1; omega) (.int .i64 R))
        have M2 := Lib.hid ((H2.out.other (a := ⟨g1, k, none⟩) (by have := GA.out; show g1 ≠ g2; omega) (.int .i64 C)).set k R)
        have HK5 := Lib.hid ((HK.out.set (a := ⟨g1, k, none⟩) (.inl rfl) (.int .i64 C)).set (a := ⟨g2, k, none⟩) (.inr rfl) (.int .i64 R))
        have ne1 : g1 ≠ g2 := by have := GA.out; omega
        have ne2 : g2 ≠ g1 := by have := GA.out; omega
        have ne3 : w1.heap.size ≠ g1 := by have := GA.out; omega
        have ne4 : w1.heap.size ≠ g2 := by have := GA.out; omega
        have ne5 : w2.heap.size ≠ g1 := by have := GA.out; omega
        have ne6 : w2.heap.size ≠ g2 := by have := GA.out; omega
        have ne7 : br ≠ g1 := by have := G1.out; omega
        have ne8 : br ≠ g2 := by have := G1.out; have := G2.out; omega
        have ne9 : bc ≠ g1 := by have := G1.out; omega
        have ne10 : bc ≠ g2 := by have := G1.out; have := G2.out; omega
        have z1 : ¬ (W : Int) = 0 := by omega
        have z2 : ((W : Int) == 0) = false := by simp; omega
        have i0 : (0 : Int) ≤ (X : Int) := by omega
        have i1 : (X : Int) < (W : Int) := by omega
        have i2 : (0 : Int) ≤ (Y : Int) := by omega
        have i3 : (Y : Int) < (H : Int) := by omega
        have i4 : (0 : Int) ≤ (k : Int) := by omega
        have i5 : (k : Int) < (N : Int) := by omega
        clear eX eY eC eR hCv hRv
        go_wp2_with fail
        go_region
        go_wp2_with fail
        go_region
        go_wp2_with fail
        go_roundw
        case rel => exact ⟨k + 1, by omega, by go_num, Lib.hid (by rw [← S1.out]; exact M1.out), Lib.hid (by rw [← S2.out]; exact M2.out), Lib.hid ⟨HK5.out.os, HK5.out.tape, HK5.out.output, HK5.out.size, HK5.out.block⟩⟩
        case measure => simp [intOf]; omega
      · obtain rfl : k = N := by omega
        have F1 := H1.out
        have F2 := H2.out
        rw [filled_endW] at F1 F2
        have HF1 := Lib.hid F1
        have HF2 := Lib.hid F2
        clear F1 F2
        go_wp2_with fail
        have HV := Lib.hid (ownV_two (W := W) (H := H) (B := w.heap.size) HF1.out HF2.out (by have := G1.out; omega) (by have := G1.out; have := G2.out; omega) (by have := GA.out; omega) HBr.out.size)
        have HBv := Lib.hid (bAlloc HBr.out (.cells #[.int .i64 W, .int .i64 H, .slice (some ⟨g1, 0, none⟩) k k, .int .i64 W, .int .i64 H, .slice (some ⟨g2, 0, none⟩) k k] 44))
        have ES : Hid (stackOk (picsV [⟨W, H, some ⟨g1, 0, none⟩, k, k, gen k (fun i => cols.getD (i % W) 0)⟩, ⟨W, H, some ⟨g2, 0, none⟩, k, k, gen k (fun i => rows.getD (i / W) 0)⟩]) = (within cols 1 && within rows 1)) := Lib.hid (by have := cross_stack HC.out HR.out HS.out; rw [HNN.out] at this; exact this)
        have CSt := Lib.hid (spec_IsStack (some ⟨wr.heap.size, 0, none⟩) 2 2 _ _ rfl HV.out.rd (by omega) (fun j hj => by
          have h2 : j = 0 ∨ j = 1 := by simp at hj; omega
          rcases h2 with rfl | rfl
          · rw [pv_two0]; show k ≤ 1048576; omega
          · rw [pv_two1]; show k ≤ 1048576; omega))
        rw [ES.out] at CSt
        have EY : Hid (∀ h1 : within rows 1 = true, ∀ h2 : within cols 1 = true, crossF rows cols = ([⟨W, H, gen k (fun i => cols.getD (i % W) 0)⟩, ⟨W, H, gen k (fun i => rows.getD (i / W) 0)⟩], true)) := Lib.hid (fun h1 h2 => by have := cross_yes HC.out HR.out HS.out h1 h2; rw [HNN.out] at this; exact this)
        by_cases hw : within cols 1 = true ∧ within rows 1 = true
        · have ER := Lib.hid (EY.out hw.2 hw.1)
          rw [hw.1, hw.2] at CSt
          clear hw
          refine CSt.out.mono ?_
          rintro e w5 ⟨rfl, hb⟩
          have HV5 := Lib.hid (HV.out.below hb)
          have HB5 := Lib.hid (bTrans HBv.out hb)
          clear hb
          go_wp2_with fail
          go_ret2
          refine ⟨_, 2, 2, _, by rw [ER.out]; rfl, HV5.out, by rw [ER.out]; rfl, by omega, by simp [inkV]; omega, HB5.out⟩
        · have ER := Lib.hid (cross_no (rows := rows) (cols := cols) (fun h => hw ⟨h.2.2, h.2.1⟩))
          have hf : (within cols 1 && within rows 1) = false := by
            cases h1 : within cols 1 <;> cases h2 : within rows 1 <;> simp_all
          rw [hf] at CSt
          clear hw hf
          refine CSt.out.mono ?_
          rintro e w5 ⟨rfl, hb⟩
          have HB5 := Lib.hid (bTrans HBv.out hb)
          clear hb
          go_wp2_with fail
          go_ret2
          exact ⟨none, 0, 0, [], by rw [ER.out]; rfl, OwnV.nil _ _, by rw [ER.out]; rfl, by omega, by simp [inkV], HB5.out⟩

end Go.Proofs.Ythokmanjiebimaa
