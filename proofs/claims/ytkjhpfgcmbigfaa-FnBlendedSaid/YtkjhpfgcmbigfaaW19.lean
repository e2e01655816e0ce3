/-
  Contracts of chapter 8: BlendOf (program).
-/
import Derived.Test.YtkjhpfgcmbigfaaW18
namespace Go.Proofs.Ytkjhpfgcmbigfaa
open Go.RowKit
set_option linter.unusedVariables false
set_option linter.unusedSimpArgs false

set_option maxRecDepth 100000 in
set_option maxHeartbeats 6400000 in
theorem impl_BlendOf (ad : Option Addr) (n cap : Nat) (ps : List PV) (ac : Option Addr) (nc capc : Nat) (cs : List Int) (w : World) (hn : ps.length = n) (ha : RdV w ad ps) (hl : n ≤ 1048576) (h4 : ∀ k, k < ps.length → (pv ps k).n ≤ 1048576) (hc : cs.length = nc) (hac : Rd w ac cs) (hlc : nc ≤ 1048576) :
    Calls Try.prog 19 #[.slice ad n cap, .slice ac nc capc] w (BlendOut w (blendF (picsV ps) cs)) := by
  have HA := Lib.hid ha
  have CS := Lib.hid (impl_IsStack ad n cap ps w hn ha hl h4)
  by_cases hs : stackOk (picsV ps) = true
  case neg =>
    have hs2 : stackOk (picsV ps) = false := by simpa using hs
    rw [blend_no (fun h => hs h.1)]
    rw [hs2] at CS
    clear hs hs2 hn ha h4 hc hac
    go_enter Try.func19, Try.ntmps19
    go_wp2_with fail
    refine CS.out.mono ?_
    rintro e w1 ⟨rfl, hb⟩
    have HB1 := Lib.hid hb
    clear hb
    go_wp2_with fail
    exact bodyPost_ret (v := .tuple #[.int .i64 0, .int .i64 0, .bool false]) (by simp [results, Try.results19, go_sem]) rfl ⟨rfl, HB1.out⟩
  case pos =>
    obtain ⟨N, W, H, T⟩ := stk_of hn hs
    rw [hs] at CS
    have HT := Lib.hid T
    have hn1 := T.n1
    have hn4 := T.n4
    have hN1 := T.N1
    have hN2 := T.N2
    have n0 : (0 : Int) < (n : Int) := by omega
    have n00 : 0 < n := by omega
    obtain ⟨m1, m2⟩ := pow_nat hn4
    obtain ⟨b, off, hae, hal⟩ := ha.addr (by omega)
    subst hae
    have CL := Lib.hid (fun v : World => impl_markLimit (some ⟨b, off, none⟩) n cap v hn4)
    have hLP : (picsV ps).length = n := by rw [picsV_len]; exact hn
    obtain ⟨M, hM⟩ : ∃ M, 2 ^ n = M := ⟨_, rfl⟩
    rw [hM] at m1 m2 CL
    have HAC := Lib.hid hac
    have HC := Lib.hid hc
    by_cases hlen : nc = M
    case neg =>
      have ER : Hid (blendF (picsV ps) cs = (0, 0, false)) := Lib.hid (blend_no (fun h => hlen (by have := h.2.1; rw [hLP, hM] at this; omega)))
      rw [ER.out]
      have z1 : ((nc : Int) != (M : Int)) = true := by simp; omega
      have z2 : ((nc : Int) == (M : Int)) = false := by simp; omega
      clear hs T hM hlen hLP hn ha h4 hc hac
      go_enter Try.func19, Try.ntmps19
      go_wp2_with fail
      refine CS.out.mono ?_
      rintro e w1 ⟨rfl, hb⟩
      have HB1 := Lib.hid hb
      clear hb
      go_wp2_with fail
      refine (CL.out _).mono ?_
      rintro e w2 ⟨rfl, rfl⟩
      go_wp2_with fail
      exact bodyPost_ret (v := .tuple #[.int .i64 0, .int .i64 0, .bool false]) (by simp [results, Try.results19, go_sem]) rfl ⟨rfl, HB1.out⟩
    case pos =>
      subst hlen
      have HM := Lib.hid hM
      have z1 : ((nc : Int) != (nc : Int)) = false := by simp
      by_cases hw : within cs 1000000 = true
      case neg =>
        have ER : Hid (blendF (picsV ps) cs = (0, 0, false)) := Lib.hid (blend_no (fun h => hw h.2.2))
        rw [ER.out]
        have hw2 : within cs 1000000 = false := by simpa using hw
        have CW : Hid (∀ v : World, Rd v ac cs → Calls Try.prog 49 #[.slice ac nc capc, .int .i64 1000000] v fun e w' => e = .returned (.bool false) ∧ v = w') := Lib.hid (fun v h => by have := impl_allWithin ac nc capc cs 1000000 v HC.out h (by omega); rwa [hw2] at this)
        clear hs T hM hLP hn ha h4 hc hac hw hw2
        go_enter Try.func19, Try.ntmps19
        go_wp2_with fail
        refine CS.out.mono ?_
        rintro e w1 ⟨rfl, hb⟩
        have HB1 := Lib.hid hb
        have HAC1 := Lib.hid (HAC.out.below hb)
        clear hb
        go_wp2_with fail
        refine (CL.out _).mono ?_
        rintro e w2 ⟨rfl, rfl⟩
        go_wp2_with fail
        refine (CW.out _ HAC1.out).mono ?_
        rintro e w2 ⟨rfl, rfl⟩
        go_wp2_with fail
        exact bodyPost_ret (v := .tuple #[.int .i64 0, .int .i64 0, .bool false]) (by simp [results, Try.results19, go_sem]) rfl ⟨rfl, HB1.out⟩
      case pos =>
        have CW : Hid (∀ v : World, Rd v ac cs → Calls Try.prog 49 #[.slice ac nc capc, .int .i64 1000000] v fun e w' => e = .returned (.bool true) ∧ v = w') := Lib.hid (fun v h => by have := impl_allWithin ac nc capc cs 1000000 v HC.out h (by omega); rwa [hw] at this)
        have hcl : cs.length = 2 ^ n := by rw [hM]; exact hc
        obtain ⟨S, hS, hS2⟩ := blend_nat T hcl hw
        obtain ⟨G, hG⟩ : ∃ G, Nat.gcd S N = G := ⟨_, rfl⟩
        obtain ⟨g1, g2⟩ := gcd_facts hN1 hG hN2
        obtain ⟨A, hA1, hA2, hA3, hA4⟩ := quo_factsB (S := S) g1 (by omega)
        obtain ⟨B, hB1, hB2, hB3, hB4⟩ := quo_factsB (S := N) g1 (by omega)
        have ER : Hid (blendF (picsV ps) cs = ((A : Int), (B : Int), true)) := Lib.hid (by rw [blend_yes T hcl hw hS hG, hA1, hB1])
        have EC : Hid (sumJ (fun i => cs.getD (markG (picsV ps) i).toNat 0) N = (S : Int)) := Lib.hid (by rw [← blend_eq T]; exact hS)
        have HCB : Hid (∀ i, i < N → 0 ≤ cs.getD (markG (picsV ps) i).toNat 0 ∧ cs.getD (markG (picsV ps) i).toNat 0 ≤ 1000000) := Lib.hid (fun i hi => color_bd T hcl hw hi)
        have HML : Hid (∀ i : Nat, i < N → ∃ m : Nat, markG (picsV ps) i = m ∧ m < nc) := Lib.hid (fun i hi => by have := mark_lt T hi; rwa [hM] at this)
        have HG := Lib.hid hG
        have HA2 := Lib.hid hA2
        have HA3 := Lib.hid hA3
        have HBB2 := Lib.hid hB2
        have HBB3 := Lib.hid hB3
        have z3 : ¬ (G : Int) = 0 := by omega
        have z4 : ((G : Int) == 0) = false := by simp; omega
        clear hs T hM hLP hn ha h4 hc hac hw hcl hS hG hA1 hA2 hA3 hB1 hB2 hB3
        go_enter Try.func19, Try.ntmps19
        go_wp2_with fail
        refine CS.out.mono ?_
        rintro e w1 ⟨rfl, hb⟩
        have HB1 := Lib.hid hb
        have HA1 := Lib.hid (HA.out.below hb)
        have HAC1 := Lib.hid (HAC.out.below hb)
        clear hb
        obtain ⟨_, c0, c1, c2⟩ := HA1.out.cells (k := 0) (by have := HT.out.len; omega)
        have ln0 := HA1.out.len (k := 0) (by have := HT.out.len; omega)
        have hnn : (pv ps 0).n = N := by have := (HT.out.ink 0 (by omega)).1; omega
        simp only [Nat.zero_mul, Nat.add_zero] at c0 c1 c2
        rw [hnn] at c2
        clear ln0 hnn
        go_wp2_with fail
        refine (CL.out _).mono ?_
        rintro e w2 ⟨rfl, rfl⟩
        go_wp2_with fail
        refine (CW.out _ HAC1.out).mono ?_
        rintro e w2 ⟨rfl, rfl⟩
        go_wp2_with fail
        go_quiet (fail)
        clear c0 c1 c2
        go_wp2_with fail
        refine (impl_marksOf HT.out (some ⟨b, off, none⟩) cap _ (by first | exact HA1.out.drew | exact HA1.out.below (below_drewN (Below.refl _ _) _))).mono ?_
        rintro e w3 ⟨g, rfl, hg, ho, hb⟩
        have HB3 : Hid (Below w.heap.size w w3) := Lib.hid (by first | exact bTrans HB1.out.drew hb | exact bTrans (below_drewN HB1.out _) hb)
        have HAC3 := Lib.hid (HAC.out.below HB3.out)
        have HO3 := Lib.hid ho
        clear hb ho hg
        go_wp2_with fail
        go_loop [7, 35] (fun s i => ∃ (q : Nat) (V : Int), q ≤ N ∧ s = .int .i64 V ∧ i = .int .i64 q ∧ 0 ≤ V ∧ V ≤ 1000000 * (q : Int) ∧ Hid (sumJ (fun i => cs.getD (markG (picsV ps) i).toNat 0) q = V)) (fun _ i => N - (intOf i).toNat)
        case atStart => exact ⟨0, 0, Nat.zero_le _, rfl, rfl, by omega, by simp, Lib.hid rfl⟩
        case round =>
          obtain ⟨q, V, hq, rfl, rfl, V0, V1, HV⟩ := hrel
          by_cases hlt : q < N
          · have cc3 := HO3.out.cell hlt
            rw [marks_get hlt] at cc3
            obtain ⟨m, hm, hmM⟩ := HML.out q hlt
            obtain ⟨bc, oc, hce, lc, cc⟩ := HAC3.out m (by have := HC.out; omega)
            subst hce
            have hcv := HCB.out q hlt
            have hst : sumJ (fun i => cs.getD (markG (picsV ps) i).toNat 0) (q + 1) = sumJ (fun i => cs.getD (markG (picsV ps) i).toNat 0) q + cs.getD (markG (picsV ps) q).toNat 0 := rfl
            rw [hm, Int.toNat_natCast] at hcv hst
            rw [hm] at cc3
            obtain ⟨D, hD⟩ : ∃ D, cs.getD m 0 = D := ⟨_, rfl⟩
            rw [hD] at hcv hst cc
            rw [HV.out] at hst
            have HST := Lib.hid hst
            obtain ⟨D0, D1⟩ := hcv
            have mm0 : (m : Int) < (nc : Int) := by omega
            clear hst hD hm
            go_wp2_with fail
            go_round
            case rel => exact ⟨q + 1, V + D, by omega, rfl, by go_num, by omega, by push_cast; omega, HST⟩
            case measure => simp [intOf]; omega
          · obtain rfl : q = N := by omega
            have hVS : V = (S : Int) := by rw [← EC.out, ← HV.out]
            subst hVS
            clear V0 V1
            go_wp2_with fail
            ((with_reducible refine (impl_greatestDivisorB S q _ (by omega) (by omega)).mono ?_); (try rw [HG.out]); rintro e w5 ⟨rfl, d5, rfl⟩)
            have a2 := HA2.out
            have a3 := HA3.out
            have b2 := HBB2.out
            have b3 := HBB3.out
            go_wp2_with fail
            go_quiet (fail)
            clear a2 a3 b2 b3
            go_wp2_with fail
            exact bodyPost_ret (v := .tuple #[.int .i64 A, .int .i64 B, .bool true]) (by simp [results, Try.results19, go_sem]) rfl ⟨by rw [ER.out], by first | exact below_drewN HB3.out _ | exact below_drewN (below_drewN HB3.out _) _⟩

end Go.Proofs.Ytkjhpfgcmbigfaa
